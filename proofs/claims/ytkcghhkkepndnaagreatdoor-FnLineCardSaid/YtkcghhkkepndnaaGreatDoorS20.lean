/- Deframe, the model's: of a right Deframer and a text of at most 8000 bytes what the mathematics says; what lay in memory stands. -/
import Derived.Test.YtkcghhkkepndnaaGreatDoorS19
import Derived.Test.YtkcghhkkepndnaaGreatDoorS01
import Derived.Test.YtkcghhkkepndnaaGreatDoorS06
import Derived.Test.YtkcghhkkepndnaaGreatDoorShW
namespace Go.Proofs.YtkcghhkkepndnaaGreatDoor
open Go.RowKit
def Md (w:World) (wide:Bool) (a:Nat) (st:Hd.St) (F:List Hd.Fd) (v5 v6:Value) (wr:World):Prop :=
  ∃ z,wr.heap[w.heap.size]?=some (.cells #[.bool wide,.int .i64 a,.bool st.inn,.bool st.esc,.bool st.long,.string z] 59) ∧
    wr.heap[w.heap.size+1]?=some (.cells #[.bool false,.int .i64 0,.bool false,.bool false,.bool false,.string ⟨#[]⟩,.slice none 0 0,.int .i64 0] 121) ∧
    wr.ownsRow (w.heap.size+2) 113 2 v5 F.length (fcells F)∧RowB wr (w.heap.size+2) v6 st.held∧Below w.heap.size w wr∧w.heap.size+2≤wr.heap.size
theorem row6f {w:World} {B:Nat} {x0 x1 x2 x3 x4 x5:Value} {T:TypeId} (h:w.heap[B]?=some (.cells #[x0,x1,x2,x3,x4,x5] T)) :
    w.frozen? ⟨B,0,none⟩=false∧w.frozen? ⟨B,1,none⟩=false∧w.frozen? ⟨B,2,none⟩=false∧w.frozen? ⟨B,3,none⟩=false∧w.frozen? ⟨B,4,none⟩=false∧w.frozen? ⟨B,5,none⟩=false :=
  ⟨frz h _,frz h _,frz h _,frz h _,frz h _,frz h _⟩
theorem RowB.lower {w:World} {base base':Nat} {v:Value} {l:List UInt8} (h:RowB w base v l) (hb:base'≤base):RowB w base' v l :=
  h.imp id fun ⟨g,cap,cur,fz,h1,h2,h3⟩=>⟨g,cap,cur,fz,h1,Nat.le_trans hb h2,h3⟩
theorem right_of {x:Int} {inn esc long:Bool} {u:ByteArray} (h:rightV x inn esc long u=true):Hd.Right ⟨inn,esc,long,u.data.toList⟩:=by
  have hl:u.data.toList.length=u.size:=by rw [Array.length_toList];rfl
  simp only [rightV,Bool.and_eq_true,Bool.or_eq_true,decide_eq_true_eq,Bool.not_eq_true'] at h
  refine ⟨by rw [hl];exact h.2.1,fun hi=>?_⟩
  rcases h.2.2 with h1 | ⟨h1,h2,h3⟩
  · exact absurd (h1.symm.trans hi) (by decide)
  · exact ⟨h1,h2,List.eq_nil_of_length_eq_zero (hl.trans h3)⟩
theorem own_kb {w w':World} {base:Nat} {v:Value} {n:Nat} {xs:List Value} (h:w.ownsRow base 113 2 v n xs) (hk:Kb base w w'):w'.ownsRow base 113 2 v n xs:=by
  refine ⟨h.1,h.2.imp id fun ⟨g,cap,cur,p1,p2,p3,p4⟩=>⟨g,cap,cur,p1,p2,(hk.block g (Array.getElem?_eq_some_iff.1 p3).1 fun c f e=>?_).trans p3,p4⟩⟩
  rw [p3] at e
  simp at e
theorem far_own {w:World} {D base o:Nat} {e:TypeId} {size:Nat} {v:Value} {n:Nat} {xs:List Value} (h:w.ownsRow base e size v n xs) (hD:D<base) (x:Value):(w.setCell ⟨D,o,none⟩ x).ownsRow base e size v n xs :=
  ⟨h.1,h.2.imp id fun ⟨g,cap,cur,p1,p2,p3,p4⟩=>⟨g,cap,cur,p1,p2,(Below.heap_setCell _ _ _ _ (by show g≠D;omega)).trans p3,p4⟩⟩
theorem far_row {w:World} {D base o:Nat} {v:Value} {l:List UInt8} (h:RowB w base v l) (hD:D<base) (x:Value):RowB (w.setCell ⟨D,o,none⟩ x) base v l :=
  h.keep fun g _ _ hg _=>Below.heap_setCell _ _ _ _ (by show g≠D;omega)
theorem own_below {w w':World} {base:Nat} {e:TypeId} {size:Nat} {v:Value} {n:Nat} {xs:List Value} (h:w.ownsRow base e size v n xs) (hb:Below w.heap.size w w'):w'.ownsRow base e size v n xs :=
  ⟨h.1,h.2.imp id fun ⟨g,cap,cur,p1,p2,p3,p4⟩=>⟨g,cap,cur,p1,p2,(hb.block g (Array.getElem?_eq_some_iff.1 p3).1).trans p3,p4⟩⟩
theorem size_set (w:World) (p:Addr) (x:Value):(w.setCell p x).heap.size=w.heap.size:=by simp [World.setCell]
theorem infoOut2:(Tryz.prog.info? 121).map (·.size)=some 8:=by kernel_rfl
theorem row8s {w:World} {B:Nat} {x0 x1 x2 x3 x4 x5 x6 x7:Value} {T:TypeId} (h:w.heap[B]?=some (.cells #[x0,x1,x2,x3,x4,x5,x6,x7] T)) :
    w.cell? ⟨B,0,none⟩=some x0∧w.cell? ⟨B,1,none⟩=some x1∧w.cell? ⟨B,2,none⟩=some x2∧w.cell? ⟨B,3,none⟩=some x3∧w.cell? ⟨B,4,none⟩=some x4∧w.cell? ⟨B,5,none⟩=some x5∧w.cell? ⟨B,6,none⟩=some x6∧w.cell? ⟨B,7,none⟩=some x7 ∧
    w.frozen? ⟨B,0,none⟩=false∧w.frozen? ⟨B,1,none⟩=false∧w.frozen? ⟨B,2,none⟩=false∧w.frozen? ⟨B,3,none⟩=false∧w.frozen? ⟨B,4,none⟩=false∧w.frozen? ⟨B,5,none⟩=false∧w.frozen? ⟨B,6,none⟩=false∧w.frozen? ⟨B,7,none⟩=false:=by
  refine ⟨?_,?_,?_,?_,?_,?_,?_,?_,frz h _,frz h _,frz h _,frz h _,frz h _,frz h _,frz h _,frz h _⟩
  all_goals
    rw [cell_of_row _ _ _ _ _ _ h]
    rfl
set_option maxHeartbeats 2000000 in
theorem put8_load {W:World} {B:Nat} {x0 x1 x2 x3 x4 x5 x6 x7:Value} (h:W.heap[B]?=some (.cells #[x0,x1,x2,x3,x4,x5,x6,x7] 121)) (y0 y1 y2 y3 y4 y5 y6 y7:Value) :
    (loadVar 121 ⟨B,0,none⟩).run Tryz.prog ((((((((W.setCell ⟨B,0,none⟩ y0).setCell ⟨B,1,none⟩ y1).setCell ⟨B,2,none⟩ y2).setCell ⟨B,3,none⟩ y3).setCell ⟨B,4,none⟩ y4).setCell ⟨B,5,none⟩ y5).setCell ⟨B,6,none⟩ y6).setCell ⟨B,7,none⟩ y7)=.ok (.agg #[y0,y1,y2,y3,y4,y5,y6,y7]) ((((((((W.setCell ⟨B,0,none⟩ y0).setCell ⟨B,1,none⟩ y1).setCell ⟨B,2,none⟩ y2).setCell ⟨B,3,none⟩ y3).setCell ⟨B,4,none⟩ y4).setCell ⟨B,5,none⟩ y5).setCell ⟨B,6,none⟩ y6).setCell ⟨B,7,none⟩ y7):=by
  have h0:(W.setCell ⟨B,0,none⟩ y0).heap[B]?=some (.cells #[y0,x1,x2,x3,x4,x5,x6,x7] 121):=heap_setCell_same _ _ 0 _ _ _ h
  have h1:((W.setCell ⟨B,0,none⟩ y0).setCell ⟨B,1,none⟩ y1).heap[B]?=some (.cells #[y0,y1,x2,x3,x4,x5,x6,x7] 121):=heap_setCell_same _ _ 1 _ _ _ h0
  have h2:(((W.setCell ⟨B,0,none⟩ y0).setCell ⟨B,1,none⟩ y1).setCell ⟨B,2,none⟩ y2).heap[B]?=some (.cells #[y0,y1,y2,x3,x4,x5,x6,x7] 121):=heap_setCell_same _ _ 2 _ _ _ h1
  have h3:((((W.setCell ⟨B,0,none⟩ y0).setCell ⟨B,1,none⟩ y1).setCell ⟨B,2,none⟩ y2).setCell ⟨B,3,none⟩ y3).heap[B]?=some (.cells #[y0,y1,y2,y3,x4,x5,x6,x7] 121):=heap_setCell_same _ _ 3 _ _ _ h2
  have h4:(((((W.setCell ⟨B,0,none⟩ y0).setCell ⟨B,1,none⟩ y1).setCell ⟨B,2,none⟩ y2).setCell ⟨B,3,none⟩ y3).setCell ⟨B,4,none⟩ y4).heap[B]?=some (.cells #[y0,y1,y2,y3,y4,x5,x6,x7] 121):=heap_setCell_same _ _ 4 _ _ _ h3
  have h5:((((((W.setCell ⟨B,0,none⟩ y0).setCell ⟨B,1,none⟩ y1).setCell ⟨B,2,none⟩ y2).setCell ⟨B,3,none⟩ y3).setCell ⟨B,4,none⟩ y4).setCell ⟨B,5,none⟩ y5).heap[B]?=some (.cells #[y0,y1,y2,y3,y4,y5,x6,x7] 121):=heap_setCell_same _ _ 5 _ _ _ h4
  have h6:(((((((W.setCell ⟨B,0,none⟩ y0).setCell ⟨B,1,none⟩ y1).setCell ⟨B,2,none⟩ y2).setCell ⟨B,3,none⟩ y3).setCell ⟨B,4,none⟩ y4).setCell ⟨B,5,none⟩ y5).setCell ⟨B,6,none⟩ y6).heap[B]?=some (.cells #[y0,y1,y2,y3,y4,y5,y6,x7] 121):=heap_setCell_same _ _ 6 _ _ _ h5
  have h7:((((((((W.setCell ⟨B,0,none⟩ y0).setCell ⟨B,1,none⟩ y1).setCell ⟨B,2,none⟩ y2).setCell ⟨B,3,none⟩ y3).setCell ⟨B,4,none⟩ y4).setCell ⟨B,5,none⟩ y5).setCell ⟨B,6,none⟩ y6).setCell ⟨B,7,none⟩ y7).heap[B]?=some (.cells #[y0,y1,y2,y3,y4,y5,y6,y7] 121):=heap_setCell_same _ _ 7 _ _ _ h6
  exact run_loadVar_row (P:=Tryz.prog) _ _ 121 121 #[y0,y1,y2,y3,y4,y5,y6,y7] (0,0) _ h7 Tryz.underlying121 rfl infoOut2
theorem put8_own {W:World} {B base base':Nat} {e:TypeId} {size:Nat} {v:Value} {n:Nat} {xs:List Value} (h:W.ownsRow base e size v n xs) (hB:B<base) (hb:base'≤base) (y0 y1 y2 y3 y4 y5 y6 y7:Value) :
    ((((((((W.setCell ⟨B,0,none⟩ y0).setCell ⟨B,1,none⟩ y1).setCell ⟨B,2,none⟩ y2).setCell ⟨B,3,none⟩ y3).setCell ⟨B,4,none⟩ y4).setCell ⟨B,5,none⟩ y5).setCell ⟨B,6,none⟩ y6).setCell ⟨B,7,none⟩ y7).ownsRow base' e size v n xs:=by
  have h2:=far_own (o:=7) (far_own (o:=6) (far_own (o:=5) (far_own (o:=4) (far_own (o:=3) (far_own (o:=2) (far_own (o:=1) (far_own (o:=0) h hB y0) hB y1) hB y2) hB y3) hB y4) hB y5) hB y6) hB y7
  exact ⟨h2.1,h2.2.imp id fun ⟨g,cap,cur,p1,p2,p3⟩=>⟨g,cap,cur,p1,Nat.le_trans hb p2,p3⟩⟩
theorem put8_below {w W:World} {B N:Nat} (h:Below N w W) (hB:N≤B) (y0 y1 y2 y3 y4 y5 y6 y7:Value) :
    Below N w ((((((((W.setCell ⟨B,0,none⟩ y0).setCell ⟨B,1,none⟩ y1).setCell ⟨B,2,none⟩ y2).setCell ⟨B,3,none⟩ y3).setCell ⟨B,4,none⟩ y4).setCell ⟨B,5,none⟩ y5).setCell ⟨B,6,none⟩ y6).setCell ⟨B,7,none⟩ y7) :=
  (((((((h.setCell (p:=⟨B,0,none⟩) hB _).setCell (p:=⟨B,1,none⟩) hB _).setCell (p:=⟨B,2,none⟩) hB _).setCell (p:=⟨B,3,none⟩) hB _).setCell (p:=⟨B,4,none⟩) hB _).setCell (p:=⟨B,5,none⟩) hB _).setCell (p:=⟨B,6,none⟩) hB _).setCell (p:=⟨B,7,none⟩) hB _
set_option maxHeartbeats 8000000 in
set_option maxRecDepth 100000 in
theorem specDeframe_at (wide:Bool) (a:Nat) (inn esc long:Bool) (u t:ByteArray) (w:World) (ha:a<4294967296) (ht:t.size≤8000) (hu:u.size≤304) (hr:rightV a inn esc long u=true) :
    Calls Tryz.prog 75 #[.agg #[.bool wide,.int .i64 a,.bool inn,.bool esc,.bool long,.string u],.string t] w fun e w'=>∃ v,
      e=.returned (.agg #[.bool wide,.int .i64 a,.bool (Hd.run a ⟨inn,esc,long,u.data.toList⟩ t.data.toList).inn,.bool (Hd.run a ⟨inn,esc,long,u.data.toList⟩ t.data.toList).esc,.bool (Hd.run a ⟨inn,esc,long,u.data.toList⟩ t.data.toList).long,.string (txt (Hd.run a ⟨inn,esc,long,u.data.toList⟩ t.data.toList).held),v,.int .i64 0]) ∧
      w'.ownsRow w.heap.size 113 2 v ((Hd.finds (gd wide) a ⟨inn,esc,long,u.data.toList⟩ t.data.toList).take 400).length (fcells ((Hd.finds (gd wide) a ⟨inn,esc,long,u.data.toList⟩ t.data.toList).take 400))∧Below w.heap.size w w':=by
  have d0:¬ ((8000:Int)<(t.size:Int)):=by omega
  have C1:=hide fun v=>specRight wide a inn esc long u v (by unfold maxLen;omega)
  rw [hr] at C1
  go_enter Tryz.func75,Tryz.ntmps75
  go_wp2_with fail
  refine (uh C1 _).mono ?_
  rintro e w1 ⟨rfl,hb1⟩
  have hsz0:((w.alloc (.cells #[.bool wide,.int .i64 a,.bool inn,.bool esc,.bool long,.string u] 59)).alloc (.cells #[.bool false,.int .i64 0,.bool false,.bool false,.bool false,.string ⟨#[]⟩,.slice none 0 0,.int .i64 0] 121)).heap.size=w.heap.size+2:=by simp
  have hD1:w1.heap[w.heap.size]?=some (.cells #[.bool wide,.int .i64 a,.bool inn,.bool esc,.bool long,.string u] 59):=by
    rw [hb1.block w.heap.size (by rw [hsz0];omega)]
    exact (Below.heap_alloc _ _ _ (by simp)).trans (heap_alloc_last w _)
  have hO1:w1.heap[w.heap.size+1]?=some (.cells #[.bool false,.int .i64 0,.bool false,.bool false,.bool false,.string ⟨#[]⟩,.slice none 0 0,.int .i64 0] 121):=by
    rw [hb1.block (w.heap.size+1) (by rw [hsz0];omega)]
    have h:=heap_alloc_last (w.alloc (.cells #[.bool wide,.int .i64 a,.bool inn,.bool esc,.bool long,.string u] 59)) (.cells #[.bool false,.int .i64 0,.bool false,.bool false,.bool false,.string ⟨#[]⟩,.slice none 0 0,.int .i64 0] 121)
    rw [show (w.alloc (.cells #[.bool wide,.int .i64 a,.bool inn,.bool esc,.bool long,.string u] 59)).heap.size=w.heap.size+1 by simp] at h
    exact h
  have hB1:Below w.heap.size w w1:=(((Below.refl _ _).alloc (Nat.le_refl _) _).alloc (by simp) _).trans (hb1.mono (by rw [hsz0];omega))
  have hs1:w.heap.size+2≤w1.heap.size:=by have:=hb1.size;omega
  obtain ⟨j0,j1,j2,j3,j4,j5⟩:=row6' hD1
  have HX:=hide (And.intro hD1 (And.intro hO1 hB1))
  obtain ⟨vb,W2,hcv,hrow,hb2⟩:=rowB_of u (w1.alloc (.cells #[] 113)) (by omega)
  have hj5:(w1.alloc (.cells #[] 113)).cell? ⟨w.heap.size,5,none⟩=some (.string u):=by
    rw [cell_of_row _ _ _ _ _ _ ((Below.heap_alloc w1 _ _ (by omega)).trans hD1)];rfl
  have hsz2:(w1.alloc (.cells #[] 113)).heap.size=w1.heap.size+1:=by simp
  have HR:=hide hrow
  have HB2:=hide hb2
  clear hD1 hO1 hB1 hb1 C1 hrow hb2
  go_wp2_with fail
  go_loopw [5,6,7] (fun v5 v6 i wr=>∃ (k:Nat),k≤t.size∧i=.int .i64 k∧Md w wide a (Hd.run a ⟨inn,esc,long,u.data.toList⟩ (t.data.toList.take k)) ((Hd.finds (gd wide) a ⟨inn,esc,long,u.data.toList⟩ (t.data.toList.take k)).take 400) v5 v6 wr) (fun _ _ i _=>t.size - (intOf i).toNat)
  case atStart =>
    have hHB:=uh HB2
    have hXX:=uh HX
    refine ⟨0,Nat.zero_le _,rfl,u,?_,?_,?_,(uh HR).lower (by omega),hXX.2.2.trans (((Below.refl _ _).alloc (by omega) _).trans (hHB.mono (by omega))),by have:=hHB.size;omega⟩
    · exact (hHB.block w.heap.size (by omega)).trans ((Below.heap_alloc w1 _ _ (by omega)).trans hXX.1)
    · exact (hHB.block (w.heap.size+1) (by omega)).trans ((Below.heap_alloc w1 _ _ (by omega)).trans hXX.2.1)
    · exact ⟨rfl,Or.inr ⟨w1.heap.size,0,#[],rfl,hs1,(hHB.block w1.heap.size (by omega)).trans (heap_alloc_last w1 _),Nat.le_refl _,Nat.zero_le _,rfl,rfl⟩⟩
  case round =>
    obtain ⟨k,hk,rfl,hMd⟩:=hrel
    have hRt:=Hd.run_right a (t.data.toList.take k) ⟨inn,esc,long,u.data.toList⟩ (right_of hr)
    by_cases hlt:k<t.size
    · have HS:Hid (Hd.run a ⟨inn,esc,long,u.data.toList⟩ (t.data.toList.take (k+1))=Hd.nxt a (Hd.run a ⟨inn,esc,long,u.data.toList⟩ (t.data.toList.take k)) t[k]):=hide (by rw [take_snoc t k hlt,Hd.run_snoc])
      have HF:Hid ((Hd.finds (gd wide) a ⟨inn,esc,long,u.data.toList⟩ (t.data.toList.take (k+1))).take 400=(if ((Hd.finds (gd wide) a ⟨inn,esc,long,u.data.toList⟩ (t.data.toList.take k)).take 400).length<400 then (Hd.finds (gd wide) a ⟨inn,esc,long,u.data.toList⟩ (t.data.toList.take k)).take 400 ++ Hd.fnd (gd wide) (Hd.run a ⟨inn,esc,long,u.data.toList⟩ (t.data.toList.take k)) t[k] else (Hd.finds (gd wide) a ⟨inn,esc,long,u.data.toList⟩ (t.data.toList.take k)).take 400)):=by
        refine hide ?_
        rw [take_snoc t k hlt,Hd.finds_snoc,Hd.take_more _ _ _ (by unfold Hd.fnd;split;exact Hd.endOf_le _ _;simp)]
      have hF4:((Hd.finds (gd wide) a ⟨inn,esc,long,u.data.toList⟩ (t.data.toList.take k)).take 400).length≤400:=by rw [List.length_take];omega
      generalize (Hd.finds (gd wide) a ⟨inn,esc,long,u.data.toList⟩ (t.data.toList.take k)).take 400=F at *
      generalize Hd.run a ⟨inn,esc,long,u.data.toList⟩ (t.data.toList.take k)=st at *
      obtain ⟨sin,sesc,slong,sheld⟩:=st
      obtain ⟨z,hD,hO,hown,hrow,hB,hsz⟩:=hMd
      have hh:=hRt.1
      have d1:(k:Int)<(t.size:Int):=by omega
      obtain ⟨c,hc⟩:∃ c,t[k]=c:=⟨_,rfl⟩
      rw [hc] at HS HF
      obtain ⟨p0,p1,p2,p3,p4,p5⟩:=row6' hD
      obtain ⟨f0,f1,f2,f3,f4,f5⟩:=row6f hD
      obtain ⟨ad6,cp6,hv6⟩:=hrow.form
      obtain ⟨ad5,cp5,hv5⟩:=own_form hown
      have HD:=hide hD
      have HO:=hide hO
      have HW:=hide hown
      have HRw:=hide hrow
      have hcvb:=hrow.conv
      clear hD hO hown hrow HR HB2 HX hj5 j0 j1 j2 j3 j4 j5 hcv hRt
      subst hv6 hv5
      dsimp only at *
      by_cases e1:c=0x7e
      · have g1:((c.toNat:Int) == 126)=true:=by rw [e1];rfl
        have HN:Hid (Hd.nxt a ⟨sin,sesc,slong,sheld⟩ c=⟨true,false,false,[]⟩):=hide (by unfold Hd.nxt;rw [if_pos e1])
        have HFN:Hid (Hd.fnd (gd wide) ⟨sin,sesc,slong,sheld⟩ c=Hd.endOf (gd wide) ⟨sin,sesc,slong,sheld⟩):=hide (by unfold Hd.fnd;rw [if_pos e1])
        rw [uh HFN] at HF
        have HEL:=hide (Hd.endOf_le (gd wide) ⟨sin,sesc,slong,sheld⟩)
        have C:=hide fun v=>specEnd wide a sin sesc slong (txt sheld) v (by rw [txt_size];exact hh)
        rw [data_txt] at C
        have HSD:Hid ((wr.setCell ⟨w.heap.size,5,none⟩ (.string (txt sheld))).heap[w.heap.size]?=some (.cells #[.bool wide,.int .i64 a,.bool sin,.bool sesc,.bool slong,.string (txt sheld)] 59)):=hide (heap_setCell_same _ _ 5 _ _ _ (uh HD))
        have HSO:Hid ((wr.setCell ⟨w.heap.size,5,none⟩ (.string (txt sheld))).heap[w.heap.size+1]?=some (.cells #[.bool false,.int .i64 0,.bool false,.bool false,.bool false,.string ⟨#[]⟩,.slice none 0 0,.int .i64 0] 121)):=hide ((Below.heap_setCell _ _ _ _ (by show w.heap.size+1≠w.heap.size;omega)).trans (uh HO))
        have HSW:=hide (far_own (o:=5) (uh HW) (show w.heap.size<w.heap.size+2 by omega) (.string (txt sheld)))
        have HSB:=hide (hB.setCell (p:=⟨w.heap.size,5,none⟩) (Nat.le_refl _) (.string (txt sheld)))
        have hss:=size_set wr ⟨w.heap.size,5,none⟩ (.string (txt sheld))
        obtain ⟨r0,r1,r2,r3,r4,r5⟩:=row6' (uh HSD)
        generalize Hd.endOf (gd wide) ⟨sin,sesc,slong,sheld⟩=E at *
        clear HFN
        go_wp2_with fail
        clear r0 r1 r2 r3 r4 r5
        refine (uh C _).mono ?_
        rintro e w3 ⟨rfl,hb3⟩
        have HD3:=hide ((hb3.block w.heap.size (by rw [hss];omega)).trans (uh HSD))
        have HO3:=hide ((hb3.block (w.heap.size+1) (by rw [hss];omega)).trans (uh HSO))
        have HW3:=hide (own_below (uh HSW) hb3)
        have hb3':Below w.heap.size w w3:=(uh HSB).trans (hb3.mono (by rw [hss];omega))
        have hs3:w.heap.size+2≤w3.heap.size:=by have:=hb3.size;omega
        clear hb3 HSD HSO HSW HSB hss C p0 p1 p2 p3 p4 p5 f0 f1 f2 f3 f4 f5 hcvb HRw HW HO HD hB
        have FIN:Hid (∀ (v5:Value) (W:World) (F':List Hd.Fd),W.heap[w.heap.size]?=some (.cells #[.bool wide,.int .i64 a,.bool sin,.bool sesc,.bool slong,.string (txt sheld)] 59)→W.heap[w.heap.size+1]?=some (.cells #[.bool false,.int .i64 0,.bool false,.bool false,.bool false,.string ⟨#[]⟩,.slice none 0 0,.int .i64 0] 121)→W.ownsRow (w.heap.size+2) 113 2 v5 F'.length (fcells F')→Below w.heap.size w W→w.heap.size+2≤W.heap.size →
            Md w wide a ⟨true,false,false,[]⟩ F' v5 (.slice none 0 0) (((W.setCell ⟨w.heap.size,2,none⟩ (.bool true)).setCell ⟨w.heap.size,3,none⟩ (.bool false)).setCell ⟨w.heap.size,4,none⟩ (.bool false))):=by
          refine hide fun v5 W F' h1 h2 h3 h4 h5=>⟨txt sheld,heap_setCell_same _ _ 4 _ _ _ (heap_setCell_same _ _ 3 _ _ _ (heap_setCell_same _ _ 2 _ _ _ h1)),?_,far_own (far_own (far_own h3 (by omega) _) (by omega) _) (by omega) _,RowB.nil _ _,((h4.setCell (p:=⟨w.heap.size,2,none⟩) (Nat.le_refl _) _).setCell (p:=⟨w.heap.size,3,none⟩) (Nat.le_refl _) _).setCell (p:=⟨w.heap.size,4,none⟩) (Nat.le_refl _) _,by rw [size_set,size_set,size_set];exact h5⟩
          exact (Below.heap_setCell _ _ _ _ (by show w.heap.size+1≠w.heap.size;omega)).trans ((Below.heap_setCell _ _ _ _ (by show w.heap.size+1≠w.heap.size;omega)).trans ((Below.heap_setCell _ _ _ _ (by show w.heap.size+1≠w.heap.size;omega)).trans h2))
        rcases E with _ | ⟨f,E⟩
        · have hW4:(w3.alloc (.cells #[.int .i64 0,.string ⟨#[]⟩] 113)).heap[w.heap.size]?=_:=(Below.heap_alloc w3 _ _ (by omega)).trans (uh HD3)
          obtain ⟨r0,r1,r2,r3,r4,r5⟩:=row6' hW4
          obtain ⟨f0,f1,f2,f3,f4,f5⟩:=row6f hW4
          have HW4:=hide hW4
          clear hW4
          have HF2:Hid ((Hd.finds (gd wide) a ⟨inn,esc,long,u.data.toList⟩ (t.data.toList.take (k+1))).take 400=F):=hide (by rw [uh HF,List.append_nil];split<;>rfl)
          unfold endV
          go_wp2_with fail
          go_roundw
          case rel =>
            refine ⟨k+1,by omega,by go_num,?_⟩
            rw [uh HS,uh HF2,uh HN]
            exact uh FIN _ _ _ (uh HW4) ((Below.heap_alloc w3 _ _ (by omega)).trans (uh HO3)) ((uh HW3).alloc _) (hb3'.alloc (by omega) _) (by simp;omega)
          case measure=>simp [intOf];omega
        · obtain rfl:E=[]:=by have:=uh HEL;simpa using this
          have hW4:(w3.alloc (.cells #[.int .i64 f.kind,.string (txt f.text)] 113)).heap[w.heap.size]?=_:=(Below.heap_alloc w3 _ _ (by omega)).trans (uh HD3)
          have hO4:(w3.alloc (.cells #[.int .i64 f.kind,.string (txt f.text)] 113)).heap[w.heap.size+1]?=_:=(Below.heap_alloc w3 _ _ (by omega)).trans (uh HO3)
          have hN4:(w3.alloc (.cells #[.int .i64 f.kind,.string (txt f.text)] 113)).heap[w3.heap.size]?=some (.cells #[.int .i64 f.kind,.string (txt f.text)] 113):=heap_alloc_last w3 _
          have ho4:=(uh HW3).alloc (.cells #[.int .i64 f.kind,.string (txt f.text)] 113)
          have hb4:Below w.heap.size w (w3.alloc (.cells #[.int .i64 f.kind,.string (txt f.text)] 113)):=hb3'.alloc (by omega) _
          have hs4:(w3.alloc (.cells #[.int .i64 f.kind,.string (txt f.text)] 113)).heap.size=w3.heap.size+1:=by simp
          unfold endV
          by_cases h400:F.length<400
          · have HF2:Hid ((Hd.finds (gd wide) a ⟨inn,esc,long,u.data.toList⟩ (t.data.toList.take (k+1))).take 400=F ++ [f]):=hide (by rw [uh HF,if_pos h400])
            have g4:decide ((F.length:Int)<400)=true:=decide_eq_true (by omega)
            obtain ⟨fi,hi1,hi2,hi3,hi4⟩:=finfo
            have HO5:Hid (((w3.alloc (.cells #[.int .i64 f.kind,.string (txt f.text)] 113)).alloc (.cells #[.int .i64 f.kind,.string (txt f.text)] 113)).ownsRow (w.heap.size+2) 113 2 (.slice ad5 F.length cp5) F.length (fcells F)):=hide (ho4.alloc _)
            have HN5:Hid (((w3.alloc (.cells #[.int .i64 f.kind,.string (txt f.text)] 113)).alloc (.cells #[.int .i64 f.kind,.string (txt f.text)] 113)).heap[w3.heap.size+1]?=some (.cells #[.int .i64 f.kind,.string (txt f.text)] 113)):=hide (by
              have h:=heap_alloc_last (w3.alloc (.cells #[.int .i64 f.kind,.string (txt f.text)] 113)) (.cells #[.int .i64 f.kind,.string (txt f.text)] 113)
              rw [hs4] at h
              exact h)
            have HOLD:Hid (∀ g,g<w3.heap.size+1→((w3.alloc (.cells #[.int .i64 f.kind,.string (txt f.text)] 113)).alloc (.cells #[.int .i64 f.kind,.string (txt f.text)] 113)).heap[g]?=(w3.alloc (.cells #[.int .i64 f.kind,.string (txt f.text)] 113)).heap[g]?):=hide fun g hg=>Below.heap_alloc _ _ _ (by rw [hs4];exact hg)
            have HB5:=hide (hb4.alloc (by rw [hs4];omega) (.cells #[.int .i64 f.kind,.string (txt f.text)] 113))
            have HW4:=hide hW4
            have HO4:=hide hO4
            clear hW4 hO4 ho4 hb4 HD3 HO3 HW3
            go_wp2_with (first
              | (at_builtin
                 refine wpList_append_own _ rfl _ _ 110 rfl (w.heap.size+2) 113 fi (.agg #[.int .i64 0,.string ⟨#[]⟩]) 2 24 Tryz.underlying110 hi1 hi2 hi3 hi4 rfl (by decide) (.slice ad5 F.length cp5) F.length (fcells F) rfl (uh HO5) ⟨w3.heap.size+1,0,none⟩ 1 1 (fcells [f]) rfl rfl ?_ (fcells_one [f]) (by unfold maxLen;omega) (by omega) (by simp;omega) ?_
                 · intro i v hv
                   rw [Addr.add_lit,Nat.zero_add,cell_of_row _ _ _ _ _ _ (uh HN5),← hv,← Array.getElem?_toList]
                   rfl
                 rintro v' w5 hown5 hg5 _
                 have hne:∀ g,g<w.heap.size+2→some g≠(Value.slice ad5 F.length cp5).ownBlock:=fun g hg h=>by
                   have:=World.ownsRow.lt (uh HO5) g h.symm
                   omega
                 have hD5:=(hg5.block w.heap.size (by simp;omega) (hne _ (by omega))).trans ((uh HOLD _ (by omega)).trans (uh HW4))
                 have hO5:=(hg5.block (w.heap.size+1) (by simp;omega) (hne _ (by omega))).trans ((uh HOLD _ (by omega)).trans (uh HO4))
                 have HB6:=hide ((uh HB5).grown hg5 (by simp;omega) (fun q hq=>by have:=World.ownsRow.lt (uh HO5) q hq;omega))
                 have hs5:=hg5.size
                 obtain ⟨r0,r1,r2,r3,r4,r5⟩:=row6' hD5
                 obtain ⟨f0,f1,f2,f3,f4,f5⟩:=row6f hD5
                 have HD5:=hide hD5
                 have HO6:=hide hO5
                 have HW5:=hide hown5
                 clear hD5 hO5 hown5 hg5 hne))
            go_roundw
            case rel =>
              refine ⟨k+1,by omega,by go_num,?_⟩
              rw [uh HS,uh HF2,uh HN]
              refine uh FIN _ _ _ (uh HD5) (uh HO6) ?_ (uh HB6) (by simp at hs5;omega)
              rw [fcells_append,List.length_append]
              exact uh HW5
            case measure=>simp [intOf];omega
          · have HF2:Hid ((Hd.finds (gd wide) a ⟨inn,esc,long,u.data.toList⟩ (t.data.toList.take (k+1))).take 400=F):=hide (by rw [uh HF,if_neg h400])
            have g4:decide ((F.length:Int)<400)=false:=decide_eq_false (by omega)
            obtain ⟨r0,r1,r2,r3,r4,r5⟩:=row6' hW4
            obtain ⟨f0,f1,f2,f3,f4,f5⟩:=row6f hW4
            have HW4:=hide hW4
            have HO4:=hide hO4
            have HOw:=hide ho4
            clear hW4 hO4 ho4 HD3 HO3 HW3
            go_wp2_with fail
            go_roundw
            case rel =>
              refine ⟨k+1,by omega,by go_num,?_⟩
              rw [uh HS,uh HF2,uh HN]
              exact uh FIN _ _ _ (uh HW4) (uh HO4) (uh HOw) hb4 (by rw [hs4];omega)
            case measure=>simp [intOf];omega
      · have g1:((c.toNat:Int) == 126)=false:=u8_ne e1
        have HFN:Hid (Hd.fnd (gd wide) ⟨sin,sesc,slong,sheld⟩ c=[]):=hide (by unfold Hd.fnd;rw [if_neg e1])
        have HF2:Hid ((Hd.finds (gd wide) a ⟨inn,esc,long,u.data.toList⟩ (t.data.toList.take (k+1))).take 400=F):=hide (by rw [uh HF,uh HFN,List.append_nil];split<;>rfl)
        clear HF HFN
        have C:=hide fun v=>specMapped a c v ha
        cases sin
        · have HN:Hid (Hd.nxt a ⟨false,sesc,slong,sheld⟩ c=⟨false,sesc,slong,sheld⟩):=hide (by unfold Hd.nxt;rw [if_neg e1,if_pos (by simp)])
          go_wp2_with fail
          go_roundw
          case rel =>
            refine ⟨k+1,by omega,by go_num,?_⟩
            rw [uh HS,uh HF2,uh HN]
            exact ⟨z,uh HD,uh HO,uh HW,uh HRw,hB,hsz⟩
          case measure=>simp [intOf];omega
        · cases hm:Hd.mapped a c
          · rw [hm] at C
            have hxo:=xor20 c
            have HSD:Hid ((wr.setCell ⟨w.heap.size,3,none⟩ (.bool false)).heap[w.heap.size]?=some (.cells #[.bool wide,.int .i64 a,.bool true,.bool false,.bool slong,.string z] 59)):=hide (heap_setCell_same _ _ 3 _ _ _ (uh HD))
            have HSO:Hid ((wr.setCell ⟨w.heap.size,3,none⟩ (.bool false)).heap[w.heap.size+1]?=some (.cells #[.bool false,.int .i64 0,.bool false,.bool false,.bool false,.string ⟨#[]⟩,.slice none 0 0,.int .i64 0] 121)):=hide ((Below.heap_setCell _ _ _ _ (by show w.heap.size+1≠w.heap.size;omega)).trans (uh HO))
            have HSW:=hide (far_own (o:=3) (uh HW) (show w.heap.size<w.heap.size+2 by omega) (.bool false))
            have HSR:=hide (far_row (o:=3) (uh HRw) (show w.heap.size<w.heap.size+2 by omega) (.bool false))
            have HSB:=hide (hB.setCell (p:=⟨w.heap.size,3,none⟩) (Nat.le_refl _) (.bool false))
            have hss:=size_set wr ⟨w.heap.size,3,none⟩ (.bool false)
            have fS4:(wr.setCell ⟨w.heap.size,3,none⟩ (.bool false)).cell? ⟨w.heap.size,4,none⟩=some (.bool slong):=by rw [cell_of_row _ _ _ _ _ _ (uh HSD)];rfl
            have fSf:(wr.setCell ⟨w.heap.size,3,none⟩ (.bool false)).frozen? ⟨w.heap.size,4,none⟩=false:=frz (uh HSD) _
            by_cases h7:c=0x7d∧sesc=false
            · obtain ⟨rfl,rfl⟩:=h7
              have HN:Hid (Hd.nxt a ⟨true,false,slong,sheld⟩ 0x7d=⟨true,true,slong,sheld⟩):=hide (by unfold Hd.nxt;rw [if_neg (by decide),if_neg (by simp [hm]),if_pos (by simp)])
              clear hxo HSD HSO HSW HSR HSB hss fS4 fSf
              go_wp2_with (first
                | (go_at_call 104;refine (uh C _).mono ?_;rintro e w3 ⟨rfl,hw⟩;replace hw:=hw.symm;subst hw))
              go_roundw
              case rel =>
                refine ⟨k+1,by omega,by go_num,?_⟩
                rw [uh HS,uh HF2,uh HN]
                exact ⟨z,heap_setCell_same _ _ 3 _ _ _ (uh HD),(Below.heap_setCell _ _ _ _ (by show w.heap.size+1≠w.heap.size;omega)).trans (uh HO),far_own (uh HW) (by omega) _,far_row (uh HRw) (by omega) _,hB.setCell (p:=⟨w.heap.size,3,none⟩) (Nat.le_refl _) _,by rw [size_set];exact hsz⟩
              case measure=>simp [intOf];omega
            · have g2:sesc=true∨(sesc=false∧((c.toNat:Int) == 125)=false):=by
                cases sesc
                · exact Or.inr ⟨rfl,u8_ne fun e=>h7 ⟨e,rfl⟩⟩
                · exact Or.inl rfl
              have HNx:Hid (Hd.nxt a ⟨true,sesc,slong,sheld⟩ c=Hd.put ⟨true,sesc,slong,sheld⟩ (if sesc then c ^^^ 0x20 else c)):=hide (by unfold Hd.nxt;rw [if_neg e1,if_neg (by simp [hm]),if_neg h7])
              by_cases hl4:304≤sheld.length
              · have g4:(304:Int)≤(sheld.length:Int):=by omega
                have HN:Hid (Hd.nxt a ⟨true,sesc,slong,sheld⟩ c=⟨true,false,true,sheld⟩):=hide (by rw [uh HNx];unfold Hd.put;rw [if_pos hl4])
                clear HNx h7
                rcases g2 with rfl | ⟨rfl,g3⟩
                · cases g5:((c.toNat:Int) == 125)
                  all_goals
                    go_wp2_with (first
                      | (go_at_call 104;refine (uh C _).mono ?_;rintro e w3 ⟨rfl,hw⟩;replace hw:=hw.symm;subst hw))
                    go_roundw
                    case rel =>
                      refine ⟨k+1,by omega,by go_num,?_⟩
                      rw [uh HS,uh HF2,uh HN]
                      exact ⟨z,heap_setCell_same _ _ 4 _ _ _ (uh HSD),(Below.heap_setCell _ _ _ _ (by show w.heap.size+1≠w.heap.size;omega)).trans (uh HSO),far_own (uh HSW) (by omega) _,far_row (uh HSR) (by omega) _,(uh HSB).setCell (p:=⟨w.heap.size,4,none⟩) (Nat.le_refl _) _,by rw [size_set,size_set];exact hsz⟩
                    case measure=>simp [intOf];omega
                · go_wp2_with (first
                    | (go_at_call 104;refine (uh C _).mono ?_;rintro e w3 ⟨rfl,hw⟩;replace hw:=hw.symm;subst hw))
                  go_roundw
                  case rel =>
                    refine ⟨k+1,by omega,by go_num,?_⟩
                    rw [uh HS,uh HF2,uh HN]
                    exact ⟨z,heap_setCell_same _ _ 4 _ _ _ (uh HSD),(Below.heap_setCell _ _ _ _ (by show w.heap.size+1≠w.heap.size;omega)).trans (uh HSO),far_own (uh HSW) (by omega) _,far_row (uh HSR) (by omega) _,(uh HSB).setCell (p:=⟨w.heap.size,4,none⟩) (Nat.le_refl _) _,by rw [size_set,size_set];exact hsz⟩
                  case measure=>simp [intOf];omega
              · have g4:¬ ((304:Int)≤(sheld.length:Int)):=by omega
                have HN:Hid (Hd.nxt a ⟨true,sesc,slong,sheld⟩ c=⟨true,false,slong,sheld ++ [if sesc then c ^^^ 0x20 else c]⟩):=hide (by rw [uh HNx];unfold Hd.put;rw [if_neg hl4])
                clear HNx h7 fS4 fSf
                rcases g2 with rfl | ⟨rfl,g3⟩
                · obtain ⟨c',hc'⟩:∃ c',c ^^^ 0x20=c':=⟨_,rfl⟩
                  rw [hc'] at hxo HN
                  clear hc'
                  cases g5:((c.toNat:Int) == 125)
                  all_goals
                    go_wp2_with (first
                      | (go_at_call 104;refine (uh C _).mono ?_;rintro e w3 ⟨rfl,hw⟩;replace hw:=hw.symm;subst hw)
                      | (at_builtin;refine append_b rfl _ _ rfl (w.heap.size+2) _ sheld c' rfl (uh HSR) _ rfl (by rw [hss];rfl) (by omega) (by rw [hss];exact hsz) ?_;rintro v7 w7 hr7 hk7;have HR7:=hide hr7;have HK7:=hide hk7;clear hr7 hk7))
                    go_roundw
                    case rel =>
                      refine ⟨k+1,by omega,by go_num,?_⟩
                      rw [uh HS,uh HF2,uh HN]
                      exact ⟨z,((uh HK7).below.block w.heap.size (by omega)).trans (uh HSD),((uh HK7).below.block (w.heap.size+1) (by omega)).trans (uh HSO),own_kb (uh HSW) (uh HK7),uh HR7,(uh HSB).trans ((uh HK7).below.mono (by omega)),by have:=(uh HK7).below.size;omega⟩
                    case measure=>simp [intOf];omega
                · go_wp2_with (first
                    | (go_at_call 104;refine (uh C _).mono ?_;rintro e w3 ⟨rfl,hw⟩;replace hw:=hw.symm;subst hw)
                    | (at_builtin;refine append_b rfl _ _ rfl (w.heap.size+2) _ sheld c rfl (uh HSR) _ rfl (by rw [hss];rfl) (by omega) (by rw [hss];exact hsz) ?_;rintro v7 w7 hr7 hk7;have HR7:=hide hr7;have HK7:=hide hk7;clear hr7 hk7))
                  go_roundw
                  case rel =>
                    refine ⟨k+1,by omega,by go_num,?_⟩
                    rw [uh HS,uh HF2,uh HN]
                    exact ⟨z,((uh HK7).below.block w.heap.size (by omega)).trans (uh HSD),((uh HK7).below.block (w.heap.size+1) (by omega)).trans (uh HSO),own_kb (uh HSW) (uh HK7),uh HR7,(uh HSB).trans ((uh HK7).below.mono (by omega)),by have:=(uh HK7).below.size;omega⟩
                  case measure=>simp [intOf];omega
          · rw [hm] at C
            have HN:Hid (Hd.nxt a ⟨true,sesc,slong,sheld⟩ c=⟨true,sesc,slong,sheld⟩):=hide (by unfold Hd.nxt;rw [if_neg e1,if_pos (by simp [hm])])
            go_wp2_with (first
              | (go_at_call 104;refine (uh C _).mono ?_;rintro e w3 ⟨rfl,hw⟩;replace hw:=hw.symm;subst hw))
            go_roundw
            case rel =>
              refine ⟨k+1,by omega,by go_num,?_⟩
              rw [uh HS,uh HF2,uh HN]
              exact ⟨z,uh HD,uh HO,uh HW,uh HRw,hB,hsz⟩
            case measure=>simp [intOf];omega
    · have hall:t.data.toList.take k=t.data.toList:=List.take_of_length_le (by have:t.data.toList.length=t.size:=by { rw [Array.length_toList];rfl };omega)
      rw [hall] at hMd
      obtain ⟨F,hFe⟩:∃ F,(Hd.finds (gd wide) a ⟨inn,esc,long,u.data.toList⟩ t.data.toList).take 400=F:=⟨_,rfl⟩
      rw [hFe] at hMd
      have HFE:=hide hFe
      clear hFe
      have HK:=hide hMd
      clear hMd hRt hall
      obtain ⟨st,hst⟩:∃ st,Hd.run a ⟨inn,esc,long,u.data.toList⟩ t.data.toList=st:=⟨_,rfl⟩
      have hMd:=uh HK
      rw [hst] at hMd
      obtain ⟨sin,sesc,slong,sheld⟩:=st
      have HST:=hide hst
      clear HK hst
      obtain ⟨z,hD,hO,hown,hrow,hB,hsz⟩:=hMd
      have d1:¬ ((k:Int)<(t.size:Int)):=by omega
      obtain ⟨p0,p1,p2,p3,p4,p5⟩:=row6' hD
      obtain ⟨f0,f1,f2,f3,f4,f5⟩:=row6f hD
      have hcvb:=hrow.conv
      have hD2:(wr.setCell ⟨w.heap.size,5,none⟩ (.string (txt sheld))).heap[w.heap.size]?=some (.cells #[.bool wide,.int .i64 a,.bool sin,.bool sesc,.bool slong,.string (txt sheld)] 59):=heap_setCell_same _ _ 5 _ _ _ hD
      have hO2:(wr.setCell ⟨w.heap.size,5,none⟩ (.string (txt sheld))).heap[w.heap.size+1]?=some (.cells #[.bool false,.int .i64 0,.bool false,.bool false,.bool false,.string ⟨#[]⟩,.slice none 0 0,.int .i64 0] 121):=(Below.heap_setCell _ _ _ _ (by show w.heap.size+1≠w.heap.size;omega)).trans hO
      obtain ⟨r0,r1,r2,r3,r4,r5⟩:=row6' hD2
      obtain ⟨o0,o1,o2,o3,o4,o5,o6,o7,q0,q1,q2,q3,q4,q5,q6,q7⟩:=row8s hO2
      have HL:=hide (put8_load hO2)
      have HW:=hide (put8_own (far_own (o:=5) hown (show w.heap.size<w.heap.size+2 by omega) (.string (txt sheld))) (show w.heap.size+1<w.heap.size+2 by omega) (show w.heap.size≤w.heap.size+2 by omega))
      have HBB:=hide (put8_below (B:=w.heap.size+1) (hB.setCell (p:=⟨w.heap.size,5,none⟩) (Nat.le_refl _) (.string (txt sheld))) (show w.heap.size≤w.heap.size+1 by omega))
      obtain ⟨ad5,cp5,hv5⟩:=own_form hown
      clear hD hO hown hrow hB hD2 hO2 HR HB2 HX hj5 j0 j1 j2 j3 j4 j5 hcv
      subst hv5
      dsimp only at *
      go_wp2
      refine bodyPost_ret (v:=.agg #[.bool wide,.int .i64 a,.bool sin,.bool sesc,.bool slong,.string (txt sheld),(.slice ad5 F.length cp5),.int .i64 0]) ?_ rfl ⟨(.slice ad5 F.length cp5),by rw [uh HST],?_,?_⟩
      · have hld:=uh HL (.bool wide) (.int .i64 a) (.bool sin) (.bool sesc) (.bool slong) (.string (txt sheld)) (.slice ad5 F.length cp5) (.int .i64 0)
        rw [results_cell rfl]
        simp [asAddr,Result.andThen,hld]
      · have hl4:min 400 (Hd.finds (gd wide) a ⟨inn,esc,long,u.data.toList⟩ t.data.toList).length=F.length:=by rw [← uh HFE,List.length_take]
        rw [hl4,uh HFE]
        exact uh HW _ _ _ _ _ _ _ _
      · exact uh HBB _ _ _ _ _ _ _ _
end Go.Proofs.YtkcghhkkepndnaaGreatDoor
