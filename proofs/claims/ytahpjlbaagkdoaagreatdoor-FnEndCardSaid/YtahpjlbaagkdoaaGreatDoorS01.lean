/- FsmS Acts FsmI LaidEb Lies Opt -/
import Derived.Test.YtahpjlbaagkdoaaGreatDoorS00
import Derived.Deep.WholeRow
import Derived.Great.Walk
import Derived.Test.YtahpjlbaagkdoaaGreatDoorFld
import Derived.Lib.AppendStr
set_option maxHeartbeats 4000000
set_option maxRecDepth 100000
namespace Go.Proofs.YtahpjlbaagkdoaaGreatDoor
open Go.RowKit Go.Proofs.Tryz
def fsmX (s:Nat) (t:ByteArray):ByteArray:=((splitOf (rowOf t) 44)[s]?).getD ⟨#[]⟩
def fsmF (s:Int) (t:ByteArray):Int × List ByteArray × Int :=
 if 8000<t.size then (0,[],2) else if ¬ (0≤s∧s≤9) then (0,[],5) else if rowOf t=⟨#[]⟩ then (0,[],6) else if (fsmX s.toNat t).toList=[45] then (s,[],8)
 else (((fsmX s.toNat t).data.toList.getLastD 0).toNat - 48,if 2<(fsmX s.toNat t).size then splitOf ((fsmX s.toNat t).extract 0 ((fsmX s.toNat t).size - 2)) 32 else [],0)
theorem infoT:(prog.info? 126).map (·.size)=some 3:=by kernel_rfl
theorem loadT {W:World} {E:Nat} {x0 x1 x2:Value} (h:W.heap[E]?=some (.cells #[x0,x1,x2] 126)):(loadVar 126 ⟨E,0,none⟩).run prog W=.ok (.agg #[x0,x1,x2]) W :=
 run_loadVar_row (P:=prog) _ _ 126 126 #[x0,x1,x2] (0,0) _ h underlying126 rfl infoT
theorem set3_at {W:World} {E:Nat} {z0 z1 z2:Value} {T:TypeId} (h:W.heap[E]?=some (.cells #[z0,z1,z2] T)) (x0 x1 x2:Value) :
  (((W.setCell ⟨E,0,none⟩ x0).setCell ⟨E,1,none⟩ x1).setCell ⟨E,2,none⟩ x2).heap[E]?=some (.cells #[x0,x1,x2] T) :=
 heap_setCell_same _ _ 2 _ _ x2 (heap_setCell_same _ _ 1 _ _ x1 (heap_setCell_same _ _ 0 _ _ x0 h))
theorem set3_below {n:Nat} {w W:World} {E:Nat} (h:Below n w W) (hE:n≤E) (x0 x1 x2:Value):Below n w (((W.setCell ⟨E,0,none⟩ x0).setCell ⟨E,1,none⟩ x1).setCell ⟨E,2,none⟩ x2) :=
 ((h.setCell (p:=⟨E,0,none⟩) hE _).setCell (p:=⟨E,1,none⟩) hE _).setCell (p:=⟨E,2,none⟩) hE _
theorem row3x {w:World} {B:Nat} {x0 x1 x2:Value} {T:TypeId} (h:w.heap[B]?=some (.cells #[x0,x1,x2] T)) :
  w.cell? ⟨B,0,none⟩=some x0∧w.cell? ⟨B,1,none⟩=some x1∧w.cell? ⟨B,2,none⟩=some x2∧w.frozen? ⟨B,0,none⟩=false∧w.frozen? ⟨B,1,none⟩=false∧w.frozen? ⟨B,2,none⟩=false :=
 ⟨by rw [cr h];rfl,by rw [cr h];rfl,by rw [cr h];rfl,frz h _,frz h _,frz h _⟩
theorem specIs9 (x:Int) (w:World):Calls prog 72 #[.int .i64 x,.int .i64 0,.int .i64 9] w fun e w'=>e=.returned (.bool (decide (0≤x) && decide (x≤9)))∧w'=w:=by
 by_cases h1:0≤x
 ·have d1:decide ((0:Int)≤x)=true:=decide_eq_true h1;rw [d1,Bool.true_and];go_enter func72,ntmps72
  go_wp2
  go_ret
  exact ⟨rfl,rfl⟩
 ·have d1:decide ((0:Int)≤x)=false:=decide_eq_false h1;rw [d1,Bool.false_and];go_enter func72,ntmps72
  go_wp2
  go_ret
  exact ⟨rfl,rfl⟩
def FsmA (r:Int × List ByteArray × Int) (w w':World) (e:Ending):Prop :=
 ∃ ad cp,e=.returned (.agg #[.int .i64 r.1,.slice ad r.2.1.length cp,.int .i64 r.2.2])∧w'.ownsRow w.heap.size 9 1 (.slice ad r.2.1.length cp) r.2.1.length (scells r.2.1)∧Below w.heap.size w w'
theorem isEmpty_of {t:ByteArray} (h:t≠⟨#[]⟩):t.toList.isEmpty=false:=by
 cases h2:t.toList with
 | nil=>exact absurd (txt_of h2) h
 | cons x l=>rfl
theorem specFsm (s:Int) (t:ByteArray) (w:World) (ht:t.size≤maxLen):Calls prog 89 #[.int .i64 s,.string t] w fun e w'=>FsmA (fsmF s t) w w' e:=by
 unfold maxLen at ht;have hr0:(w.alloc (.cells #[.int .i64 0,.slice none 0 0,.int .i64 0] 126)).heap[w.heap.size]?=some (.cells #[.int .i64 0,.slice none 0 0,.int .i64 0] 126):=heap_alloc_last w _;have hb0:Below w.heap.size w (w.alloc (.cells #[.int .i64 0,.slice none 0 0,.int .i64 0] 126)):=(Below.refl _ _).alloc (Nat.le_refl _) _;have H0:=hide (And.intro hr0 hb0);clear hr0 hb0;by_cases h1:8000<t.size
 ·have d1:(8000:Int)<(t.size:Int):=by omega
  rw [show fsmF s t=(0,[],2) from if_pos h1];go_enter func89,ntmps89
  go_wp2
  refine bodyPost_ret (v:=.agg #[.int .i64 0,.slice none 0 0,.int .i64 2]) (by simp [results,results89,go_sem]) rfl ⟨none,0,rfl,⟨rfl,Or.inl ⟨rfl,rfl⟩⟩,?_⟩;exact (Below.refl _ _).alloc (Nat.le_refl _) _
 have d1:¬ ((8000:Int)<(t.size:Int)):=by omega
 have C1:=hide fun v=>specIs9 s v
 by_cases h2:¬ (0≤s∧s≤9)
 ·rw [show (decide (0≤s) && decide (s≤9))=false by rw [← Bool.not_eq_true,Bool.and_eq_true,decide_eq_true_eq,decide_eq_true_eq];exact h2] at C1;rw [show fsmF s t=(0,[],5) by unfold fsmF;rw [if_neg h1,if_pos h2]];go_enter func89,ntmps89
  go_wp2_with (first | (go_at_call 72;refine (uh C1 _).mono ?_;rintro e w1 ⟨rfl,rfl⟩))
  refine bodyPost_ret (v:=.agg #[.int .i64 0,.slice none 0 0,.int .i64 5]) (by simp [results,results89,go_sem]) rfl ⟨none,0,rfl,⟨rfl,Or.inl ⟨rfl,rfl⟩⟩,?_⟩;exact (Below.refl _ _).alloc (Nat.le_refl _) _
 have h2':0≤s∧s≤9:=Classical.not_not.1 h2;rw [show (decide (0≤s) && decide (s≤9))=true by simp [h2']] at C1;have C2:=hide fun v=>specRow t v
 by_cases h3:rowOf t=⟨#[]⟩
 ·rw [h3] at C2;rw [show fsmF s t=(0,[],6) by unfold fsmF;rw [if_neg h1,if_neg h2,if_pos h3]];go_enter func89,ntmps89
  go_wp2_with (first
   | (go_at_call 72;refine (uh C1 _).mono ?_;rintro e w1 ⟨rfl,rfl⟩)
   | (go_at_call 118;refine (uh C2 _).mono ?_;rintro e w1 ⟨rfl,rfl⟩))
  refine bodyPost_ret (v:=.agg #[.int .i64 0,.slice none 0 0,.int .i64 6]) (by simp [results,results89,go_sem]) rfl ⟨none,0,rfl,⟨rfl,Or.inl ⟨rfl,rfl⟩⟩,?_⟩;exact (Below.refl _ _).alloc (Nat.le_refl _) _
 have hok:okRow (rowOf t).data.toList=true:=(rowOf_ok t).resolve_left h3;obtain ⟨k,rfl⟩:∃ k:Nat,s=(k:Int):=⟨s.toNat,by omega⟩;have hk:k<10:=by omega
 have hemp:=isEmpty_of h3;have HF:Hid (fsmF (k:Int) t=if (fsmX k t).toList=[45] then ((k:Int),[],8) else (((fsmX k t).data.toList.getLastD 0).toNat - 48,if 2<(fsmX k t).size then splitOf ((fsmX k t).extract 0 ((fsmX k t).size - 2)) 32 else [],0)):=hide (by
  unfold fsmF;rw [if_neg h1,if_neg h2,if_neg h3];rfl)
 unfold fsmX at HF;change okRow (rowOf t).data.toList=true at hok
 generalize rowOf t=r at *;unfold okRow at hok;rw [Bool.and_eq_true,Bool.and_eq_true,Bool.and_eq_true,txt_data] at hok;obtain ⟨⟨⟨hl10,hall⟩,_⟩,hr200⟩:=hok;replace hl10:=of_decide_eq_true hl10;replace hr200:=of_decide_eq_true hr200;have hrs:r.size≤100000:=by
  have:r.data.toList.length=r.size:=by rw [Array.length_toList];rfl
  omega
 have C3:=hide fun v=>specSplit r 44 v hrs
 obtain ⟨x,hx⟩:∃ x,(splitOf r 44)[k]?=some x:=⟨_,List.getElem?_eq_getElem (by omega)⟩;rw [hx,Option.getD_some] at HF;have hxo:okX x=true:=List.all_eq_true.1 hall x (List.mem_of_getElem? hx);generalize splitOf r 44=L at *;obtain ⟨R,hR⟩:∃ R,(if x.toList=[45] then ((k:Int),([]:List ByteArray),(8:Int)) else ((x.data.toList.getLastD 0).toNat - 48,if 2<x.size then splitOf (x.extract 0 (x.size - 2)) 32 else [],0))=R:=⟨_,rfl⟩;rw [uh HF,hR];have HR:=hide hR;clear hR HF hall h1 h2 h3 hr200 hrs;have hk9:(k:Int)<10:=by omega
 have hk0:(0:Int)≤(k:Int):=by omega
 go_enter func89,ntmps89
 go_wp2_with (first
  | (go_at_call 72;refine (uh C1 _).mono ?_;rintro e w1 ⟨rfl,hw⟩;replace hw:=hw.symm;subst hw)
  | (go_at_call 118;refine (uh C2 _).mono ?_;rintro e w1 ⟨rfl,hw⟩;replace hw:=hw.symm;subst hw)
  | fail)
 refine (uh C3 _).mono ?_;rintro e w2 ⟨ad,cp,rfl,ho2,hb2⟩;have hr2:=(hb2.block w.heap.size (ge.1 (uh H0).1).1).trans (uh H0).1;have hB2:=(uh H0).2.trans (hb2.mono (uh H0).2.size);have hc2:∃ gL,ad=some ⟨gL,0,none⟩∧w2.cell? ⟨gL,k,none⟩=some (.string x):=by
  rcases HoldsT.own ho2 with ⟨_,_,_,e⟩ | ⟨gL,cp',cur,e,q1,q2,q3⟩
  ·rw [e] at hl10;cases hl10
  ·cases e;exact ⟨gL,rfl,by rw [cr q1,q3 k (by omega)];exact scells_get _ _ _ hx⟩
 obtain ⟨gL,rfl,k0⟩:=hc2;obtain ⟨r0,r1,r2,f0,f1,f2⟩:=row3x hr2;have H2:=hide (And.intro hr2 hB2);rw [hl10];clear ho2 hb2 hr2 hB2 H0 C1 C2 C3 hx hemp;go_upto_region 9 with fail
 by_cases h45:x.toList=[45]
 ·have e45:(x.toList == [45])=true:=by rw [h45];rfl
  have hR:=uh HR;rw [if_pos h45] at hR;subst hR;clear HR h45;go_wp2
  refine bodyPost_ret (v:=.agg #[.int .i64 k,.slice none 0 0,.int .i64 8]) (by simp [results,results89,asAddr,loadT (set3_at (uh H2).1 (.int .i64 k) (.slice none 0 0) (.int .i64 8))]) rfl ⟨none,0,rfl,⟨rfl,Or.inl ⟨rfl,rfl⟩⟩,set3_below (uh H2).2 (Nat.le_refl _) _ _ _⟩
 ·have e45:(x.toList == [45])=false:=beq_eq_false_iff_ne.2 h45;have hR:=uh HR;rw [if_neg h45] at hR;unfold okX at hxo;rw [Bool.and_eq_true,Bool.and_eq_true,← ByteArray.toList_eq,e45,Bool.or_false,Bool.and_eq_true] at hxo;obtain ⟨⟨hx1,hx30⟩,hc1,hc2⟩:=hxo;replace hx1:=of_decide_eq_true hx1;replace hx30:=of_decide_eq_true hx30;replace hc1:=of_decide_eq_true hc1;replace hc2:=of_decide_eq_true hc2;rw [ByteArray.toList_eq] at hc1 hc2;have hlast:x.data.toList.getLastD 0=x[x.size - 1]:=by
   rw [List.getLastD_eq_getLast?,List.getLast?_eq_getElem?,List.getElem?_eq_getElem (by rw [Array.length_toList];show x.data.size - 1<x.data.size;have:x.size=x.data.size:=rfl;omega)];rfl
  rw [hlast] at hR hc1 hc2;have d1':(1:Int)≤(x.size:Int):=by omega
  have HRR:=hide hR;clear hR HR hlast h45;go_upto_region 12 with fail
  have hlw:w.heap.size<w2.heap.size:=(ge.1 (uh H2).1).1
  refine gen_world (fun q=>q.heap[w.heap.size]?=some (.cells #[.int .i64 0,.slice none 0 0,.int .i64 0] 126)∧q.heap[w2.heap.size]?=some (.cells #[.int .i64 ((x[x.size - 1].toNat:Int) - 48),.slice none 0 0,.int .i64 0] 126)∧Below w.heap.size w q)
   ⟨(Below.heap_alloc _ _ _ hlw).trans (uh H2).1,heap_alloc_new w2 _,(uh H2).2.alloc (uh H2).2.size _⟩ ?_
  rintro q ⟨hq1,hq2,hq3⟩;generalize w2.heap.size=N at *;clear H2 k0 r0 r1 r2 f0 f1 f2 hc1 hc2;generalize (x[x.size - 1].toNat:Int) - 48=st at *;have hlN:N<q.heap.size:=(ge.1 hq2).1;by_cases h2s:2<x.size
  ·have d2:(2:Int)<(x.size:Int):=by omega
   have hR:=uh HRR;rw [if_pos h2s] at hR;have C4:=hide fun v=>specSplit (x.extract 0 (x.size - 2)) 32 v (by rw [ByteArray.size_extract];omega)
   obtain ⟨A,hA⟩:∃ A,splitOf (x.extract 0 (x.size - 2)) 32=A:=⟨_,rfl⟩;rw [hA] at hR C4;subst hR;clear hA;obtain ⟨m0,m1,m2,g0,g1,g2⟩:=row3x hq2;have HQ:=hide (And.intro hq1 (And.intro hq2 hq3));clear hq1 hq2 hq3 HRR;go_wp2_with fail
   refine (uh C4 _).mono ?_;rintro e w5 ⟨ad5,cp5,rfl,ho5,hb5⟩;have hr5:=(hb5.block w.heap.size (by omega)).trans (uh HQ).1;have hn5:=(hb5.block N hlN).trans (uh HQ).2.1;have hB5:=(uh HQ).2.2.trans (hb5.mono (uh HQ).2.2.size);have hs5:=hb5.size;clear m0 m1 m2 g0 g1 g2;obtain ⟨m0,m1,m2,g0,g1,g2⟩:=row3x hn5;have H5:=hide (And.intro hr5 (And.intro hn5 (And.intro hB5 ho5)));clear hr5 hn5 hB5 ho5 hb5 HQ C4;go_upto_region 14 with fail
   refine gen_world (fun q'=>q'.heap[w.heap.size]?=some (.cells #[.int .i64 0,.slice none 0 0,.int .i64 0] 126)∧q'.heap[N]?=some (.cells #[.int .i64 st,.slice ad5 A.length cp5,.int .i64 0] 126)∧Below w.heap.size w q'∧q'.ownsRow q.heap.size 9 1 (.slice ad5 A.length cp5) A.length (scells A))
    ⟨by rw [Below.heap_setCell _ _ _ _ (by simp;omega)];exact (uh H5).1,heap_setCell_same _ _ 1 _ _ _ (uh H5).2.1,(uh H5).2.2.1.setCell (p:=⟨N,1,none⟩) (by simp;omega) _,own_same (uh H5).2.2.2 fun g hg _=>Below.heap_setCell _ _ _ _ (by simp;omega)⟩ ?_
   rintro q6 ⟨e1,e2,e3,e4⟩;clear m0 m1 m2 g0 g1 g2;obtain ⟨m0,m1,m2,_,_,_⟩:=row3x e2;obtain ⟨r0,r1,r2,f0,f1,f2⟩:=row3x e1;have H6:=hide (And.intro e1 (And.intro e3 e4));clear e1 e2 e3 e4 H5;go_wp2
   refine bodyPost_ret (v:=.agg #[.int .i64 st,.slice ad5 A.length cp5,.int .i64 0]) (by simp [results,results89,asAddr,loadT (set3_at (uh H6).1 (.int .i64 st) (.slice ad5 A.length cp5) (.int .i64 0))]) rfl ⟨ad5,cp5,rfl,?_,set3_below (uh H6).2.1 (Nat.le_refl _) _ _ _⟩;have:=own_same (w':=((q6.setCell ⟨w.heap.size,0,none⟩ (.int .i64 st)).setCell ⟨w.heap.size,1,none⟩ (.slice ad5 A.length cp5)).setCell ⟨w.heap.size,2,none⟩ (.int .i64 0)) (uh H6).2.2 fun g hg _=>by
    rw [Below.heap_setCell _ _ _ _ (by simp;omega),Below.heap_setCell _ _ _ _ (by simp;omega),Below.heap_setCell _ _ _ _ (by simp;omega)]
   exact ⟨this.1,this.2.imp id fun ⟨g,cap,cur,h1,h2,h3⟩=>⟨g,cap,cur,h1,by omega,h3⟩⟩
  ·have d2:¬ ((2:Int)<(x.size:Int)):=by omega
   have hR:=uh HRR;rw [if_neg h2s] at hR;subst hR;obtain ⟨m0,m1,m2,_,_,_⟩:=row3x hq2;obtain ⟨r0,r1,r2,f0,f1,f2⟩:=row3x hq1;have H6:=hide (And.intro hq1 hq3);clear hq1 hq2 hq3 HRR;go_wp2
   exact bodyPost_ret (v:=.agg #[.int .i64 st,.slice none 0 0,.int .i64 0]) (by simp [results,results89,asAddr,loadT (set3_at (uh H6).1 (.int .i64 st) (.slice none 0 0) (.int .i64 0))]) rfl ⟨none,0,rfl,⟨rfl,Or.inl ⟨rfl,rfl⟩⟩,set3_below (uh H6).2 (Nat.le_refl _) _ _ _⟩
def actRows:List (List (List UInt8)):=[[[],[105,114,99,32,115,99,114],[],[],[],[],[],[],[],[]],
 [[],[],[],[116,108,115],[],[],[],[],[],[116,108,100]],
 [[116,108,115],[],[105,114,99,32,115,99,114],[],[],[],[],[],[],[]],
 [[],[116,108,102],[],[],[],[],[105,114,99,32,115,116,114],[105,114,99,32,115,116,114],[105,114,99,32,115,116,114],[116,108,100,32,105,114,99,32,115,116,114]],
 [[],[],[],[],[115,116,114],[115,116,114],[115,99,114],[115,99,114],[115,99,114],[]],
 [[],[],[],[],[116,108,102],[116,108,102],[116,108,102],[116,108,102],[116,108,102],[]],
 [[],[],[115,116,97],[105,114,99,32,115,99,114,32,115,99,97],[],[],[115,99,97],[115,99,97,32,116,108,117],[115,99,97],[116,108,100,32,115,99,114,32,115,99,97]],
 [[],[],[115,116,97],[105,114,99,32,115,99,114,32,115,99,110],[],[],[115,99,110],[115,99,110],[115,99,110],[116,108,100,32,115,99,114,32,115,99,110]],
 [[],[],[115,116,97],[115,116,97],[],[],[105,114,99],[115,99,114],[105,114,99,32,116,108,117],[116,108,100,32,115,99,114]],
 [[],[],[115,116,97],[115,116,97],[],[],[105,114,99,32,115,99,114],[115,99,114],[105,114,99,32,115,99,114],[116,108,100,32,115,99,114]],
 [[],[],[115,116,97],[115,116,97],[115,116,97],[115,116,97],[115,116,97],[115,116,97],[115,116,97],[116,108,100,32,122,114,99,32,115,116,97]],
 [[],[],[],[],[116,108,102],[116,108,102],[],[],[],[116,108,100,32,115,99,114]],
 [[],[],[115,99,106],[115,99,106],[115,99,106],[115,99,106],[115,99,106],[115,99,106],[115,99,106],[115,99,106]],
 [[],[],[],[],[],[],[],[],[],[]],
 [[],[],[116,108,102],[116,108,102],[116,108,102],[116,108,102],[116,108,102],[116,108,102],[116,108,102],[116,108,100,32,105,114,99,32,115,116,114]],
 [[],[],[],[],[],[],[],[],[],[115,101,114]]]
def nxtRows:List (List Int):=[[2,6,-1,-1,-1,-1,-1,-1,-1,-1],
 [-1,-1,0,1,0,1,1,1,1,1],
 [1,1,6,3,5,5,6,7,8,9],
 [0,0,2,2,4,4,4,4,4,4],
 [-1,-1,-1,-1,4,5,6,6,8,-1],
 [-1,-1,-1,-1,2,3,3,3,3,-1],
 [-1,-1,2,8,4,5,8,9,8,8],
 [-1,-1,2,6,4,5,6,7,6,6],
 [-1,-1,2,3,4,5,7,6,9,6],
 [-1,-1,2,3,4,5,6,6,8,6],
 [-1,-1,2,3,4,5,6,6,6,5],
 [-1,-1,2,3,2,3,6,6,8,6],
 [-1,-1,2,3,4,5,6,7,8,9],
 [-1,-1,2,3,4,5,6,6,8,9],
 [-1,-1,2,3,2,3,3,3,3,5],
 [-1,-1,2,3,4,5,6,7,8,9]]
def rowC (i:Nat):Array Value:=((actRows.getD i []).map fun l=>Value.string ⟨l.toArray⟩).toArray
def actC:Array Value:=(actRows.flatten.map fun l=>Value.string ⟨l.toArray⟩).toArray
def actAt (i s:Nat):ByteArray:=⟨((actRows.getD i []).getD s []).toArray⟩
theorem actC_all:((List.range 16).all fun i=>(List.range 10).all fun s=>match actC[i*10+s]? with | some (.string t)=>decide (t=actAt i s) | _=>false)=true:=by kernel_rfl
theorem actC_at {i s:Nat} (hi:i<16) (hs:s<10):actC[i*10+s]?=some (.string (actAt i s)):=by
 have h:=List.all_eq_true.1 (List.all_eq_true.1 actC_all i (List.mem_range.2 hi)) s (List.mem_range.2 hs);split at h
 ·next t e=>rw [e,of_decide_eq_true h]
 ·cases h
attribute [local irreducible] rowC actC
theorem implActs (i s:Nat) (hi:i<16) (hs:s<10) (w:World):Calls prog 117 #[.int .i64 i,.int .i64 s] w fun e w'=>e=.returned (.string (actAt i s))∧w'=w.alloc (.cells actC 193):=by
 have hc:(w.alloc (.cells actC 193)).cell? ⟨w.heap.size,i*10+s,none⟩=some (.string (actAt i s)):=by
  rw [cr (heap_alloc_new w _)];exact actC_at hi hs
 have d1:(i:Int)<16:=by omega
 have d2:(s:Int)<10:=by omega
 go_enter func117,ntmps117
 go_upto_region 1 with fail
 apply wp_region_lit
 refine wpList_buildTo rfl 192 _ rfl (some 6) rfl (rowC 0) (by as_aux_lemma=>kernel_rfl) ?_;refine wpList_buildTo rfl 192 _ rfl (some 7) rfl (rowC 1) (by as_aux_lemma=>kernel_rfl) ?_;refine wpList_buildTo rfl 192 _ rfl (some 8) rfl (rowC 2) (by as_aux_lemma=>kernel_rfl) ?_;refine wpList_buildTo rfl 192 _ rfl (some 9) rfl (rowC 3) (by as_aux_lemma=>kernel_rfl) ?_;refine wpList_buildTo rfl 192 _ rfl (some 10) rfl (rowC 4) (by as_aux_lemma=>kernel_rfl) ?_;refine wpList_buildTo rfl 192 _ rfl (some 11) rfl (rowC 5) (by as_aux_lemma=>kernel_rfl) ?_;refine wpList_buildTo rfl 192 _ rfl (some 12) rfl (rowC 6) (by as_aux_lemma=>kernel_rfl) ?_;refine wpList_buildTo rfl 192 _ rfl (some 13) rfl (rowC 7) (by as_aux_lemma=>kernel_rfl) ?_;refine wpList_buildTo rfl 192 _ rfl (some 14) rfl (rowC 8) (by as_aux_lemma=>kernel_rfl) ?_;refine wpList_buildTo rfl 192 _ rfl (some 15) rfl (rowC 9) (by as_aux_lemma=>kernel_rfl) ?_;refine wpList_buildTo rfl 192 _ rfl (some 16) rfl (rowC 10) (by as_aux_lemma=>kernel_rfl) ?_;refine wpList_buildTo rfl 192 _ rfl (some 17) rfl (rowC 11) (by as_aux_lemma=>kernel_rfl) ?_;refine wpList_buildTo rfl 192 _ rfl (some 18) rfl (rowC 12) (by as_aux_lemma=>kernel_rfl) ?_;refine wpList_buildTo rfl 192 _ rfl (some 19) rfl (rowC 14) (by as_aux_lemma=>kernel_rfl) ?_;refine wpList_buildTo rfl 192 _ rfl (some 20) rfl (rowC 15) (by as_aux_lemma=>kernel_rfl) ?_;refine wpList_buildTo rfl 193 _ rfl (some 21) rfl actC (by as_aux_lemma=>kernel_rfl) ?_;refine Great.wpList_allocTo rfl (some 5) rfl (.pointer (some ⟨w.heap.size,0,none⟩)) (.cells (Array.replicate 160 (.string ⟨#[]⟩)) 193) (by as_aux_lemma=>kernel_rfl) ?_;refine wpList_store_rowTo rfl 193 _ _ rfl rfl w.heap.size actC (by as_aux_lemma=>kernel_rfl) (by as_aux_lemma=>kernel_rfl) 193 _ (heap_alloc_new w _) (by as_aux_lemma=>kernel_rfl) (by as_aux_lemma=>kernel_rfl) (by as_aux_lemma=>kernel_rfl) ?_;rw [World.setRow_alloc_new];refine wpList_frame (a':=⟨#[.int .i64 i,.int .i64 s,undef,undef,.string ⟨#[]⟩,.pointer (some ⟨w.heap.size,0,none⟩),.agg (rowC 0),.agg (rowC 1),.agg (rowC 2),.agg (rowC 3),.agg (rowC 4),.agg (rowC 5),.agg (rowC 6),.agg (rowC 7),.agg (rowC 8),.agg (rowC 9),.agg (rowC 10),.agg (rowC 11),.agg (rowC 12),.agg (rowC 14),.agg (rowC 15),.agg actC,undef,undef,undef,undef,undef],[]⟩) (by as_aux_lemma=>kernel_rfl) ?_;apply wpList_nil
 go_wp2
 go_ret
 exact ⟨rfl,rfl⟩
def nxtAt (i s:Nat):Int:=(nxtRows.getD i []).getD s 0
def NxT (w:World):Prop:=∀ i s:Nat,i<16→s<10→w.cell? ⟨1,i*10+s,none⟩=some (.int .i64 (nxtAt i s))
theorem NxT.below {w w':World} (h:NxT w) (hb:Below w.heap.size w w'):NxT w':=fun i s hi hs=>(hb.cell (p:=⟨1,i*10+s,none⟩) (World.block_lt_of_cell? _ _ (h i s hi hs))).trans (h i s hi hs)
def SpT (w:World):Prop:=∀ c:Nat,c<256→w.cell? ⟨2,c,none⟩=some (.int .u8 (if Lib.isSp (UInt8.ofNat c) then 1 else 0))
theorem SpT.below {w w':World} (h:SpT w) (hb:Below w.heap.size w w'):SpT w':=fun c hc=>(hb.cell (p:=⟨2,c,none⟩) (World.block_lt_of_cell? _ _ (h c hc))).trans (h c hc)
def wordsOf (t:ByteArray):List ByteArray:=(Lib.fields t.data.toList).map fun l=>⟨l.toArray⟩
theorem implFields (s:ByteArray) (w:World) (hs:s.size≤30) (ha:(s.data.toList.all fun b=>decide (b.toNat<128))=true) (hT:SpT w) :
  Calls prog 116 #[.string s] w fun e w'=>e=.returned (.slice (some ⟨w.heap.size,0,none⟩) (wordsOf s).length (wordsOf s).length)∧w'=w.alloc (.cells (scells (wordsOf s)).toArray 9):=by
 refine (Any.strings_Fields_core Tryz.laysFld (by kernel_rfl) s w (by omega) (fun j b hj=>of_decide_eq_true (List.all_eq_true.1 ha b (List.mem_of_getElem? hj))) hT).mono ?_;rintro e w' ⟨rfl,rfl⟩;refine ⟨by simp [wordsOf],?_⟩;simp only [wordsOf,scells,List.map_map];rfl
def rowD (t:ByteArray):ByteArray:=txt (((evRow.find? fun x=>x.1 == t.data.toList).map fun x=>x.2).getD [])
def fsmD (s:Nat) (t:ByteArray):ByteArray:=((splitOf (rowD t) 44)[s]?).getD ⟨#[]⟩
def fsmG (s:Int) (t:ByteArray):Int × List ByteArray × Int :=
 if 8000<t.size then (0,[],2) else if ¬ (0≤s∧s≤9) then (0,[],5) else if rowD t=⟨#[]⟩ then (0,[],6) else if (fsmD s.toNat t).data.toList=[45] then (s,[],8)
 else (((fsmD s.toNat t).data.toList.getLastD 0).toNat - 48,if 2<(fsmD s.toNat t).size then splitOf ((fsmD s.toNat t).extract 0 ((fsmD s.toNat t).size - 2)) 32 else [],0)
theorem fsmG_eq (s:Int) (t:ByteArray):fsmF s t=fsmG s t:=by
 unfold fsmF fsmG fsmX fsmD rowOf rowD;simp only [ByteArray.toList_eq]
theorem places:((List.range 16).all fun i=>(List.range 10).all fun k=>decide (fsmG (k:Int) (evTexts.getD i ⟨#[]⟩)=if nxtAt i k=-1 then ((k:Int),[],8) else (nxtAt i k,wordsOf (actAt i k),0)) && decide ((actAt i k).size≤30∧(wordsOf (actAt i k)).length≤30) && ((actAt i k).data.toList.all fun b=>decide (b.toNat<128)))=true:=by kernel_rfl
theorem place_at {i k:Nat} {t:ByteArray} (ht:evTexts[i]?=some t) (hk:k<10):(fsmF (k:Int) t=if nxtAt i k=-1 then ((k:Int),[],8) else (nxtAt i k,wordsOf (actAt i k),0))∧((actAt i k).size≤30∧(wordsOf (actAt i k)).length≤30)∧((actAt i k).data.toList.all fun b=>decide (b.toNat<128))=true:=by
 have hi:i<16:=(List.getElem?_eq_some_iff.1 ht).1;have h:=List.all_eq_true.1 (List.all_eq_true.1 places i (List.mem_range.2 hi)) k (List.mem_range.2 hk);rw [Bool.and_eq_true,Bool.and_eq_true] at h;have e:evTexts.getD i ⟨#[]⟩=t:=by rw [List.getD_eq_getElem?_getD,ht];rfl
 rw [e] at h;rw [fsmG_eq];exact ⟨of_decide_eq_true h.1.1,of_decide_eq_true h.1.2,h.2⟩
theorem rowOf_none {t:ByteArray} (h:∀ i:Nat,evTexts[i]?≠some t):rowOf t=⟨#[]⟩:=by
 unfold rowOf;rw [List.find?_eq_none.2 fun x hx e=>?_]
 ·rfl
 ·have ht:t=txt x.1:=txt_of (eq_of_beq e).symm;obtain ⟨i,hi⟩:=List.getElem?_of_mem (List.mem_map.2 ⟨x,hx,ht.symm⟩:t ∈ evTexts);exact h i hi
theorem implFsm (s:Int) (t:ByteArray) (w:World) (ht:t.size≤maxLen) (hE:EvT w) (hN:NxT w) (hS:SpT w):Calls prog 84 #[.int .i64 s,.string t] w fun e w'=>FsmA (fsmF s t) w w' e:=by
 unfold maxLen at ht;have hr0:(w.alloc (.cells #[.int .i64 0,.slice none 0 0,.int .i64 0] 126)).heap[w.heap.size]?=some (.cells #[.int .i64 0,.slice none 0 0,.int .i64 0] 126):=heap_alloc_last w _;have hb0:Below w.heap.size w (w.alloc (.cells #[.int .i64 0,.slice none 0 0,.int .i64 0] 126)):=(Below.refl _ _).alloc (Nat.le_refl _) _;have H0:=hide (And.intro hr0 hb0);by_cases h1:8000<t.size
 ·have d1:(8000:Int)<(t.size:Int):=by omega
  rw [show fsmF s t=(0,[],2) from if_pos h1];clear hr0 hb0;go_enter func84,ntmps84
  go_wp2
  refine bodyPost_ret (v:=.agg #[.int .i64 0,.slice none 0 0,.int .i64 2]) (by simp [results,results84,go_sem]) rfl ⟨none,0,rfl,⟨rfl,Or.inl ⟨rfl,rfl⟩⟩,?_⟩;exact (Below.refl _ _).alloc (Nat.le_refl _) _
 have d1:¬ ((8000:Int)<(t.size:Int)):=by omega
 by_cases h2:¬ (0≤s∧s≤9)
 ·rw [show fsmF s t=(0,[],5) by unfold fsmF;rw [if_neg h1,if_pos h2]];clear hr0 hb0;by_cases h3:s<0
  ·go_enter func84,ntmps84
   go_wp2
   refine bodyPost_ret (v:=.agg #[.int .i64 0,.slice none 0 0,.int .i64 5]) (by simp [results,results84,go_sem]) rfl ⟨none,0,rfl,⟨rfl,Or.inl ⟨rfl,rfl⟩⟩,?_⟩;exact (Below.refl _ _).alloc (Nat.le_refl _) _
  ·have d2:(10:Int)≤s:=by omega
   go_enter func84,ntmps84
   go_wp2
   refine bodyPost_ret (v:=.agg #[.int .i64 0,.slice none 0 0,.int .i64 5]) (by simp [results,results84,go_sem]) rfl ⟨none,0,rfl,⟨rfl,Or.inl ⟨rfl,rfl⟩⟩,?_⟩;exact (Below.refl _ _).alloc (Nat.le_refl _) _
 have h2':0≤s∧s≤9:=Classical.not_not.1 h2;have h1':=hide h1;have HN3:Hid (rowOf t=⟨#[]⟩→fsmF s t=(0,[],6)):=hide fun h3=>by unfold fsmF;rw [if_neg h1,if_neg h2,if_pos h3]
 obtain ⟨k,rfl⟩:∃ k:Nat,s=(k:Int):=⟨s.toNat,by omega⟩;have hk:k<10:=by omega
 have d2:¬ ((k:Int)<0):=by omega
 have d3:¬ ((10:Int)≤(k:Int)):=by omega
 have d4:(k:Int)<10:=by omega
 have C1:=hide (evNum t _ (hE.below hb0));have HNX:=hide (hN.below hb0);have HSP:=hide (hS.below hb0);clear hE hN hS h1 h2 h2' hr0 hb0 h1';obtain ⟨R,hR⟩:∃ R,fsmF (k:Int) t=R:=⟨_,rfl⟩;rw [hR] at HN3;rw [hR];have HR:=hide hR;clear hR;go_enter func84,ntmps84
 go_wp2_with fail
 refine (uh C1).mono ?_;rintro e w1 ⟨hw,⟨i,hi,rfl⟩ | ⟨hn,rfl⟩⟩
 ·subst hw;have hi16:i<16:=(List.getElem?_eq_some_iff.1 hi).1;obtain ⟨hF,⟨hz,hzl⟩,hascii⟩:=place_at hi hk;have c1:=uh HNX i k hi16 hk;have d5:(i:Int)<16:=by omega
  rw [uh HR] at hF;clear HR;have CA:=hide fun v=>implActs i k hi16 hk v
  have CF:=hide fun v=>implFields (actAt i k) v hz hascii
  clear hi hz hascii HN3 HNX C1;generalize wordsOf (actAt i k)=F at *;generalize actAt i k=ta at *;generalize nxtAt i k=nx at *;go_upto_region 9 with fail
  by_cases hx:nx=-1
  ·subst hx;rw [if_pos rfl] at hF;subst hF;clear CA CF HSP;go_wp2
   exact bodyPost_ret (v:=.agg #[.int .i64 k,.slice none 0 0,.int .i64 8]) (by simp [results,results84,go_sem]) rfl ⟨none,0,rfl,⟨rfl,Or.inl ⟨rfl,rfl⟩⟩,(Below.refl _ _).alloc (Nat.le_refl _) _⟩
  ·rw [if_neg hx] at hF;subst hF;have d6:(nx == -1)=false:=by simpa using hx
   have HSP2:Hid (SpT ((w.alloc (.cells #[.int .i64 0,.slice none 0 0,.int .i64 0] 126)).alloc (.cells actC 193))):=hide ((uh HSP).below ((Below.refl _ _).alloc (Nat.le_refl _) _));clear HSP c1
   go_wp2_with (first
    | (go_at_call 117;refine (uh CA _).mono ?_;rintro e w2 ⟨rfl,hw⟩;subst hw)
    | fail)
   refine (uh CF _ (uh HSP2)).mono ?_;rintro e w3 ⟨rfl,hw⟩;have hs1:(w.alloc (.cells #[.int .i64 0,.slice none 0 0,.int .i64 0] 126)).heap.size=w.heap.size+1:=by simp
   have hs2:((w.alloc (.cells #[.int .i64 0,.slice none 0 0,.int .i64 0] 126)).alloc (.cells actC 193)).heap.size=w.heap.size+1+1:=by rw [World.size_alloc,hs1]
   have hr3:w3.heap[w.heap.size]?=some (.cells #[.int .i64 0,.slice none 0 0,.int .i64 0] 126):=by
    rw [hw,Below.heap_alloc _ _ _ (by omega),Below.heap_alloc _ _ _ (by omega)];exact (uh H0).1
   have hB3:Below w.heap.size w w3:=by
    rw [hw];exact ((uh H0).2.alloc (by omega) _).alloc (by omega) _
   have ho3:w3.ownsRow (w.heap.size+1+1) 9 1 (.slice (some ⟨w.heap.size+1+1,0,none⟩) F.length F.length) F.length (scells F):=by
    have h:=World.ownsRow_lit (base:=w.heap.size+1+1) ((w.alloc (.cells #[.int .i64 0,.slice none 0 0,.int .i64 0] 126)).alloc (.cells actC 193)) (e:=9) (size:=1) (scells F).toArray F.length (by omega) (by unfold maxLen;omega) (by simp [scells_len]);rw [hs2,← hw] at h;exact h
   rw [hs2];have H3:=hide (And.intro hr3 (And.intro hB3 ho3));obtain ⟨r0,r1,r2,f0,f1,f2⟩:=row3x hr3;clear hr3 hB3 ho3 hw hs1 hs2 HSP2 CF CA H0;go_wp2
   refine bodyPost_ret (v:=.agg #[.int .i64 nx,.slice (some ⟨w.heap.size+1+1,0,none⟩) F.length F.length,.int .i64 0]) (by simp [results,results84,asAddr,loadT (set3_at (uh H3).1 (.int .i64 nx) (.slice (some ⟨w.heap.size+1+1,0,none⟩) F.length F.length) (.int .i64 0))]) rfl ⟨_,_,rfl,?_,set3_below (uh H3).2.1 (Nat.le_refl _) _ _ _⟩;have:=own_same (w':=((w3.setCell ⟨w.heap.size,0,none⟩ (.int .i64 nx)).setCell ⟨w.heap.size,1,none⟩ (.slice (some ⟨w.heap.size+1+1,0,none⟩) F.length F.length)).setCell ⟨w.heap.size,2,none⟩ (.int .i64 0)) (uh H3).2.2 fun g hg _=>by
    rw [Below.heap_setCell _ _ _ _ (by simp;omega),Below.heap_setCell _ _ _ _ (by simp;omega),Below.heap_setCell _ _ _ _ (by simp;omega)]
   exact ⟨this.1,this.2.imp id fun ⟨g,cap,cur,h1,h2,h3⟩=>⟨g,cap,cur,h1,by omega,h3⟩⟩
 ·subst hw;have hF:=uh HN3 (rowOf_none hn);subst hF;clear HN3 hn HNX HSP HR;go_wp2
  refine bodyPost_ret (v:=.agg #[.int .i64 0,.slice none 0 0,.int .i64 6]) (by simp [results,results84,go_sem]) rfl ⟨none,0,rfl,⟨rfl,Or.inl ⟨rfl,rfl⟩⟩,?_⟩;exact (Below.refl _ _).alloc (Nat.le_refl _) _
end Go.Proofs.YtahpjlbaagkdoaaGreatDoor
namespace Go.Proofs.YtahpjlbaagkdoaaGreatDoor
open Go.Proofs.Tryz
open Go.ChangeShapes Go.WideShapes Go.ChangeAt Go.RowKit
theorem laidOutF:laidOutB prog=true:=by kernel_rfl
theorem nxG : prog.globalNamed "loop.example/g00351/impl.nextStates" = some 1 := by kernel_rfl
theorem nxG_type:(prog.globals[1]?).map (·.type)=some 154:=by kernel_rfl
theorem cells_row:prog.cellsOf 153=10:=by kernel_rfl
theorem cells_int:prog.cellsOf 2=1:=by kernel_rfl
theorem nxData:(Rows.laid_loop_example_g00351_impl_nextStates:DataW Unit)=.agg (nxtRows.map fun l=>Lib.tabData .i64 l):=by kernel_rfl
theorem nxLens:(nxtRows.all fun l=>decide (l.length=10))=true:=by kernel_rfl
theorem nxT_of {W : World} (h : Lib.VarReads prog W "loop.example/g00351/impl.nextStates" Rows.laid_loop_example_g00351_impl_nextStates) : NxT W := by
 rw [nxData] at h;obtain ⟨g,t,cs,fuel,p,hg,hty,hvar,hd⟩:=h;obtain rfl:=Option.some.inj (nxG.symm.trans hg);obtain rfl:=Option.some.inj (nxG_type.symm.trans hty);intro i s hi hs;obtain ⟨fuel',d,q,hdi,he⟩:=Lib.array_elem underlying154 hd i hi;rw [List.getElem?_map] at hdi;obtain ⟨r,hr,rfl⟩:=Option.map_eq_some_iff.1 hdi;have hrl:r.length=10:=of_decide_eq_true (List.all_eq_true.1 nxLens r (List.mem_of_getElem? hr));rw [cells_row] at he;have hcs:=Lib.cells_of_tab underlying153 underlying2 cells_int cells_row he;rw [World.var?_cell hg hvar (i*10+s),← Array.getElem?_toList];have e0:=congrArg (·[s]?) hcs;simp only [List.getElem?_take,List.getElem?_drop,hs,if_true,List.getElem?_map] at e0;rw [e0];unfold nxtAt;rw [show nxtRows.getD i []=r by rw [List.getD_eq_getElem?_getD,hr];rfl,List.getD_eq_getElem?_getD,List.getElem?_eq_getElem (by omega)];rfl
theorem spG : prog.globalNamed "strings.asciiSpace" = some 2 := by kernel_rfl
theorem spG_type:(prog.globals[2]?).map (·.type)=some 189:=by kernel_rfl
theorem cells_tab:prog.cellsOf 189=256:=by kernel_rfl
theorem cells_u8:prog.cellsOf 5=1:=by kernel_rfl
theorem spData:(Rows.laid_strings_asciiSpace:DataW Unit)=Lib.tabData .u8 Lib.asciiSpaceTab:=by kernel_rfl
theorem spT_of {W : World} (h : Lib.VarReads prog W "strings.asciiSpace" Rows.laid_strings_asciiSpace) : SpT W := by
 rw [spData] at h;obtain ⟨g,t,cs,fuel,p,hg,hty,hvar,hd⟩:=h;obtain rfl:=Option.some.inj (spG.symm.trans hg);obtain rfl:=Option.some.inj (spG_type.symm.trans hty);intro c hc;have hcs:=Lib.cells_of_tab underlying189 underlying5 cells_u8 cells_tab hd;rw [World.var?_cell hg hvar c,← Array.getElem?_toList,hcs,List.getElem?_map];have hl:c<Lib.asciiSpaceTab.length:=by rw [Lib.asciiSpaceTab_length];exact hc
 have:=Lib.asciiSpaceTab_at c hc
 rw [List.getD_eq_getElem?_getD,List.getElem?_eq_getElem hl,Option.getD_some] at this;rw [List.getElem?_eq_getElem hl,Option.map_some,this]
end Go.Proofs.YtahpjlbaagkdoaaGreatDoor
namespace Go.Proofs.YtahpjlbaagkdoaaGreatDoor
open Go.RowKit Go.Proofs.Tryz
theorem len_dat (t:ByteArray):t.data.toList.length=t.size:=by rw [Array.length_toList];rfl
def Lies (w:World) (B off:Nat) (l:List UInt8):Prop:=∀ i (h:i<l.length),w.cell? ⟨B,off+i,none⟩=some (.int .u8 l[i].toNat)
theorem Lies.below {w w':World} {B off N:Nat} {l:List UInt8} (h:Lies w B off l) (hb:Below N w w') (hB:B<N):Lies w' B off l :=
 fun i hi=>(hb.cell (p:=⟨B,off+i,none⟩) hB).trans (h i hi)
theorem Lies.drop {w:World} {B off:Nat} {l:List UInt8} (h:Lies w B off l) (n:Nat):Lies w B (off+n) (l.drop n):=fun i hi=>by
 rw [List.length_drop] at hi;rw [Nat.add_assoc,h (n+i) (by omega)];simp
theorem or8 (a b:Nat) (ha:a<256) (hb:b<256):bits .or .i64 ((a:Int)*256) (b:Int)=((256*a+b:Nat):Int):=by
 have h1:a*256 ||| b=a*2 ^ 8+b:=by
  rw [Nat.mul_comm,show (256:Nat)=2 ^ 8 from rfl,← Nat.two_pow_add_eq_or_of_lt (by omega),Nat.mul_comm]
 show IntKind.i64.wrap ((BitVec.ofInt 64 ((a:Int)*256) ||| BitVec.ofInt 64 (b:Int)).toNat:Int)=_
 rw [show (a:Int)*256=((a*256:Nat):Int) by omega,BitVec.toNat_or,ofInt_u64 (a*256) (by omega),ofInt_u64 b (by omega),h1,IntKind.wrap_i64];omega
def numOf (l:List UInt8):Nat:=l.foldl (fun n c=>256*n+c.toNat) 0
theorem highest (B off cap:Nat) (l:List UInt8) (w:World) (hl2:l.length≤2) (hl:Lies w B off l) :
  Calls prog 151 #[.slice (some ⟨B,off,none⟩) l.length cap] w fun e w'=>e=.returned (.int .i64 (numOf l:Nat))∧w'=w:=by
 go_enter func151,ntmps151
 go_wp2
 go_loop [3,8] (fun n i=>∃ (k:Nat),k≤l.length∧i=.int .i64 k∧n=.int .i64 (numOf (l.take k):Nat)) (fun _ i=>l.length - (intOf i).toNat)
 case atStart=>exact ⟨0,Nat.zero_le _,rfl,rfl⟩
 case round =>
  obtain ⟨k,hk,rfl,rfl⟩:=hrel;by_cases hlt:k<l.length
  ·have hc:=hl k hlt;have HS:Hid (numOf (l.take (k+1))=256*numOf (l.take k)+l[k].toNat):=hide (by unfold numOf;rw [List.take_succ_eq_append_getElem hlt,List.foldl_append];rfl);have hk2:k<2:=by omega
   have hn:numOf (l.take k)<256:=by
    rcases l with _ | ⟨c,_ | ⟨d,r⟩⟩
    ·simp at hlt
    ·simp at hlt;subst hlt;simp [numOf]
    ·have:=c.toNat_lt
     rcases Nat.lt_or_ge k 1 with h | h
     ·have hk0:k=0:=by omega
      subst hk0;simp [numOf]
     ·have hk1:k=1:=by omega
      subst hk1;simpa [numOf] using this
   have ho:=or8 (numOf (l.take k)) l[k].toNat hn l[k].toNat_lt;have HW:Hid (wrap64 (l[k].toNat:Int)=(l[k].toNat:Int)):=hide (by have:=l[k].toNat_lt;unfold wrap64;omega);generalize numOf (l.take k)=n at *;have d1:(k:Int)<(l.length:Int):=by omega
   clear hl;go_wp2
   go_round
   case rel=>exact ⟨k+1,by omega,by go_num,by rw [uh HW,ho,uh HS]⟩
   case measure=>simp [intOf];omega
  ·have HK:=hide (List.take_of_length_le (l:=l) (i:=k) (by omega));have d1:¬ ((k:Int)<(l.length:Int)):=by omega
   go_wp2
   go_ret
   exact ⟨by rw [uh HK];rfl,rfl⟩
theorem bytes_of (t:ByteArray) (W:World):∃ cap W',(convert 9 22 (.string t)).run prog W=.ok (.slice (some ⟨W.heap.size,0,none⟩) t.data.toList.length cap) W'∧t.data.toList.length≤cap∧Lies W' W.heap.size 0 t.data.toList∧Below W.heap.size W W'∧W.heap.size<W'.heap.size:=by
 have h:=run_bytes_of_string (P:=prog) W 9 22 5 t underlying9 underlying22 underlying5;have hg:=grownCap_ge W t.size 0 5;refine ⟨_,_,by rw [len_dat];exact h,by rw [len_dat];omega,?_,(Below.refl _ _).drew.alloc (Nat.le_refl _) _,by simp⟩;intro i hi;have hh:(W.drew.alloc (.cells (bytesRow t (grownCap W t.size 0 5)) 5 ((bytesRow t (grownCap W t.size 0 5)).size,(bytesRow t (grownCap W t.size 0 5)).size+1))).heap[W.heap.size]?=_:=heap_alloc_new W.drew _;rw [cr hh];have hi':i<t.size:=by rw [← len_dat];exact hi
 simp [bytesRow,Array.getElem?_append,hi']
theorem conv_lies {w:World} {B off:Nat} {l:List UInt8} (h:Lies w B off l) {cap:Nat}:(convert 22 9 (.slice (some ⟨B,off,none⟩) l.length cap)).run prog w=.ok (.string (txt l)) w :=
 run_convert_bytes_back (P:=prog) w 22 9 5 ⟨B,off,none⟩ cap l underlying22 underlying5 underlying9 (fun j hj=>by rw [Addr.add_lit];exact h j hj)
end Go.Proofs.YtahpjlbaagkdoaaGreatDoor
namespace Go.Proofs.YtahpjlbaagkdoaaGreatDoor.Op
structure Opt where
 kind:Int
 data:ByteArray
def ok (o:Opt):Bool:=decide (1≤o.kind∧o.kind≤255∧o.data.size≤20)
def right (l:List Opt):Bool:=decide (l.length≤20) && l.all ok
def one (o:Opt):List UInt8:=[UInt8.ofNat o.kind.toNat,UInt8.ofNat (o.data.size+2)] ++ o.data.data.toList
def bytes (l:List Opt):List UInt8:=l.flatMap one
def told (l:List Opt):List UInt8:=if right l=true then bytes l else []
def rd (l:List UInt8):Option (List Opt) :=
 match l with
 | []=>some []
 | [_]=>none
 | k :: n :: r=>if _h:n.toNat<2∨r.length+2<n.toNat then none else (rd (r.drop (n.toNat - 2))).map fun L=>⟨(k.toNat:Int),txt (r.take (n.toNat - 2))⟩ :: L
termination_by l.length
decreasing_by simp;omega
def acc (out:List Opt) (l:List UInt8):Option (List Opt):=(rd l).bind fun L=>if right (out ++ L)=true then some (out ++ L) else none
theorem rd_nil:rd []=some []:=by rw [rd]
theorem rd_one (c:UInt8):rd [c]=none:=by rw [rd]
theorem rd_bad {k n:UInt8} {r:List UInt8} (h:n.toNat<2∨r.length+2<n.toNat):rd (k :: n :: r)=none:=by rw [rd,dif_pos h]
theorem rd_step {k n:UInt8} {r:List UInt8} (h:¬ (n.toNat<2∨r.length+2<n.toNat)):rd (k :: n :: r)=(rd (r.drop (n.toNat - 2))).map fun L=>⟨(k.toNat:Int),txt (r.take (n.toNat - 2))⟩ :: L:=by rw [rd,dif_neg h]
theorem right_len {l:List Opt} (h:right l=true):l.length≤20:=by
 unfold right at h;rw [Bool.and_eq_true] at h;exact of_decide_eq_true h.1
theorem right_all {l:List Opt} (h:right l=true):∀ o ∈ l,ok o=true:=by
 unfold right at h;rw [Bool.and_eq_true] at h;exact List.all_eq_true.1 h.2
theorem right_mk {l:List Opt} (h1:l.length≤20) (h2:∀ o ∈ l,ok o=true):right l=true:=by
 unfold right;rw [Bool.and_eq_true];exact ⟨decide_eq_true h1,List.all_eq_true.2 h2⟩
theorem right_front {a b:List Opt} (h:right (a ++ b)=true):right a=true :=
 right_mk (by have:=right_len h;rw [List.length_append] at this;omega) fun o ho=>right_all h o (List.mem_append_left _ ho)
theorem acc_nil (out:List Opt):acc out []=if right out=true then some out else none:=by
 unfold acc;rw [rd_nil];simp
theorem acc_one (out:List Opt) (c:UInt8):acc out [c]=none:=by
 unfold acc;rw [rd_one];rfl
theorem acc_bad (out:List Opt) {k n:UInt8} {r:List UInt8} (h:n.toNat<2∨r.length+2<n.toNat):acc out (k :: n :: r)=none:=by
 unfold acc;rw [rd_bad h];rfl
theorem acc_step (out:List Opt) {k n:UInt8} {r:List UInt8} (h:¬ (n.toNat<2∨r.length+2<n.toNat)):acc out (k :: n :: r)=acc (out ++ [⟨(k.toNat:Int),txt (r.take (n.toNat - 2))⟩]) (r.drop (n.toNat - 2)):=by
 unfold acc;rw [rd_step h];cases rd (r.drop (n.toNat - 2)) with
 | none=>rfl
 | some L=>simp
theorem acc_wrong {out:List Opt} (l:List UInt8) (h:right out=false):acc out l=none:=by
 unfold acc;cases rd l with
 | none=>rfl
 | some L =>
  rw [Option.bind_some,if_neg];intro h2;rw [right_front h2] at h;cases h
theorem acc_long (out:List Opt) {k n:UInt8} {r:List UInt8} (h:22<n.toNat):acc out (k :: n :: r)=none:=by
 by_cases hb:n.toNat<2∨r.length+2<n.toNat
 ·exact acc_bad out hb
 ·rw [acc_step out hb];refine acc_wrong _ ?_;rw [← Bool.not_eq_true];intro hr;have ho:=right_all hr ⟨(k.toNat:Int),txt (r.take (n.toNat - 2))⟩ (by simp);have h3:=(of_decide_eq_true ho).2.2;rw [txt_size,List.length_take] at h3;omega
theorem acc_right {out L:List Opt} {l:List UInt8} (h:acc out l=some L):right L=true:=by
 unfold acc at h;cases hr:rd l with
 | none=>rw [hr] at h;cases h
 | some M =>
  rw [hr,Option.bind_some] at h;by_cases hq:right (out ++ M)=true
  ·rw [if_pos hq] at h;cases h;exact hq
  ·rw [if_neg hq] at h;cases h
theorem one_len (o:Opt):(one o).length=o.data.size+2:=by
 unfold one;rw [List.length_append,Array.length_toList];show 2+o.data.size=_
 omega
theorem bytes_snoc (l:List Opt) (o:Opt):bytes (l ++ [o])=bytes l ++ one o:=by simp [bytes]
theorem bytes_cons (o:Opt) (l:List Opt):bytes (o :: l)=one o ++ bytes l:=by simp [bytes]
theorem bytes_len {l:List Opt} (h:∀ o ∈ l,ok o=true):(bytes l).length≤22*l.length:=by
 induction l with
 | nil=>simp [bytes]
 | cons o l ih =>
  have h1:=(of_decide_eq_true (h o (by simp))).2.2;have h2:=ih fun x hx=>h x (List.mem_cons_of_mem _ hx)
  rw [bytes_cons,List.length_append,one_len,List.length_cons];omega
theorem bytes_rd (m:Nat):∀ (u:List UInt8) (L:List Opt),u.length≤m→rd u=some L→bytes L=u:=by
 induction m with
 | zero =>
  intro u L hu h;rw [List.eq_nil_of_length_eq_zero (l:=u) (by omega),rd_nil] at h;cases h;rw [List.eq_nil_of_length_eq_zero (l:=u) (by omega)];rfl
 | succ m ih =>
  intro u L hu h;rcases u with _ | ⟨k,_ | ⟨n,r⟩⟩
  ·rw [rd_nil] at h;cases h;rfl
  ·rw [rd_one] at h;cases h
  ·by_cases hb:n.toNat<2∨r.length+2<n.toNat
   ·rw [rd_bad hb] at h;cases h
   ·rw [rd_step hb] at h;cases hr:rd (r.drop (n.toNat - 2)) with
    | none=>rw [hr] at h;cases h
    | some M =>
     rw [hr] at h;cases h;have h2:=ih _ _ (by rw [List.length_drop];simp at hu;omega) hr;have h3:(txt (r.take (n.toNat - 2))).size+2=n.toNat:=by rw [txt_size,List.length_take];omega
     rw [bytes_cons,h2];unfold one;dsimp only;rw [h3,data_txt];simp
theorem bytes_acc {u:List UInt8} {L:List Opt} (h:acc [] u=some L):told L=u:=by
 have hr:=acc_right h;unfold told;rw [if_pos hr];unfold acc at h;cases hq:rd u with
 | none=>rw [hq] at h;cases h
 | some M =>
  rw [hq,Option.bind_some,List.nil_append] at h;have h2:=bytes_rd _ u M (Nat.le_refl _) hq;by_cases hm:right M=true
  ·rw [if_pos hm] at h;cases h;exact h2
  ·rw [if_neg hm] at h;cases h
structure Pk where
 code:Int
 id:Int
 data:ByteArray
def pok (p:Pk):Bool:=decide (0≤p.code∧p.code≤255∧0≤p.id∧p.id≤255∧p.data.size≤250)
def phead (p:Pk):List UInt8:=[UInt8.ofNat p.code.toNat,UInt8.ofNat p.id.toNat,UInt8.ofNat ((p.data.size+4) / 256),UInt8.ofNat (p.data.size+4)]
def ptold (p:Pk):List UInt8:=if pok p=true then phead p ++ p.data.data.toList else []
structure Out where
 pk:Pk
 code:Int
def no (c:Int):Out:=⟨⟨0,0,⟨#[]⟩⟩,c⟩
end Go.Proofs.YtahpjlbaagkdoaaGreatDoor.Op
