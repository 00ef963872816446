/- LnI EndV OptSp LnSp StrApp -/
import Derived.Test.YtahpjlbaagkdoaaGreatDoorS03
set_option maxHeartbeats 8000000
set_option maxRecDepth 100000
namespace Go.Proofs.YtahpjlbaagkdoaaGreatDoor
open Go.RowKit Go.Proofs.Tryz
structure LnS (w:World) (X M:Nat) (x:Ln) (q:World):Prop where
 r:q.heap[w.heap.size]?=some (.cells #[.int .i64 0,.int .i64 0,.bool false,.bool false,.bool false] 27)
 x:q.heap[X]?=some (.cells (lnC x) 27)
 m:q.heap[M]?=some (.map rules 6)
 b:Below w.heap.size w q
theorem LnS.step {w:World} {X M:Nat} {x:Ln} {q q':World} (h:LnS w X M x q) (hb:Below q.heap.size q q'):LnS w X M x q' :=
 ⟨(hb.block _ (ge.1 h.r).1).trans h.r,(hb.block _ (ge.1 h.x).1).trans h.x,(hb.block _ (ge.1 h.m).1).trans h.m,h.b.trans (hb.mono h.b.size)⟩
theorem row5x {w:World} {B:Nat} {x0 x1 x2 x3 x4:Value} {T:TypeId} (h:w.heap[B]?=some (.cells #[x0,x1,x2,x3,x4] T)) :
  w.cell? ⟨B,0,none⟩=some x0∧w.cell? ⟨B,1,none⟩=some x1∧w.cell? ⟨B,2,none⟩=some x2∧w.cell? ⟨B,3,none⟩=some x3∧w.cell? ⟨B,4,none⟩=some x4∧w.frozen? ⟨B,0,none⟩=false∧w.frozen? ⟨B,1,none⟩=false∧w.frozen? ⟨B,2,none⟩=false∧w.frozen? ⟨B,3,none⟩=false∧w.frozen? ⟨B,4,none⟩=false :=
 ⟨by rw [cr h];rfl,by rw [cr h];rfl,by rw [cr h];rfl,by rw [cr h];rfl,by rw [cr h];rfl,frz h _,frz h _,frz h _,frz h _,frz h _⟩
theorem infoL:(prog.info? 27).map (·.size)=some 5:=by kernel_rfl
theorem loadL {W:World} {E:Nat} {x0 x1 x2 x3 x4:Value} (h:W.heap[E]?=some (.cells #[x0,x1,x2,x3,x4] 27)):(loadVar 27 ⟨E,0,none⟩).run prog W=.ok (.agg #[x0,x1,x2,x3,x4]) W :=
 run_loadVar_row (P:=prog) _ _ 27 27 #[x0,x1,x2,x3,x4] (0,0) _ h underlying27 rfl infoL
theorem set5_at {W:World} {E:Nat} {z0 z1 z2 z3 z4:Value} {T:TypeId} (h:W.heap[E]?=some (.cells #[z0,z1,z2,z3,z4] T)) (x0 x1 x2 x3 x4:Value) :
  (((((W.setCell ⟨E,0,none⟩ x0).setCell ⟨E,1,none⟩ x1).setCell ⟨E,2,none⟩ x2).setCell ⟨E,3,none⟩ x3).setCell ⟨E,4,none⟩ x4).heap[E]?=some (.cells #[x0,x1,x2,x3,x4] T) :=
 heap_setCell_same _ _ 4 _ _ x4 (heap_setCell_same _ _ 3 _ _ x3 (heap_setCell_same _ _ 2 _ _ x2 (heap_setCell_same _ _ 1 _ _ x1 (heap_setCell_same _ _ 0 _ _ x0 h))))
theorem set5_below {n:Nat} {w W:World} {E:Nat} (h:Below n w W) (hE:n≤E) (x0 x1 x2 x3 x4:Value):Below n w (((((W.setCell ⟨E,0,none⟩ x0).setCell ⟨E,1,none⟩ x1).setCell ⟨E,2,none⟩ x2).setCell ⟨E,3,none⟩ x3).setCell ⟨E,4,none⟩ x4) :=
 ((((h.setCell (p:=⟨E,0,none⟩) hE _).setCell (p:=⟨E,1,none⟩) hE _).setCell (p:=⟨E,2,none⟩) hE _).setCell (p:=⟨E,3,none⟩) hE _).setCell (p:=⟨E,4,none⟩) hE _
theorem set5_other {W:World} {E g:Nat} (hg:g≠E) (x0 x1 x2 x3 x4:Value):(((((W.setCell ⟨E,0,none⟩ x0).setCell ⟨E,1,none⟩ x1).setCell ⟨E,2,none⟩ x2).setCell ⟨E,3,none⟩ x3).setCell ⟨E,4,none⟩ x4).heap[g]?=W.heap[g]?:=by
 rw [Below.heap_setCell _ _ _ _ hg,Below.heap_setCell _ _ _ _ hg,Below.heap_setCell _ _ _ _ hg,Below.heap_setCell _ _ _ _ hg,Below.heap_setCell _ _ _ _ hg]
theorem set5_cell {W:World} {E:Nat} (p:Addr) (hp:p.block≠E) (x0 x1 x2 x3 x4:Value):(((((W.setCell ⟨E,0,none⟩ x0).setCell ⟨E,1,none⟩ x1).setCell ⟨E,2,none⟩ x2).setCell ⟨E,3,none⟩ x3).setCell ⟨E,4,none⟩ x4).cell? p=W.cell? p:=by
 unfold World.cell?;rw [set5_other hp]
theorem LnS.put {w:World} {X M:Nat} {x:Ln} {q:World} (h:LnS w X M x q) (h1:w.heap.size<X) (h2:M<X) (y:Ln) :
  LnS w X M y (((((q.setCell ⟨X,0,none⟩ (.int .i64 y.m)).setCell ⟨X,1,none⟩ (.int .i64 y.a)).setCell ⟨X,2,none⟩ (.bool y.p)).setCell ⟨X,3,none⟩ (.bool y.c)).setCell ⟨X,4,none⟩ (.bool y.d)) :=
 ⟨(set5_other (by omega) _ _ _ _ _).trans h.r,set5_at h.x _ _ _ _ _,(set5_other (by omega) _ _ _ _ _).trans h.m,set5_below h.b (by omega) _ _ _ _ _⟩
theorem HoldsO.at {w:World} {v:Value} {F:List Op.Opt} (h:HoldsO w v F) (i:Nat) (hi:i<F.length):∃ g,(∃ cp,v=.slice (some ⟨g,0,none⟩) F.length cp)∧g<w.heap.size∧w.cell? ⟨g,i*2,none⟩=some (.int .i64 F[i].kind)∧w.cell? ⟨g,i*2+1,none⟩=some (.string F[i].data):=by
 rcases h with ⟨_,_,_,e⟩ | ⟨g,cp,cur,e,q1,q2,q3⟩
 ·rw [e] at hi;exact absurd hi (Nat.not_lt_zero _)
 ·have hg:=ocells_get F i _ (List.getElem?_eq_getElem hi);exact ⟨g,⟨cp,e⟩,(ge.1 q1).1,by rw [cr q1,q3 _ (by omega)];exact hg.1,by rw [cr q1,q3 _ (by omega)];exact hg.2⟩
theorem implLine (v:Value) (F:List Op.Opt) (w:World) (hm:F.length≤maxLen) (h:HoldsO w v F) :
  Calls prog 114 #[v] w fun e w'=>e=.returned (.agg (lnC (lineOf F)))∧Below w.heap.size w w':=by
 have C1:=hide fun W (hb:Below w.heap.size w W)=>implRightAll v F W hm (h.below hb rfl)
 unfold lineOf;cases hr:Op.right F
 ·rw [if_neg (by decide)];rw [hr] at C1;obtain ⟨ad,cp,rfl⟩:=h.form;have hb0:Below w.heap.size w (w.alloc (.cells #[.int .i64 0,.int .i64 0,.bool false,.bool false,.bool false] 27)):=(Below.refl _ _).alloc (Nat.le_refl _) _;have hr0:=heap_alloc_new w (.cells #[.int .i64 0,.int .i64 0,.bool false,.bool false,.bool false] 27);have H0:=hide (And.intro hr0 hb0);clear hr0 hb0 h;go_enter func114,ntmps114
  go_wp2_with fail
  refine (uh C1 _ (uh H0).2).mono ?_;rintro e w1 ⟨rfl,hb1⟩;have hr1:=(hb1.block w.heap.size (by simp)).trans (uh H0).1;have hB1:=(uh H0).2.trans (hb1.mono (uh H0).2.size);obtain ⟨r0,r1,r2,r3,r4,f0,f1,f2,f3,f4⟩:=row5x hr1;have H1:=hide (And.intro hr1 hB1);clear hr1 hB1 hb1 H0 C1;go_wp2
  refine bodyPost_ret (v:=.agg #[.int .i64 0,.int .i64 0,.bool false,.bool false,.bool false]) (by simp [results,results114,asAddr,loadL (set5_at (uh H1).1 (.int .i64 0) (.int .i64 0) (.bool false) (.bool false) (.bool false))]) rfl ⟨rfl,set5_below (uh H1).2 (Nat.le_refl _) _ _ _ _ _⟩
 ·rw [if_pos rfl];rw [hr] at C1;have hFl:=Op.right_len hr;have HFO:=hide (Op.right_all hr);have HAT:=hide fun i hi=>h.at i hi
  obtain ⟨ad,cp,rfl⟩:=h.form;obtain ⟨n,hn⟩:∃ n,F.length=n:=⟨_,rfl⟩;have hb0:Below w.heap.size w (w.alloc (.cells #[.int .i64 0,.int .i64 0,.bool false,.bool false,.bool false] 27)):=(Below.refl _ _).alloc (Nat.le_refl _) _;have hr0:=heap_alloc_new w (.cells #[.int .i64 0,.int .i64 0,.bool false,.bool false,.bool false] 27);have H0:=hide (And.intro hr0 hb0);clear hr0 hb0 h hr;have HTL:Hid (F.take n=F):=hide (List.take_of_length_le (by omega));obtain ⟨R,hR⟩:∃ R,lineF F=R:=⟨_,rfl⟩;rw [hR];have HR:=hide hR;clear hR;rw [hn] at C1 ⊢;go_enter func114,ntmps114
  go_wp2_with fail
  refine (uh C1 _ (uh H0).2).mono ?_;rintro e w1 ⟨rfl,hb1⟩;have hr1:=(hb1.block w.heap.size (by simp)).trans (uh H0).1;have hB1:=(uh H0).2.trans (hb1.mono (uh H0).2.size);have H1:=hide (And.intro hr1 hB1);clear hr1 hB1 hb1 H0 C1;go_wp2_with fail
  refine (optionRules _).mono ?_;rintro e w2 ⟨rfl,hm2,hb2⟩;have hI:LnS w w2.heap.size w1.heap.size (lineF (F.take 0)) (w2.alloc (.cells #[.int .i64 300,.int .i64 4294967295,.bool false,.bool false,.bool false] 27)):=by
   have hl1:=(ge.1 (uh H1).1).1;have hl2:=(ge.1 hm2).1;have hr2:=(hb2.block w.heap.size hl1).trans (uh H1).1;have hB2:=(uh H1).2.trans (hb2.mono (uh H1).2.size);have hs2:=hb2.size;exact ⟨(Below.heap_alloc _ _ _ (by omega)).trans hr2,heap_alloc_new w2 _,(Below.heap_alloc _ _ _ hl2).trans hm2,hB2.alloc hB2.size _⟩
  have hX:w.heap.size<w2.heap.size∧w1.heap.size<w2.heap.size:=⟨Nat.lt_of_lt_of_le (ge.1 (uh H1).1).1 hb2.size,(ge.1 hm2).1⟩;have HI:=hide hI;clear hI hm2 hb2 H1;obtain ⟨hX1,hX2⟩:=hX;go_wp2_with fail
  generalize w1.heap.size=M at *;generalize w2.heap.size=X at *;go_loopw [17] (fun y wr=>∃ i:Nat,i≤n∧y=.int .i64 i∧LnS w X M (lineF (F.take i)) wr) (fun y _=>n - (intOf y).toNat)
  case atStart=>exact ⟨0,Nat.zero_le _,rfl,uh HI⟩
  case round =>
   obtain ⟨i,hi,rfl,hS⟩:=hrel;clear HI;by_cases hlt:i<n
   ·have d1:(i:Int)<(n:Int):=by omega
    have d0:(0:Int)≤(i:Int):=by omega
    obtain ⟨g,⟨cp2,e2⟩,hgl,k0,k1⟩:=uh HAT i (by omega);cases e2;replace k0:=(hS.b.cell (p:=⟨g,i*2,none⟩) hgl).trans k0;replace k1:=(hS.b.cell (p:=⟨g,i*2+1,none⟩) hgl).trans k1;have HSN:=hide (lineF_snoc F i (by omega));have hok:=uh HFO _ (List.getElem_mem (show i<F.length by omega));generalize F[i]'(by omega)=o at *;obtain ⟨kd,dt⟩:=o;dsimp only at k0 k1;generalize lineF (F.take i)=x at *;have hds:dt.size≤20:=by unfold Op.ok at hok;have:=of_decide_eq_true hok;exact this.2.2
    have HS:=hide hS;clear hS HAT HFO hok;go_upto_region 8 with fail
    refine gen_world (fun q=>LnS w X M x q∧q.heap[wr.heap.size]?=some (.cells #[.int .i64 kd,.string dt] 116))
     ⟨(uh HS).step ((Below.refl _ _).alloc (Nat.le_refl _) _),heap_alloc_new wr _⟩ ?_
    rintro q1 ⟨hS1,hO1⟩;have hN1:X<wr.heap.size:=(ge.1 (uh HS).x).1;generalize wr.heap.size=N1 at *;have hl1:N1<q1.heap.size:=(ge.1 hO1).1;obtain ⟨c0,c1,_,_⟩:=row2x hO1;have HV1:=hide (And.intro hS1 hO1);clear hO1 HS k0 k1;unfold lnOne at HSN;dsimp only at HSN;rcases ln_row kd with ⟨s,f,f2,f3,f4,f5,j,hs,hJ⟩ | ⟨hs,hf⟩
    ·have CR:=hide (ruleOf_yes M kd dt s f f2 f3 f4 f5 j q1 hS1.m hJ.fd);have hcf:=hJ.cf;have HJL:=hide hJ.ln;have h4:=sizeK_le hs;clear hS1 hJ;go_wp2_with fail
     refine (uh CR).mono ?_;rintro e w3 ⟨rfl,hb3⟩;have HV3:=hide (And.intro ((uh HV1).1.step hb3) ((hb3.block N1 hl1).trans (uh HV1).2));have hl3:N1<w3.heap.size:=Nat.lt_of_lt_of_le hl1 hb3.size;clear hb3 HV1 hl1 c0 c1 CR;cases hq:((dt.size:Int) == (s:Int))
     ·have hne:¬ (sizeK kd=some dt.size):=fun e=>by
       rw [hs] at e;cases e;rw [beq_self_eq_true] at hq;cases hq
      rw [if_neg hne] at HSN;go_wp2_with fail
      go_roundw
      case rel=>exact ⟨i+1,by omega,by go_num,by rw [uh HSN];exact (uh HV3).1.step ((Below.refl _ _).alloc (Nat.le_refl _) _)⟩
      case measure=>simp [intOf];omega
     ·have hes:dt.size=s:=by have:=eq_of_beq hq;omega
      rw [if_pos (by rw [hs,hes])] at HSN;have CN:=hide fun v=>numberOf kd dt v (by omega)
      have hnx:=numOf_lt4 dt.data.toList (by rw [len_dat];omega);have HJ2:=hide fun v=>uh HJL x (numOf dt.data.toList) v
      generalize numOf dt.data.toList=nx at *;clear HJL;go_upto_region 10 with fail
      refine gen_world (fun q=>LnS w X M x q∧q.heap[N1]?=some (.cells #[.int .i64 kd,.string dt] 116)∧q.heap[w3.heap.size]?=some (.cells #[.int .i64 s,fnV f,fnV f2,fnV f3,fnV f4,fnV f5] 185))
       ⟨(uh HV3).1.step ((Below.refl _ _).alloc (Nat.le_refl _) _),(Below.heap_alloc _ _ _ hl3).trans (uh HV3).2,heap_alloc_new w3 _⟩ ?_
      rintro q4 ⟨hS4,hO4,hR4⟩;have hN2:X<w3.heap.size:=by omega
      generalize w3.heap.size=N2 at *;obtain ⟨c0,c1,_,_⟩:=row2x hO4;obtain ⟨_,_,_,_,_,r5⟩:=row6 hR4;have HV4:=hide (And.intro hS4 (And.intro hO4 hR4));clear hS4 hO4 hR4 HV3;refine wp_region_held_drew (S:=fun z=>z.cell? ⟨N1,0,none⟩=some (.int .i64 kd)∧z.cell? ⟨N1,1,none⟩=some (.string dt)∧z.cell? ⟨N2,5,none⟩=some (fnV f5)) (by kernel_rfl) ?_ (fun hHeld=>?_)
      ·exact ⟨c0,c1,r5⟩
      refine t2 0 ?_;refine t2 1 ?_;refine t2 3 ?_;refine wpAnyH_ready (rs:=[2,4]) (by kernel_rfl) (by simp) ?_;have hn1:N1<q4.heap.size:=(ge.1 (uh HV4).2.1).1;have hn2:N2<q4.heap.size:=(ge.1 (uh HV4).2.2).1;refine AllReadyH.cons rfl (fun K hK=>?_) (AllReadyH.cons rfl (fun K hK=>?_) AllReadyH.nil)
      ·obtain ⟨m0,m1,m2,m3,m4,_,_,_,_,_⟩:=row5x (uh HV4).1.x;go_simp;refine hK.out _ _ ?_ (fun hHeld2=>?_)
       ·exact ⟨c0,c1,r5⟩
       clear hK K m0 m1 m2 m3 m4;try simp only [Act.put,sA,sZ,sS,gA,gZ,gS]
       refine r1 4 rfl (fun K hK=>?_);go_simp;refine (uh CN _).mono ?_;rintro e w5 ⟨rfl,hb5⟩;have B5:Below q4.heap.size q4 w5:=(Below.refl _ _).drew.trans hb5;go_wp2_with fail
       refine hK.out _ _ ?_ (fun hHeld3=>?_)
       ·exact ⟨(B5.cell (p:=⟨N1,0,none⟩) hn1).trans c0,(B5.cell (p:=⟨N1,1,none⟩) hn1).trans c1,(B5.cell (p:=⟨N2,5,none⟩) hn2).trans r5⟩
       clear hK K;try simp only [Act.put,sA,sZ,sS,gA,gZ,gS]
       refine r1 5 rfl (fun K hK=>?_);go_simp;refine (uh HJ2 _).mono ?_;rintro e w6 ⟨rfl,hb6⟩;have B6:Below q4.heap.size q4 w6:=B5.trans (hb6.mono B5.size);have h6:=(uh HV4).1.step B6;go_wp2_with fail
       refine hK.out _ _ ?_ (fun hHeld4=>?_)
       ·exact ⟨(B6.cell (p:=⟨N1,0,none⟩) hn1).trans c0,(B6.cell (p:=⟨N1,1,none⟩) hn1).trans c1,(B6.cell (p:=⟨N2,5,none⟩) hn2).trans r5⟩
       clear hK K;try simp only [Act.put,sA,sZ,sS,gA,gZ,gS]
       refine r1 6 rfl (fun K hK=>?_);obtain ⟨m0,m1,m2,m3,m4,f0,f1',f2',f3',f4'⟩:=row5x h6.x;have HL:=hide (h6.put hX1 hX2 (lnK kd x nx));have n1X:N1≠X:=by omega
       have n2X:N2≠X:=by omega
       go_simp;refine hK.out _ _ ?_ (fun hHeld5=>?_)
       ·have T:=fun p (hp:p.block≠X)=>set5_cell (W:=w6) (E:=X) p hp (.int .i64 (lnK kd x nx).m) (.int .i64 (lnK kd x nx).a) (.bool (lnK kd x nx).p) (.bool (lnK kd x nx).c) (.bool (lnK kd x nx).d)
        exact ⟨(T ⟨N1,0,none⟩ n1X).trans ((B6.cell (p:=⟨N1,0,none⟩) hn1).trans c0),(T ⟨N1,1,none⟩ n1X).trans ((B6.cell (p:=⟨N1,1,none⟩) hn1).trans c1),(T ⟨N2,5,none⟩ n2X).trans ((B6.cell (p:=⟨N2,5,none⟩) hn2).trans r5)⟩
       clear hK K;try simp only [Act.put,sA,sZ,sS,gA,gZ,gS]
       refine dn ?_ _;go_wp2_with fail
       go_roundw
       case rel=>exact ⟨i+1,by omega,by go_num,by rw [uh HSN];exact uh HL⟩
       case measure=>simp [intOf];omega
      ·go_simp;refine (uh CN _).mono ?_;rintro e w5 ⟨rfl,hb5⟩;have B5:Below q4.heap.size q4 w5:=(Below.refl _ _).drew.trans hb5;go_wp2_with fail
       refine hK.out _ _ ?_ (fun hHeld2=>?_)
       ·exact ⟨(B5.cell (p:=⟨N1,0,none⟩) hn1).trans c0,(B5.cell (p:=⟨N1,1,none⟩) hn1).trans c1,(B5.cell (p:=⟨N2,5,none⟩) hn2).trans r5⟩
       clear hK K;try simp only [Act.put,sA,sZ,sS,gA,gZ,gS]
       refine r1 2 rfl (fun K hK=>?_);obtain ⟨m0,m1,m2,m3,m4,_,_,_,_,_⟩:=row5x ((uh HV4).1.step B5).x;go_simp;refine hK.out _ _ ?_ (fun hHeld3=>?_)
       ·exact ⟨(B5.cell (p:=⟨N1,0,none⟩) hn1).trans c0,(B5.cell (p:=⟨N1,1,none⟩) hn1).trans c1,(B5.cell (p:=⟨N2,5,none⟩) hn2).trans r5⟩
       clear hK K m0 m1 m2 m3 m4;try simp only [Act.put,sA,sZ,sS,gA,gZ,gS]
       refine r1 5 rfl (fun K hK=>?_);go_simp;refine (uh HJ2 _).mono ?_;rintro e w6 ⟨rfl,hb6⟩;have B6:Below q4.heap.size q4 w6:=B5.trans (hb6.mono B5.size);have h6:=(uh HV4).1.step B6;go_wp2_with fail
       refine hK.out _ _ ?_ (fun hHeld4=>?_)
       ·exact ⟨(B6.cell (p:=⟨N1,0,none⟩) hn1).trans c0,(B6.cell (p:=⟨N1,1,none⟩) hn1).trans c1,(B6.cell (p:=⟨N2,5,none⟩) hn2).trans r5⟩
       clear hK K;try simp only [Act.put,sA,sZ,sS,gA,gZ,gS]
       refine r1 6 rfl (fun K hK=>?_);obtain ⟨m0,m1,m2,m3,m4,f0,f1',f2',f3',f4'⟩:=row5x h6.x;have HL:=hide (h6.put hX1 hX2 (lnK kd x nx));have n1X:N1≠X:=by omega
       have n2X:N2≠X:=by omega
       go_simp;refine hK.out _ _ ?_ (fun hHeld5=>?_)
       ·have T:=fun p (hp:p.block≠X)=>set5_cell (W:=w6) (E:=X) p hp (.int .i64 (lnK kd x nx).m) (.int .i64 (lnK kd x nx).a) (.bool (lnK kd x nx).p) (.bool (lnK kd x nx).c) (.bool (lnK kd x nx).d)
        exact ⟨(T ⟨N1,0,none⟩ n1X).trans ((B6.cell (p:=⟨N1,0,none⟩) hn1).trans c0),(T ⟨N1,1,none⟩ n1X).trans ((B6.cell (p:=⟨N1,1,none⟩) hn1).trans c1),(T ⟨N2,5,none⟩ n2X).trans ((B6.cell (p:=⟨N2,5,none⟩) hn2).trans r5)⟩
       clear hK K;try simp only [Act.put,sA,sZ,sS,gA,gZ,gS]
       refine dn ?_ _;go_wp2_with fail
       go_roundw
       case rel=>exact ⟨i+1,by omega,by go_num,by rw [uh HSN];exact uh HL⟩
       case measure=>simp [intOf];omega
    ·have CR:=hide (ruleOf_no M kd dt q1 hS1.m hf);rw [if_neg (by rw [hs];intro e;cases e)] at HSN;clear hS1 hf;go_wp2_with fail
     refine (uh CR).mono ?_;rintro e w3 ⟨rfl,hb3⟩;have HV3:=hide ((uh HV1).1.step hb3);clear hb3 HV1 hl1 c0 c1 CR;go_wp2_with fail
     go_roundw
     case rel=>exact ⟨i+1,by omega,by go_num,by rw [uh HSN];exact (uh HV3).step ((Below.refl _ _).alloc (Nat.le_refl _) _)⟩
     case measure=>simp [intOf];omega
   ·have e:i=n:=by omega
    subst e;have d1:¬ ((i:Int)<(i:Int)):=by omega
    rw [uh HTL,uh HR] at hS;obtain ⟨m0,m1,m2,m3,m4,_,_,_,_,_⟩:=row5x hS.x;obtain ⟨r0,r1,r2,r3,r4,f0,f1,f2,f3,f4⟩:=row5x hS.r;have HS:=hide hS;clear hS HAT HFO HTL HR;go_wp2
    exact bodyPost_ret (v:=.agg (lnC R)) (by simp [results,results114,asAddr,loadL (set5_at (uh HS).r (.int .i64 R.m) (.int .i64 R.a) (.bool R.p) (.bool R.c) (.bool R.d))]) rfl ⟨rfl,set5_below (uh HS).b (Nat.le_refl _) _ _ _ _ _⟩
structure En where
 m1:Int
 a1:Int
 g1:Int
 p1:Bool
 c1:Bool
 d1:Bool
 m2:Int
 a2:Int
 g2:Int
 p2:Bool
 c2:Bool
 d2:Bool
 st:Int
 tr:Int
 du:Int
 id:Int
 fl:Int
 up:Bool
 i1:Int
 i2:Int
 i3:Bool
 i4:Bool
 i5:Bool
 o1:Int
 o2:Int
 o3:Bool
 o4:Bool
 o5:Bool
abbrev enC (e:En) (v1 v2:Value):Array Value:=#[.int .i64 e.m1,.int .i64 e.a1,.int .i64 e.g1,.bool e.p1,.bool e.c1,.bool e.d1,.int .i64 e.m2,.int .i64 e.a2,.int .i64 e.g2,.bool e.p2,.bool e.c2,.bool e.d2,.int .i64 e.st,.int .i64 e.tr,.int .i64 e.du,.int .i64 e.id,.int .i64 e.fl,v1,v2,.bool e.up,.int .i64 e.i1,.int .i64 e.i2,.bool e.i3,.bool e.i4,.bool e.i5,.int .i64 e.o1,.int .i64 e.o2,.bool e.o3,.bool e.o4,.bool e.o5]
structure EqE (w:World) (cs ds:Array Value) (q:World):Prop where
 a:q.heap[w.heap.size]?=some (.cells cs 29)
 b:q.heap[w.heap.size+1]?=some (.cells ds 29)
 l:Below w.heap.size w q
theorem EqE.step {w:World} {cs ds:Array Value} {q q':World} (h:EqE w cs ds q) (hb:Below q.heap.size q q'):EqE w cs ds q' :=
 ⟨(hb.block _ (ge.1 h.a).1).trans h.a,(hb.block _ (ge.1 h.b).1).trans h.b,h.l.trans (hb.mono h.l.size)⟩
theorem specRight0 (ad:Option Addr) (cp:Nat) (w:World):Calls prog 68 #[.slice ad 0 cp] w fun e w'=>e=.returned (.bool true)∧Below w.heap.size w w':=by
 go_enter func68,ntmps68
 go_wp2_with fail
 go_loopw [3] (fun y wr=>y=.int .i64 0∧wr=w) (fun _ _=>0)
 case atStart=>exact ⟨rfl,rfl⟩
 case round =>
  obtain ⟨rfl,rfl⟩:=hrel;go_wp2
  go_ret
  exact ⟨rfl,Below.refl _ _⟩
theorem specRightG (g cp:Nat) (F:List Op.Opt) (cur:Array Value) (w:World) (hm:F.length≤maxLen) (h1:w.heap[g]?=some (.cells cur 116)) (a1:∀ j,j<F.length*2→cur[j]?=(ocells F)[j]?) :
  Calls prog 68 #[.slice (some ⟨g,0,none⟩) F.length cp] w fun e w'=>e=.returned (.bool (Op.right F))∧Below w.heap.size w w':=by
 unfold maxLen at hm;have hl1:g<w.heap.size:=(ge.1 h1).1;obtain ⟨n,hn⟩:∃ n,F.length=n:=⟨_,rfl⟩;by_cases h20:20<n
 ·have d0:(20:Int)<(n:Int):=by omega
  rw [right_long (by omega),hn];go_enter func68,ntmps68
  go_wp2
  go_ret
  exact ⟨rfl,Below.refl _ _⟩
 ·have d0:¬ ((20:Int)<(n:Int)):=by omega
  have HA:Hid (∀ i (hi:i<n),cur[i*2]?=some (.int .i64 (F[i]'(by omega)).kind)∧cur[i*2+1]?=some (.string (F[i]'(by omega)).data)):=by
   refine hide fun i hi=>?_
   have q:=ocells_get F i (F[i]'(by omega)) (List.getElem?_eq_getElem (by omega));exact ⟨(a1 _ (by omega)).trans q.1,(a1 _ (by omega)).trans q.2⟩
  have HT:Hid ((∀ k (hk:k<n),Op.ok (F[k]'(by omega))=true)→Op.right F=true):=hide fun h=>right_true (by omega) fun k hk=>h k (by omega)
  have HF:Hid (∀ k (hk:k<n),Op.ok (F[k]'(by omega))=false→Op.right F=false):=hide fun k hk h=>right_false (by omega) h
  rw [hn];clear a1 hm;generalize Op.right F=RT at *;go_enter func68,ntmps68
  go_wp2_with fail
  go_loopw [3] (fun y wr=>∃ (i:Nat),i≤n∧y=.int .i64 i∧(∀ k (hk:k<i) (hkn:k<n),Op.ok (F[k]'(by omega))=true)∧Below w.heap.size w wr) (fun y _=>n - (intOf y).toNat)
  case atStart=>exact ⟨0,Nat.zero_le _,rfl,fun k hk=>by omega,Below.refl _ _⟩
  case round =>
   obtain ⟨i,hi,rfl,hall,hb⟩:=hrel;by_cases hlt:i<n
   ·have d1:(i:Int)<(n:Int):=by omega
    obtain ⟨q1,q2⟩:=uh HA i hlt;have e1:=(hb.block g hl1).trans h1;have hf:=uh HF i hlt;have hall2:Op.ok (F[i]'(by omega))=true→∀ k (hk:k<i+1) (hkn:k<n),Op.ok (F[k]'(by omega))=true:=by
     intro h k hk hkn;rcases Nat.lt_or_ge k i with hk2 | hk2
     ·exact hall k hk2 hkn
     ·have:k=i:=by omega
      subst this;exact h
    generalize hO:F[i]'(by omega)=o at *;have k0:wr.cell? ⟨g,i*2,none⟩=some (.int .i64 o.kind):=by rw [cr e1];exact q1
    have k1:wr.cell? ⟨g,i*2+1,none⟩=some (.string o.data):=by rw [cr e1];exact q2
    have HAL:=hide hall2;have HFF:=hide hf;have C:=hide fun v=>specIs255 o.kind 1 v
    obtain ⟨kd,dt⟩:=o;dsimp only at k0 k1 C;clear q1 q2 e1 hall hall2 hf hO HA HT HF h1;refine ok_ways ⟨kd,dt⟩ _ (fun a r=>?_) (fun a b r=>?_) (fun a b c r=>?_) (fun a b c r=>?_);all_goals dsimp only at *
    ·have hR:=uh HFF r;subst hR;rw [show (decide (1≤kd) && decide (kd≤255))=false by simp;omega] at C;clear HFF HAL r a;go_wp2_with (first | (go_at_call 72;refine (uh C _).mono ?_;rintro e w2 ⟨rfl,hw⟩;replace hw:=hw.symm;subst hw))
     go_ret
     exact ⟨rfl,hb⟩
    ·have hR:=uh HFF r;subst hR;rw [show (decide (1≤kd) && decide (kd≤255))=false by simp;omega] at C;clear HFF HAL r a b;go_wp2_with (first | (go_at_call 72;refine (uh C _).mono ?_;rintro e w2 ⟨rfl,hw⟩;replace hw:=hw.symm;subst hw))
     go_ret
     exact ⟨rfl,hb⟩
    ·have f2:decide ((20:Int)<(dt.size:Int))=true:=decide_eq_true (by omega);have hR:=uh HFF r;subst hR;rw [show (decide (1≤kd) && decide (kd≤255))=true by simp;omega] at C;clear HFF HAL r a b c;go_wp2_with (first | (go_at_call 72;refine (uh C _).mono ?_;rintro e w2 ⟨rfl,hw⟩;replace hw:=hw.symm;subst hw))
     go_ret
     exact ⟨rfl,hb⟩
    ·have f2:decide ((20:Int)<(dt.size:Int))=false:=decide_eq_false (by omega);have hR:=uh HAL r;have HR:=hide hR;rw [show (decide (1≤kd) && decide (kd≤255))=true by simp;omega] at C;clear HFF HAL r a b c hR;go_wp2_with (first | (go_at_call 72;refine (uh C _).mono ?_;rintro e w2 ⟨rfl,hw⟩;replace hw:=hw.symm;subst hw))
     go_roundw
     case rel=>exact ⟨i+1,by omega,by go_num,uh HR,hb⟩
     case measure=>simp [intOf];omega
   ·have e:i=n:=by omega
    subst e;have d1:¬ ((i:Int)<(i:Int)):=by omega
    have hR:=uh HT fun k hk=>hall k hk hk
    subst hR;go_wp2
    go_ret
    exact ⟨rfl,hb⟩
theorem specRightAll (v:Value) (F:List Op.Opt) (w:World) (hm:F.length≤maxLen) (h:HoldsO w v F) :
  Calls prog 68 #[v] w fun e w'=>e=.returned (.bool (Op.right F))∧Below w.heap.size w w':=by
 rcases h with ⟨ad,cp,rfl,rfl⟩ | ⟨g,cp,cur,rfl,h2,_,h4⟩
 ·exact specRight0 ad cp w
 ·exact specRightG g cp F cur w hm h2 h4
def getN (t:ByteArray) (many:Nat):Nat:=if t.size=many then numOf t.data.toList else 0
theorem specGet (t:ByteArray) (many:Nat) (w:World) (ht:t.size≤20) (hm:many≤4) :
  Calls prog 108 #[.string t,.int .i64 many] w fun e w'=>e=.returned (.tuple #[.int .i64 (getN t many:Nat),.bool (decide (t.size=many))])∧w'=w:=by
 unfold getN;by_cases h:t.size=many
 ·rw [if_pos h,decide_eq_true h];exact specGetYes t many w hm h
 ·rw [if_neg h,decide_eq_false h];exact specGetNo t many w ht h
structure LnQ (w:World) (X:Nat) (x:Ln) (q:World):Prop where
 r:q.heap[w.heap.size]?=some (.cells #[.int .i64 0,.int .i64 0,.bool false,.bool false,.bool false] 27)
 x:q.heap[X]?=some (.cells (lnC x) 27)
 b:Below w.heap.size w q
theorem LnQ.step {w:World} {X:Nat} {x:Ln} {q q':World} (h:LnQ w X x q) (hb:Below q.heap.size q q'):LnQ w X x q' :=
 ⟨(hb.block _ (ge.1 h.r).1).trans h.r,(hb.block _ (ge.1 h.x).1).trans h.x,h.b.trans (hb.mono h.b.size)⟩
theorem LnQ.put {w:World} {X:Nat} {x y:Ln} {q:World} (h:LnQ w X x q) (h1:w.heap.size<X) (i:Nat) (v:Value) (hy:(lnC x).setIfInBounds i v=lnC y):LnQ w X y (q.setCell ⟨X,i,none⟩ v) :=
 ⟨(Below.heap_setCell _ _ _ _ (by simp;omega)).trans h.r,by rw [← hy];exact heap_setCell_same _ _ i _ _ v h.x,h.b.setCell (p:=⟨X,i,none⟩) (by simp;omega) _⟩
theorem num_four (t:ByteArray) (h:t.size=1):(((numOf t.data.toList:Nat):Int) == 4)=(t.toList == [4]):=by
 obtain ⟨c,hc⟩:∃ c,t.data.toList=[c]:=by
  have:t.data.toList.length=1:=by rw [Array.length_toList];exact h
  exact List.length_eq_one_iff.1 this
 rw [ByteArray.toList_eq,hc];have h4:numOf [c]=c.toNat:=by simp [numOf]
 rw [h4];cases hq:((c.toNat:Int) == 4)
 ·symm
  rw [beq_eq_false_iff_ne];intro e;cases e;cases hq
 ·have:c.toNat=4:=by have:=eq_of_beq hq;omega
  have:c=4:=by
   apply UInt8.toNat_inj.1
   exact this
  subst this;rfl
theorem empty_iff (t:ByteArray):t.toList.isEmpty=decide (t.size=0):=by
 rw [ByteArray.toList_eq];cases h:t.data.toList with
 | nil=>symm;apply decide_eq_true;show t.data.size=0;rw [← Array.length_toList,h];rfl
 | cons c l=>symm;apply decide_eq_false;show ¬ (t.data.size=0);rw [← Array.length_toList,h];simp
theorem specLine (v:Value) (F:List Op.Opt) (w:World) (hm:F.length≤maxLen) (h:HoldsO w v F) :
  Calls prog 76 #[v] w fun e w'=>e=.returned (.agg (lnC (lineOf F)))∧Below w.heap.size w w':=by
 have C1:=hide fun W (hb:Below w.heap.size w W)=>specRightAll v F W hm (h.below hb rfl)
 unfold lineOf;have hb0:Below w.heap.size w (w.alloc (.cells #[.int .i64 0,.int .i64 0,.bool false,.bool false,.bool false] 27)):=(Below.refl _ _).alloc (Nat.le_refl _) _;have hr0:=heap_alloc_new w (.cells #[.int .i64 0,.int .i64 0,.bool false,.bool false,.bool false] 27);have H0:=hide (And.intro hr0 hb0);clear hr0 hb0;cases hr:Op.right F
 ·rw [if_neg (by decide)];rw [hr] at C1;obtain ⟨ad,cp,rfl⟩:=h.form;clear h;go_enter func76,ntmps76
  go_wp2_with fail
  refine (uh C1 _ (uh H0).2).mono ?_;rintro e w1 ⟨rfl,hb1⟩;have hr1:=(hb1.block w.heap.size (by simp)).trans (uh H0).1;have hB1:=(uh H0).2.trans (hb1.mono (uh H0).2.size);obtain ⟨r0,r1,r2,r3,r4,f0,f1,f2,f3,f4⟩:=row5x hr1;have H1:=hide (And.intro hr1 hB1);clear hr1 hB1 hb1 H0 C1;go_wp2
  exact bodyPost_ret (v:=.agg #[.int .i64 0,.int .i64 0,.bool false,.bool false,.bool false]) (by simp [results,results76,asAddr,loadL (set5_at (uh H1).1 (.int .i64 0) (.int .i64 0) (.bool false) (.bool false) (.bool false))]) rfl ⟨rfl,set5_below (uh H1).2 (Nat.le_refl _) _ _ _ _ _⟩
 ·rw [if_pos rfl];rw [hr] at C1;have hFl:=Op.right_len hr;have HFO:=hide (Op.right_all hr);have HAT:=hide fun i hi=>h.at i hi
  obtain ⟨ad,cp,rfl⟩:=h.form;obtain ⟨n,hn⟩:∃ n,F.length=n:=⟨_,rfl⟩;clear h hr;have HTL:Hid (F.take n=F):=hide (List.take_of_length_le (by omega));obtain ⟨R,hR⟩:∃ R,lineF F=R:=⟨_,rfl⟩;rw [hR];have HR:=hide hR;clear hR;rw [hn] at C1 ⊢;go_enter func76,ntmps76
  go_wp2_with fail
  refine (uh C1 _ (uh H0).2).mono ?_;rintro e w1 ⟨rfl,hb1⟩;have hI:LnQ w w1.heap.size (lineF (F.take 0)) (w1.alloc (.cells #[.int .i64 300,.int .i64 4294967295,.bool false,.bool false,.bool false] 27)):=by
   have hr1:=(hb1.block w.heap.size (by simp)).trans (uh H0).1;have hB1:=(uh H0).2.trans (hb1.mono (uh H0).2.size);exact ⟨(Below.heap_alloc _ _ _ (ge.1 hr1).1).trans hr1,heap_alloc_new w1 _,hB1.alloc hB1.size _⟩
  have hX1:w.heap.size<w1.heap.size:=Nat.lt_of_lt_of_le (ge.1 (uh H0).1).1 hb1.size;have HI:=hide hI;clear hI hb1 H0 C1;go_wp2_with fail
  generalize w1.heap.size=X at *;go_loopw [4] (fun y wr=>∃ i:Nat,i≤n∧y=.int .i64 i∧LnQ w X (lineF (F.take i)) wr) (fun y _=>n - (intOf y).toNat)
  case atStart=>exact ⟨0,Nat.zero_le _,rfl,uh HI⟩
  case round =>
   obtain ⟨i,hi,rfl,hS⟩:=hrel;clear HI;by_cases hlt:i<n
   ·have d1:(i:Int)<(n:Int):=by omega
    have d0:(0:Int)≤(i:Int):=by omega
    obtain ⟨g,⟨cp2,e2⟩,hgl,k0,k1⟩:=uh HAT i (by omega);cases e2;replace k0:=(hS.b.cell (p:=⟨g,i*2,none⟩) hgl).trans k0;replace k1:=(hS.b.cell (p:=⟨g,i*2+1,none⟩) hgl).trans k1;have HSN:=hide (lineF_snoc F i (by omega));have hok:=uh HFO _ (List.getElem_mem (show i<F.length by omega));generalize F[i]'(by omega)=o at *;obtain ⟨kd,dt⟩:=o;dsimp only at k0 k1;generalize lineF (F.take i)=x at *;have hds:dt.size≤20:=by unfold Op.ok at hok;have:=of_decide_eq_true hok;exact this.2.2
    have HS:=hide hS;clear hS HAT HFO hok;go_upto_region 8 with fail
    refine gen_world (fun q=>LnQ w X x q∧q.heap[wr.heap.size]?=some (.cells #[.int .i64 kd,.string dt] 116))
     ⟨(uh HS).step ((Below.refl _ _).alloc (Nat.le_refl _) _),heap_alloc_new wr _⟩ ?_
    rintro q1 ⟨hS1,hO1⟩;generalize wr.heap.size=N1 at *;obtain ⟨c0,c1,_,_⟩:=row2x hO1;obtain ⟨m0,m1,m2,m3,m4,f0,f1,f2,f3,f4⟩:=row5x hS1.x;have HV1:=hide hS1;clear hO1 HS k0 k1 hS1;have C2:=hide fun W=>specGet dt 2 W hds (by decide)
    have C4:=hide fun W=>specGet dt 4 W hds (by decide)
    have CI:=hide fun y W=>specIs y 64 300 W
    go_wp2_with fail
    refine (uh C2 _).mono ?_;rintro e w2 ⟨rfl,hw2⟩;replace hw2:=hw2.symm;subst hw2;go_wp2_with fail
    refine (uh C4 _).mono ?_;rintro e w3 ⟨rfl,hw3⟩;replace hw3:=hw3.symm;subst hw3;clear C2 C4;unfold lnOne at HSN;dsimp only at HSN;by_cases hk1:kd=1
    ·subst hk1;by_cases hs:dt.size=2
     ·rw [if_pos (by rw [hs];rfl)] at HSN;have g2:getN dt 2=numOf dt.data.toList:=if_pos hs;rw [g2,decide_eq_true hs];unfold lnK at HSN;rw [if_pos rfl] at HSN;generalize numOf dt.data.toList=nx at *;cases hw:within 64 300 (nx:Int)
      ·rw [hw,if_neg (by decide)] at HSN;have CI2:=hide fun W=>specIs (nx:Int) 64 300 W
       rw [hw] at CI2;clear CI;go_wp2_with (first | (go_at_call 72;refine (uh CI2 _).mono ?_;rintro e w4 ⟨rfl,hw4⟩;replace hw4:=hw4.symm;subst hw4))
       go_roundw
       case rel=>exact ⟨i+1,by omega,by go_num,by rw [uh HSN];exact uh HV1⟩
       case measure=>simp [intOf];omega
      ·rw [hw,if_pos rfl] at HSN;have CI2:=hide fun W=>specIs (nx:Int) 64 300 W
       rw [hw] at CI2;clear CI;go_wp2_with (first | (go_at_call 72;refine (uh CI2 _).mono ?_;rintro e w4 ⟨rfl,hw4⟩;replace hw4:=hw4.symm;subst hw4))
       go_roundw
       case rel=>exact ⟨i+1,by omega,by go_num,by rw [uh HSN];exact (uh HV1).put hX1 0 (.int .i64 nx) rfl⟩
       case measure=>simp [intOf];omega
     ·rw [if_neg (by intro e;have e2:=Option.some.inj (show some 2=some dt.size from e);omega)] at HSN;rw [decide_eq_false hs];go_wp2_with (first | (go_at_call 72;refine (uh CI _ _).mono ?_;rintro e w4 ⟨rfl,hw4⟩;replace hw4:=hw4.symm;subst hw4))
      go_roundw
      case rel=>exact ⟨i+1,by omega,by go_num,by rw [uh HSN];exact uh HV1⟩
      case measure=>simp [intOf];omega
    by_cases hk2:kd=2
    ·subst hk2;by_cases hs:dt.size=4
     ·rw [if_pos (by rw [hs];rfl)] at HSN;have g4:getN dt 4=numOf dt.data.toList:=if_pos hs;rw [g4,decide_eq_true hs];unfold lnK at HSN;rw [if_neg (by decide),if_pos rfl] at HSN;go_wp2_with (first | (go_at_call 72;refine (uh CI _ _).mono ?_;rintro e w4 ⟨rfl,hw4⟩;replace hw4:=hw4.symm;subst hw4))
      go_roundw
      case rel=>exact ⟨i+1,by omega,by go_num,by rw [uh HSN];exact (uh HV1).put hX1 1 (.int .i64 (numOf dt.data.toList:Nat)) rfl⟩
      case measure=>simp [intOf];omega
     ·rw [if_neg (by intro e;have e2:=Option.some.inj (show some 4=some dt.size from e);omega)] at HSN;rw [decide_eq_false hs];go_wp2_with (first | (go_at_call 72;refine (uh CI _ _).mono ?_;rintro e w4 ⟨rfl,hw4⟩;replace hw4:=hw4.symm;subst hw4))
      go_roundw
      case rel=>exact ⟨i+1,by omega,by go_num,by rw [uh HSN];exact uh HV1⟩
      case measure=>simp [intOf];omega
    by_cases hk7:kd=7
    ·subst hk7;have hem:=empty_iff dt;by_cases hs:dt.size=0
     ·rw [if_pos (by rw [hs];rfl)] at HSN;rw [decide_eq_true hs] at hem;unfold lnK at HSN;rw [if_neg (by decide),if_neg (by decide),if_pos rfl] at HSN;go_wp2_with (first | (go_at_call 72;refine (uh CI _ _).mono ?_;rintro e w4 ⟨rfl,hw4⟩;replace hw4:=hw4.symm;subst hw4))
      go_roundw
      case rel=>exact ⟨i+1,by omega,by go_num,by rw [uh HSN];exact (uh HV1).put hX1 2 (.bool true) rfl⟩
      case measure=>simp [intOf];omega
     ·rw [if_neg (by intro e;have e2:=Option.some.inj (show some 0=some dt.size from e);omega)] at HSN;rw [decide_eq_false hs] at hem;go_wp2_with (first | (go_at_call 72;refine (uh CI _ _).mono ?_;rintro e w4 ⟨rfl,hw4⟩;replace hw4:=hw4.symm;subst hw4))
      go_roundw
      case rel=>exact ⟨i+1,by omega,by go_num,by rw [uh HSN];exact uh HV1⟩
      case measure=>simp [intOf];omega
    by_cases hk8:kd=8
    ·subst hk8;have hem:=empty_iff dt;by_cases hs:dt.size=0
     ·rw [if_pos (by rw [hs];rfl)] at HSN;rw [decide_eq_true hs] at hem;unfold lnK at HSN;rw [if_neg (by decide),if_neg (by decide),if_neg (by decide),if_pos rfl] at HSN;go_wp2_with (first | (go_at_call 72;refine (uh CI _ _).mono ?_;rintro e w4 ⟨rfl,hw4⟩;replace hw4:=hw4.symm;subst hw4))
      go_roundw
      case rel=>exact ⟨i+1,by omega,by go_num,by rw [uh HSN];exact (uh HV1).put hX1 3 (.bool true) rfl⟩
      case measure=>simp [intOf];omega
     ·rw [if_neg (by intro e;have e2:=Option.some.inj (show some 0=some dt.size from e);omega)] at HSN;rw [decide_eq_false hs] at hem;go_wp2_with (first | (go_at_call 72;refine (uh CI _ _).mono ?_;rintro e w4 ⟨rfl,hw4⟩;replace hw4:=hw4.symm;subst hw4))
      go_roundw
      case rel=>exact ⟨i+1,by omega,by go_num,by rw [uh HSN];exact uh HV1⟩
      case measure=>simp [intOf];omega
    by_cases hk9:kd=9
    ·subst hk9;cases h4:(dt.toList == [4])
     ·have HSN2:Hid (lineF (F.take (i+1))=x):=by
       refine hide ((uh HSN).trans ?_);by_cases hs:dt.size=1
       ·rw [if_pos (by rw [hs];rfl)];unfold lnK;rw [if_neg (by decide),if_neg (by decide),if_neg (by decide),if_neg (by decide),if_pos rfl,num_four dt hs,h4,Bool.or_false]
       ·rw [if_neg (by intro e;have e2:=Option.some.inj (show some 1=some dt.size from e);omega)]
      go_wp2_with (first | (go_at_call 72;refine (uh CI _ _).mono ?_;rintro e w4 ⟨rfl,hw4⟩;replace hw4:=hw4.symm;subst hw4))
      go_roundw
      case rel=>exact ⟨i+1,by omega,by go_num,by rw [uh HSN2];exact uh HV1⟩
      case measure=>simp [intOf];omega
     ·have hs:dt.size=1:=by
       have:=eq_of_beq h4
       rw [ByteArray.toList_eq] at this;have h5:=congrArg List.length this;rw [Array.length_toList] at h5;exact h5
      rw [if_pos (by rw [hs];rfl)] at HSN;have hn4:=num_four dt hs;rw [h4] at hn4;unfold lnK at HSN;rw [if_neg (by decide),if_neg (by decide),if_neg (by decide),if_neg (by decide),if_pos rfl,hn4,Bool.or_true] at HSN;go_wp2_with (first | (go_at_call 72;refine (uh CI _ _).mono ?_;rintro e w4 ⟨rfl,hw4⟩;replace hw4:=hw4.symm;subst hw4))
      go_roundw
      case rel=>exact ⟨i+1,by omega,by go_num,by rw [uh HSN];exact (uh HV1).put hX1 4 (.bool true) rfl⟩
      case measure=>simp [intOf];omega
    have e1:(kd == 1)=false:=beq_eq_false_iff_ne.2 hk1;have e2:(kd == 2)=false:=beq_eq_false_iff_ne.2 hk2;have e7:(kd == 7)=false:=beq_eq_false_iff_ne.2 hk7;have e8:(kd == 8)=false:=beq_eq_false_iff_ne.2 hk8;have e9:(kd == 9)=false:=beq_eq_false_iff_ne.2 hk9;have HSN2:Hid (lineF (F.take (i+1))=x):=by
     refine hide ((uh HSN).trans ?_);unfold lnK;rw [if_neg hk1,if_neg hk2,if_neg hk7,if_neg hk8,if_neg hk9,ite_self]
    go_wp2_with (first | (go_at_call 72;refine (uh CI _ _).mono ?_;rintro e w4 ⟨rfl,hw4⟩;replace hw4:=hw4.symm;subst hw4))
    go_roundw
    case rel=>exact ⟨i+1,by omega,by go_num,by rw [uh HSN2];exact uh HV1⟩
    case measure=>simp [intOf];omega
   ·have e:i=n:=by omega
    subst e;have d1:¬ ((i:Int)<(i:Int)):=by omega
    rw [uh HTL,uh HR] at hS;obtain ⟨m0,m1,m2,m3,m4,_,_,_,_,_⟩:=row5x hS.x;obtain ⟨r0,r1,r2,r3,r4,f0,f1,f2,f3,f4⟩:=row5x hS.r;have HS:=hide hS;clear hS HAT HFO HTL HR;go_wp2
    exact bodyPost_ret (v:=.agg (lnC R)) (by simp [results,results76,asAddr,loadL (set5_at (uh HS).r (.int .i64 R.m) (.int .i64 R.a) (.bool R.p) (.bool R.c) (.bool R.d))]) rfl ⟨rfl,set5_below (uh HS).b (Nat.le_refl _) _ _ _ _ _⟩
theorem str_vals (t:ByteArray):Lib.strCells t=vals t.data.toList:=by
 simp [Lib.strCells,vals,nums]
theorem str_append {w:World} {ops:Array Oper} {rest:List Oper} {o:Oper} {a:Act} {Q:Exit→Act→World→Prop} (hgd:o.guard=none) (s x:Operand)
  (ho:o.op=.call { callee:=.builtin .append,args:=#[s,x],argTypes:=#[22,9] })
  (base:Nat) (v:Value) (L:List UInt8) (hs:a.eval s=v) (hown:w.ownsRow base 5 1 v L.length (vals L)) (t:ByteArray) (hx:a.eval x=.string t) (hlen:L.length+t.size≤1000000) (hbase:base≤w.heap.size)
  (h:∀ v' w',w'.ownsRow base 5 1 v' (L.length+t.size) (vals (L ++ t.data.toList))→Below base w w'→wpList prog ops Q rest (a.put o.dst v') w'):wpList prog ops Q (o :: rest) a w:=by
 obtain ⟨ui,hi1,hi2,hi3,hi4⟩:=u8info;refine Lib.wpList_append_own_string w hgd s x 22 9 ho base 5 ui underlying22 underlying9 hi1 hi2 hi3 hi4 v L.length (vals L) hs hown t hx (by unfold maxLen;omega) (by omega) hbase ?_;intro v' w' h1 h2 _;refine h v' w' ?_ ((Below.refl _ _).grown h2 hbase (fun q hq=>(World.ownsRow.lt hown q hq).1));rw [vals_append,← str_vals];exact h1
theorem txt_append (l m:List UInt8):txt (l ++ m)=txt l ++ txt m:=by
 apply ByteArray.ext
 simp [txt]
end Go.Proofs.YtahpjlbaagkdoaaGreatDoor
