/- WkO HrE -/
import Derived.Test.YtjebigodbnefiaaGreatDoorS24
import Derived.Test.YtjebigodbnefiaaGreatDoorS27
set_option maxHeartbeats 16000000
set_option maxRecDepth 100000
set_option linter.unusedSimpArgs false
namespace Go.Proofs.YtjebigodbnefiaaGreatDoor
open Go.RowKit Go.Proofs.Tryz
theorem eG (e:En) (x1 x2:Option Addr) (y1 y2:Nat) (F1 F2:List Op.Opt) (w:World) (l1:F1.length≤maxLen) (l2:F2.length≤maxLen) (h1:HoldsO w (.slice x1 F1.length y1) F1) (h2:HoldsO w (.slice x2 F2.length y2) F2) :
  Calls prog 129 #[.agg (aA e (.slice x1 F1.length y1) (.slice x2 F2.length y2))] w fun r w'=>r=.returned (.bool (dJ e F1 F2))∧Below w.heap.size w w' :=
 ir e x1 x2 y1 y2 F1 F2 w l1 l2 h1 h2 eqL
theorem ez {e:En} {F1 F2:List Op.Opt} (h:dJ e F1 F2=true):Op.right F1=true∧Op.right F2=true:=by
 simp only [dJ,Bool.and_eq_true] at h;exact ⟨bz h.2.2.2.2.2.2.1,bz h.2.2.2.2.2.2.2.1⟩
structure Hb (w:World) (A X:Nat) (cs:Array Value) (p:Op.Pk) (z:World):Prop where
 a:z.heap[A]?=some (.cells cs 72)
 p:z.heap[A+1]?=some (.cells #[.int .i64 p.code,.int .i64 p.id,.string p.data] 32)
 x:z.heap[X]?=some (.cells bk 121)
 b:Below w.heap.size w z
theorem Hb.step {w:World} {A X:Nat} {cs:Array Value} {p:Op.Pk} {z z':World} (h:Hb w A X cs p z) (hb:Below z.heap.size z z'):Hb w A X cs p z' :=
 ⟨(hb.block _ (ge.1 h.a).1).trans h.a,(hb.block _ (ge.1 h.p).1).trans h.p,(hb.block _ (ge.1 h.x).1).trans h.x,h.b.trans (hb.mono h.b.size)⟩
theorem Hb.pc {w:World} {A X:Nat} {cs:Array Value} {p:Op.Pk} {z:World} (h:Hb w A X cs p z):z.cell? ⟨A+1,0,none⟩=some (.int .i64 p.code)∧z.cell? ⟨A+1,1,none⟩=some (.int .i64 p.id)∧z.cell? ⟨A+1,2,none⟩=some (.string p.data) :=
 ⟨by rw [cr h.p];rfl,by rw [cr h.p];rfl,by rw [cr h.p];rfl⟩
theorem qM (e:En) (x1 x2:Option Addr) (y1 y2:Nat) (F1 F2:List Op.Opt) (p:Op.Pk) (now:Int) (w:World) (l1:F1.length≤1048576) (l2:F2.length≤1048576) (h1:HoldsO w (.slice x1 F1.length y1) F1) (h2:HoldsO w (.slice x2 F2.length y2) F2) (hEv:EvT w) (hNx:NxT w) (hSp:SpT w) (hEt:Et w) :
  Calls prog 136 #[.agg (aA e (.slice x1 F1.length y1) (.slice x2 F2.length y2)),.agg #[.int .i64 p.code,.int .i64 p.id,.string p.data],.int .i64 now] w fun r w'=>EvA w (bn e F1 F2 p now) r w':=by
 have CR:=aa fun W (hb:Below w.heap.size w W)=>eG e x1 x2 y1 y2 F1 F2 W (by unfold maxLen;omega) (by unfold maxLen;omega) (h1.below hb rfl) (h2.below hb rfl)
 have CW:=aa fun W (hb:Below w.heap.size w W) (r:Op.right F1=true∧Op.right F2=true)=>qK e x1 x2 y1 y2 F1 F2 now W r.1 r.2 (h1.below hb rfl) (h2.below hb rfl)
 have CT:=aa fun W=>qB now W
 have CP:Hid (∀ W,Calls prog 14 #[.agg #[.int .i64 p.code,.int .i64 p.id,.string p.data]] W fun e w'=>e=.returned (.bool (Op.pok p))∧Below W.heap.size W w'):=aa fun W=>dZ p.code p.id p.data W
 clear h1 h2;have HF:=aa (ky (e:=e) (F1:=F1) (F2:=F2) (now:=now));have HG:=aa (ez (e:=e) (F1:=F1) (F2:=F2));have HV:=aa (zA hEv (zA hNx (zA hSp hEt)));clear hEv hNx hSp hEt;obtain ⟨hA,hP,hX,hb⟩:=xL w (.cells (aA e (.slice x1 F1.length y1) (.slice x2 F2.length y2)) 72) (.cells #[.int .i64 p.code,.int .i64 p.id,.string p.data] 32) (.cells bk 121);obtain ⟨A,eA⟩:∃ A,w.heap.size=A:=⟨_,rfl⟩;have hXw0:w.heap.size≤A+1+1:=by omega
 rw [eA] at hA hP hX;have H0:=aa (zA hA (zA hP (zA hX hb)));clear hA hP hX hb;obtain ⟨RES,hRES⟩:∃ RES,bn e F1 F2 p now=RES:=⟨_,rfl⟩;rw [hRES];have HR:=aa hRES;clear hRES;obtain ⟨ok1,hok1⟩:∃ b,dJ e F1 F2=b:=⟨_,rfl⟩;obtain ⟨ok2,hok2⟩:∃ b,al 0 1000000000 now=b:=⟨_,rfl⟩;obtain ⟨ok3,hok3⟩:∃ b,Op.pok p=b:=⟨_,rfl⟩;rw [hok1] at CR HF HG;rw [hok2] at CT HF;rw [hok3] at CP;have HO1:=aa hok1;have HO2:=aa hok2;have HO3:=aa hok3;clear hok1 hok2 hok3;obtain ⟨n1,e1⟩:∃ n,F1.length=n:=⟨_,rfl⟩;obtain ⟨n2,e2⟩:∃ n,F2.length=n:=⟨_,rfl⟩;rw [e1] at CR CW H0 ⊢;rw [e2] at CR CW H0 ⊢;go_enter func136,ntmps136
 go_upto_region 1 with fail
 obtain ⟨X,hXe⟩:∃ X,A+1+1=X:=⟨_,rfl⟩;have hXw:w.heap.size≤X:=by omega
 rw [hXe] at H0 ⊢;have HXA:=aa (zA eA hXe);clear hXe hXw0 eA;refine aI (Hb w A X (aA e (.slice x1 n1 y1) (.slice x2 n2 y2)) p) ?_ ?_
 ·exact ⟨(uh H0).1,(uh H0).2.1,(uh H0).2.2.1,(uh H0).2.2.2⟩
 clear H0;intro z hz;have HZ:=aa hz;clear hz
 go_wp2_with (first
  | (refine wpList_load_row rfl 72 (.tmp 3) rfl A rfl 72 (aA e (.slice x1 n1 y1) (.slice x2 n2 y2)) (0,0) _ (uh HZ).a underlying72 rfl aL ?_))
 refine (uh CR _ (uh HZ).b).mono ?_;rintro r z1 ⟨rfl,hb1⟩;have H1:=aa ((uh HZ).step hb1);clear hb1 CR HZ;obtain ⟨p0,p1,p2⟩:=(uh H1).pc;cases ok1
 ·go_wp2_with (first
   | (refine wpList_buildTo rfl 121 _ rfl (some 23) rfl (aC ag (.slice none 0 0) (.slice none 0 0) (.slice none 0 0) (.slice none 0 0) 1) (by as_aux_lemma=>kernel_rfl) ?_)
    | (refine wpList_store_rowTo rfl 121 (.tmp 6) (.tmp 23) rfl rfl X (aC ag (.slice none 0 0) (.slice none 0 0) (.slice none 0 0) (.slice none 0 0) 1) rfl rfl 121 bk (uh H1).x aw rfl (aG _ _ _ _ _ _ _ _ _ _ _ _ _ _) ?_))
  refine bodyPost_ret (v:=.agg (aC ag (.slice none 0 0) (.slice none 0 0) (.slice none 0 0) (.slice none 0 0) 1)) (by simp [results,results136,asAddr,Act.put,ay (setRow_heap z1 X _ (aC ag (.slice none 0 0) (.slice none 0 0) (.slice none 0 0) (.slice none 0 0) 1) _ _ (uh H1).x)]) rfl ?_;have hres:RES=bA 1:=by
   rw [← uh HR];unfold bn;rw [if_neg (fun h=>by have:=h.1;rw [uh HO1] at this;exact absurd this (by simp))]
  rw [hres];exact bE (am (uh H1).b hXw _) 1
 cases ok2
 ·go_wp2_with (first
   | (go_at_call 130;refine (uh CT _).mono ?_;rintro r ws ⟨rfl,hws⟩;replace hws:=hws.symm;subst hws)
   | (refine wpList_buildTo rfl 121 _ rfl (some 23) rfl (aC ag (.slice none 0 0) (.slice none 0 0) (.slice none 0 0) (.slice none 0 0) 1) (by as_aux_lemma=>kernel_rfl) ?_)
    | (refine wpList_store_rowTo rfl 121 (.tmp 6) (.tmp 23) rfl rfl X (aC ag (.slice none 0 0) (.slice none 0 0) (.slice none 0 0) (.slice none 0 0) 1) rfl rfl 121 bk (uh H1).x aw rfl (aG _ _ _ _ _ _ _ _ _ _ _ _ _ _) ?_))
  refine bodyPost_ret (v:=.agg (aC ag (.slice none 0 0) (.slice none 0 0) (.slice none 0 0) (.slice none 0 0) 1)) (by simp [results,results136,asAddr,Act.put,ay (setRow_heap z1 X _ (aC ag (.slice none 0 0) (.slice none 0 0) (.slice none 0 0) (.slice none 0 0) 1) _ _ (uh H1).x)]) rfl ?_;have hres:RES=bA 1:=by
   rw [← uh HR];unfold bn;rw [if_neg (fun h=>by have:=h.1;rw [uh HO1,uh HO2] at this;exact absurd this (by simp))]
  rw [hres];exact bE (am (uh H1).b hXw _) 1
 go_wp2_with (first
  | (go_at_call 130;refine (uh CT _).mono ?_;rintro r ws ⟨rfl,hws⟩;replace hws:=hws.symm;subst hws))
 refine (uh CP _).mono ?_;rintro r z2 ⟨rfl,hb2⟩;have H2:=aa ((uh H1).step hb2);clear hb2 CP H1 p0 p1 p2 CT;cases ok3
 ·go_wp2_with (first
   | (refine wpList_buildTo rfl 121 _ rfl (some 23) rfl (aC ag (.slice none 0 0) (.slice none 0 0) (.slice none 0 0) (.slice none 0 0) 1) (by as_aux_lemma=>kernel_rfl) ?_)
    | (refine wpList_store_rowTo rfl 121 (.tmp 6) (.tmp 23) rfl rfl X (aC ag (.slice none 0 0) (.slice none 0 0) (.slice none 0 0) (.slice none 0 0) 1) rfl rfl 121 bk (uh H2).x aw rfl (aG _ _ _ _ _ _ _ _ _ _ _ _ _ _) ?_))
  refine bodyPost_ret (v:=.agg (aC ag (.slice none 0 0) (.slice none 0 0) (.slice none 0 0) (.slice none 0 0) 1)) (by simp [results,results136,asAddr,Act.put,ay (setRow_heap z2 X _ (aC ag (.slice none 0 0) (.slice none 0 0) (.slice none 0 0) (.slice none 0 0) 1) _ _ (uh H2).x)]) rfl ?_;have hres:RES=bA 1:=by
   rw [← uh HR];unfold bn;rw [if_neg (fun h=>by have:=h.2;rw [uh HO3] at this;exact absurd this (by simp))]
  rw [hres];exact bE (am (uh H2).b hXw _) 1
 replace HF:=aa (uh HF (by first | rfl | trivial));replace CW:=aa fun W hb=>uh CW W hb (uh HG (by first | rfl | trivial))
 have c12:z2.cell? ⟨A,12,none⟩=some (.int .i64 e.st):=by rw [cr (uh H2).a];rfl
 have HOK:Hid ((dJ e F1 F2 && al 0 1000000000 now)=true∧Op.pok p=true):=aa ⟨by rw [uh HO1,uh HO2];rfl,uh HO3⟩;clear HG HO1 HO2 HO3;by_cases hs0:e.st=0
 ·rw [hs0] at c12
  go_wp2_with (first
   | (refine wpList_buildTo rfl 121 _ rfl (some 32) rfl (aC ag (.slice none 0 0) (.slice none 0 0) (.slice none 0 0) (.slice none 0 0) 8) (by as_aux_lemma=>kernel_rfl) ?_)
    | (refine wpList_store_rowTo rfl 121 (.tmp 6) (.tmp 32) rfl rfl X (aC ag (.slice none 0 0) (.slice none 0 0) (.slice none 0 0) (.slice none 0 0) 8) rfl rfl 121 bk (uh H2).x aw rfl (aG _ _ _ _ _ _ _ _ _ _ _ _ _ _) ?_))
  refine bodyPost_ret (v:=.agg (aC ag (.slice none 0 0) (.slice none 0 0) (.slice none 0 0) (.slice none 0 0) 8)) (by simp [results,results136,asAddr,Act.put,ay (setRow_heap z2 X _ (aC ag (.slice none 0 0) (.slice none 0 0) (.slice none 0 0) (.slice none 0 0) 8) _ _ (uh H2).x)]) rfl ?_;have hres:RES=bA 8:=by
   rw [← uh HR];unfold bn;rw [if_pos (uh HOK),if_pos (by omega)]
  rw [hres];exact bE (am (uh H2).b hXw _) 8
 by_cases hs1:e.st=1
 ·rw [hs1] at c12
  go_wp2_with (first
   | (refine wpList_buildTo rfl 121 _ rfl (some 32) rfl (aC ag (.slice none 0 0) (.slice none 0 0) (.slice none 0 0) (.slice none 0 0) 8) (by as_aux_lemma=>kernel_rfl) ?_)
    | (refine wpList_store_rowTo rfl 121 (.tmp 6) (.tmp 32) rfl rfl X (aC ag (.slice none 0 0) (.slice none 0 0) (.slice none 0 0) (.slice none 0 0) 8) rfl rfl 121 bk (uh H2).x aw rfl (aG _ _ _ _ _ _ _ _ _ _ _ _ _ _) ?_))
  refine bodyPost_ret (v:=.agg (aC ag (.slice none 0 0) (.slice none 0 0) (.slice none 0 0) (.slice none 0 0) 8)) (by simp [results,results136,asAddr,Act.put,ay (setRow_heap z2 X _ (aC ag (.slice none 0 0) (.slice none 0 0) (.slice none 0 0) (.slice none 0 0) 8) _ _ (uh H2).x)]) rfl ?_;have hres:RES=bA 8:=by
   rw [← uh HR];unfold bn;rw [if_pos (uh HOK),if_pos (by omega)]
  rw [hres];exact bE (am (uh H2).b hXw _) 8
 have hb0:(e.st == 0)=false:=beq_eq_false_iff_ne.2 hs0;have hb1:(e.st == 1)=false:=beq_eq_false_iff_ne.2 hs1;have HST:Hid (1<e.st):=aa (by have:=(uh HF).2.1.1;omega);clear hs0 hs1
 go_wp2_with (first
  | (refine wpList_load_row rfl 72 (.tmp 3) rfl A rfl 72 (aA e (.slice x1 n1 y1) (.slice x2 n2 y2)) (0,0) _ (uh H2).a underlying72 rfl aL ?_))
 refine (uh CW _ (uh H2).b).mono ?_;rintro r z3 ⟨B,v1,v2,rfl,hL⟩;have HL:=aa hL;have hlow:=hL.low;have p0:=(hlow.cell (p:=⟨A+1,0,none⟩) (World.block_lt_of_cell? _ _ (uh H2).pc.1)).trans (uh H2).pc.1;have p1:=(hlow.cell (p:=⟨A+1,1,none⟩) (World.block_lt_of_cell? _ _ (uh H2).pc.2.1)).trans (uh H2).pc.2.1;have p2:=(hlow.cell (p:=⟨A+1,2,none⟩) (World.block_lt_of_cell? _ _ (uh H2).pc.2.2)).trans (uh H2).pc.2.2;have k31:=hL.cell (i:=31) rfl;have k32:=hL.cell (i:=32) rfl;have k33:=hL.cell (i:=33) rfl;have f31:=hL.frz 31;have f32:=hL.frz 32;have f33:=hL.frz 33;clear hL hlow CW c12;go_upto_region 7 with fail
 refine aI (fun z=>Lay 182 z2 z3 B (aU now p [] (0,[]) ai ai) ⟨e,F1,F2,[],[]⟩ v1 v2 ai ai z) ((uh HL).cameP p.code p.id p.data) ?_;clear p0 p1 p2 k31 k32 k33 f31 f32 f33 HL;intro z4 hz4;have HL4:=aa hz4;have CK:=aa (xH hz4 (uh HF).1 (uh HOK).2 (((uh HV).2.2.2.below (uh H2).b (uh HV).2.2.2.lt).below hz4.low (Nat.lt_of_lt_of_le (uh HV).2.2.2.lt (uh H2).b.size)));clear hz4;go_wp2_with fail
 refine (uh CK).mono ?_;rintro r z5 ⟨c',e',k,cd,rfl,hl,hok,herr⟩;have HL5:=aa hl;clear hl CK HL4;by_cases hcd:cd=0
 ·subst hcd;obtain ⟨hh,hk16,hfit,h6,h7,hst⟩:=hok rfl;have HH:=aa hh;have hE0:=mR z2 z3 B c' ⟨e',F1,F2,[],[]⟩ v1 v2 z5 (uh HL5) rfl rfl hfit k (im k) (gp hk16) ((uh HV).1.below (uh H2).b) ((uh HV).2.1.below (uh H2).b) ((uh HV).2.2.1.below (uh H2).b) (aO (gp hk16) (by show 0≤e'.st;rw [hst];exact (uh HF).2.1.1) (by show e'.st≤9;rw [hst];exact (uh HF).2.1.2) h6 h7).1 (aO (c:=c') (gp hk16) (by show 0≤e'.st;rw [hst];exact (uh HF).2.1.1) (by show e'.st≤9;rw [hst];exact (uh HF).2.1.2) h6 h7).2;have CE:=aa hE0;clear hE0 hok herr hh h6 h7 hst hfit HL5 hk16;have hres:RES=bj c' ⟨e',F1,F2,[],[]⟩ (im k):=by
   rw [← uh HR];unfold bn;rw [if_pos (uh HOK),if_neg (by have:=uh HST;omega)];exact uh HH
  have HRS:=aa hres;clear hres HH;generalize bj c' ⟨e',F1,F2,[],[]⟩ (im k)=EV at *;go_wp2_with fail
  refine (uh CE).mono ?_;rintro r z6 hE;obtain ⟨cs,rfl,hsz,hall,hX2,hEv⟩:=hE.out (uh H2).b (uh H2).x hXw;have HE2:=aa (zA hX2 hEv);clear hE hX2 hEv CE
  go_wp2_with (first
   | (refine wpList_store_rowTo rfl 121 (.tmp 6) (.tmp 51) rfl rfl X cs rfl rfl 121 bk (uh HE2).1 (by rw [hsz];exact aw) (by rw [hsz];rfl) hall ?_))
  refine bodyPost_ret (v:=.agg cs) (by simp [results,results136,asAddr,Act.put,ay (setRow_heap z6 X _ cs _ _ (uh HE2).1) hsz]) rfl ?_;rw [uh HRS];exact (uh HE2).2
 ·have hcb:(cd != 0)=true:=by simpa using hcd
  have hh:=herr hcd;have HH:=aa hh;have hb5:Below w.heap.size w z5:=(uh H2).b.trans ((uh HL5).low.mono (uh H2).b.size);have hX5:z5.heap[X]?=some (.cells bk 121):=((uh HL5).low.block _ (ge.1 (uh H2).x).1).trans (uh H2).x;have HX5:=aa (zA hX5 hb5);clear hh herr hok hcd hb5 hX5 HL5
  go_wp2_with (first
   | (refine wpList_buildTo rfl 121 _ rfl (some 48) rfl (aC ag (.slice none 0 0) (.slice none 0 0) (.slice none 0 0) (.slice none 0 0) cd) (by as_aux_lemma=>kernel_rfl) ?_)
   | (refine wpList_store_rowTo rfl 121 (.tmp 6) (.tmp 48) rfl rfl X (aC ag (.slice none 0 0) (.slice none 0 0) (.slice none 0 0) (.slice none 0 0) cd) rfl rfl 121 bk (uh HX5).1 aw rfl (aG _ _ _ _ _ _ _ _ _ _ _ _ _ _) ?_))
  refine bodyPost_ret (v:=.agg (aC ag (.slice none 0 0) (.slice none 0 0) (.slice none 0 0) (.slice none 0 0) cd)) (by simp [results,results136,asAddr,Act.put,ay (setRow_heap z5 X _ (aC ag (.slice none 0 0) (.slice none 0 0) (.slice none 0 0) (.slice none 0 0) cd) _ _ (uh HX5).1)]) rfl ?_;have hres:RES=bA cd:=by
   rw [← uh HR];unfold bn;rw [if_pos (uh HOK),if_neg (by have:=uh HST;omega)];exact uh HH
  rw [hres];exact bE (am (uh HX5).2 hXw _) cd
end Go.Proofs.YtjebigodbnefiaaGreatDoor
