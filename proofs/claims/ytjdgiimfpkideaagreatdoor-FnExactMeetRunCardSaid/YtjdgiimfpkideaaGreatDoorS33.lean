/- HrR -/
import Derived.Test.YtjdgiimfpkideaaGreatDoorS31
import Derived.Test.YtjdgiimfpkideaaGreatDoorS13
set_option maxHeartbeats 8000000
set_option maxRecDepth 100000
set_option linter.unusedSimpArgs false
namespace Go.Proofs.YtjdgiimfpkideaaGreatDoor
open Go.RowKit Go.Proofs.Tryz
theorem fO {e:En} (h:aK e.m2 e.a2 e.g2=true):dr (gr e)=#[.int .i64 e.m2,.int .i64 e.a2,.int .i64 e.g2,.bool e.p2,.bool e.c2,.bool e.d2]:=by
 obtain ⟨h1,h2,h3⟩:=g_ h;unfold dr gr;dsimp only;rw [h1,h2,h3]
theorem gJ {W:World} {E k:Nat} (hk:k≠E) (x0 x1 x2 x3 x4 x5:Value):((((((W.setCell ⟨E,6,none⟩ x0).setCell ⟨E,7,none⟩ x1).setCell ⟨E,8,none⟩ x2).setCell ⟨E,9,none⟩ x3).setCell ⟨E,10,none⟩ x4).setCell ⟨E,11,none⟩ x5).heap[k]?=W.heap[k]?:=by
 rw [Below.heap_setCell _ ⟨E,11,none⟩ _ _ hk,Below.heap_setCell _ ⟨E,10,none⟩ _ _ hk,Below.heap_setCell _ ⟨E,9,none⟩ _ _ hk,Below.heap_setCell _ ⟨E,8,none⟩ _ _ hk,Below.heap_setCell _ ⟨E,7,none⟩ _ _ hk,Below.heap_setCell _ ⟨E,6,none⟩ _ _ hk]
theorem eF {e:En} (h:aK e.m2 e.a2 e.g2=true):iv (gr e)=true:=by
 obtain ⟨h1,h2,h3⟩:=g_ h;unfold iv gr;dsimp only;rw [h1,h2,h3];exact h
theorem qG {w0 w1:World} {B:Nat} {c:Cx} {s:St} {v1 v2 vs vt:Value} {q:World} (h:Lay 129 w0 w1 B c s v1 v2 vs vt q) (h0:c.ci≠s.e.id) :
  Calls prog 123 #[.pointer (some ⟨B,0,none⟩)] q fun r q'=>Lay 129 w0 w1 B c s v1 v2 vs vt q'∧r=.returned (.tuple #[.int .i64 0,.int .i64 8]):=by
 have c32:=h.cell (i:=32) rfl;have c15:=h.cell (i:=15) rfl;have HL:=aa h;clear h;have hb0:(c.ci != s.e.id)=true:=by simpa using h0
 have hb1:(c.ci == s.e.id)=false:=by simpa using h0
 clear h0;generalize c.ci=x at *;generalize s.e.id=y at *;go_enter func123,ntmps123
 go_wp2_with fail
 go_quiet (fail)
 go_wp2
 refine bodyPost_ret (v:=.tuple #[.int .i64 0,.int .i64 8]) (by simp [results,results123,go_sem]) rfl ⟨(uh HL).step (aH (zC _ _) _),rfl⟩
theorem qH {w0 w1:World} {B:Nat} {c:Cx} {s:St} {v1 v2 vs vt:Value} {q:World} (h:Lay 129 w0 w1 B c s v1 v2 vs vt q) (hs:c.cd.size≤250) (hE:Et q) (hi:c.ci=s.e.id) (h0:(ar c.cd).2≠0) :
  Calls prog 123 #[.pointer (some ⟨B,0,none⟩)] q fun r q'=>Lay 129 w0 w1 B c s v1 v2 vs vt q'∧r=.returned (.tuple #[.int .i64 0,.int .i64 (ar c.cd).2]):=by
 have CO:=aa fun z (hz:Et z)=>dS c.cd z (by unfold maxLen;omega) hz
 have HE:=aa hE;have c32:=h.cell (i:=32) rfl;have c15:=h.cell (i:=15) rfl;have HL:=aa h;clear h hE hs;rw [hi] at c32;clear hi;generalize ar c.cd=OO at *;obtain ⟨L,cd⟩:=OO;dsimp only at h0 ⊢;have hb0:(cd != 0)=true:=by simpa using h0
 have hb1:(cd == 0)=false:=by simpa using h0
 clear h0;go_enter func123,ntmps123
 go_wp2_with fail
 go_quiet (fail)
 have hL0:=(uh HL).step (aH (zC q.heap.size q) nq);have hE0:=(uh HE).below (aH (zC q.heap.size q) nq) (uh HE).lt;generalize q.drewN nq=q0 at *;have c33:=hL0.cell (i:=33) rfl;have HL0:=aa hL0;have CO2:=aa (uh CO q0 hE0);clear hL0 hE0 HE HL CO c32 c15;go_wp2_with fail
 refine (uh CO2).mono ?_;rintro e z1 ⟨ad,cp,rfl,ho,hb⟩;dsimp only at ho;dsimp only;have E1:=aa ((uh HL0).step hb);clear hb ho CO2 c33 HL0;go_upto_region 4 with fail
 refine ab (fun z=>Lay 129 w0 w1 B c s v1 v2 vs vt z∧z.heap[z1.heap.size]?=some (.cells #[.slice ad L.length cp,.int .i64 cd] 180)) ?_ ?_
 ·exact ⟨(uh E1).step ((zC z1.heap.size z1).alloc (zD _) _),zF z1 _⟩
 intro z2 hz2;generalize z1.heap.size=M at *;have E2:=aa hz2;obtain ⟨m0,m1⟩:=ey hz2.2;clear hz2 E1;go_wp2_with fail
 go_quiet (fail)
 go_wp2
 refine bodyPost_ret (v:=.tuple #[.int .i64 0,.int .i64 cd]) (by simp [results,results123,go_sem]) rfl ⟨(uh E2).1.step (aH (zC _ _) _),rfl⟩
theorem n5 {w0 w1:World} {B:Nat} {c:Cx} {s:St} {v1 v2 vs vt:Value} {q:World} (h:Lay 129 w0 w1 B c s v1 v2 vs vt q) (hs:c.cd.size≤250) (hE:Et q) (hi:c.ci=s.e.id) (hk:aK s.e.m2 s.e.a2 s.e.g2=true) (h0:(ar c.cd).2=0) :
  Calls prog 123 #[.pointer (some ⟨B,0,none⟩)] q fun r q'=>Lay 129 w0 w1 B c { s with e:=ee s.e (if c.cc=3 then bF (gr s.e) (ar c.cd).1 else gI (gr s.e) (ar c.cd).1) } v1 v2 vs vt q'∧r=.returned (.tuple #[.int .i64 9,.int .i64 0]):=by
 have CO:=aa fun z (hz:Et z)=>dS c.cd z (by unfold maxLen;omega) hz
 have HE:=aa hE;have hr:=dd c.cd;have c32:=h.cell (i:=32) rfl;have c15:=h.cell (i:=15) rfl;have HL:=aa h;clear h hE hs;rw [hi] at c32;clear hi;generalize ar c.cd=OO at *;obtain ⟨L,cd⟩:=OO;dsimp only at h0 hr ⊢;subst h0;have CL:Hid (∀ (v:Value) (z:World),HoldsO z v L→Calls prog 139 #[.agg #[.int .i64 s.e.m2,.int .i64 s.e.a2,.int .i64 s.e.g2,.bool s.e.p2,.bool s.e.c2,.bool s.e.d2],v] z fun e w'=>e=.returned (.agg (dr (bF (gr s.e) L)))∧Below z.heap.size z w'):=aa fun v z hz=>by
  have:=qF (gr s.e) v L z (eF hk) hr hz
  rwa [fO hk] at this
 have CW:Hid (∀ (v:Value) (z:World),HoldsO z v L→Calls prog 140 #[.agg #[.int .i64 s.e.m2,.int .i64 s.e.a2,.int .i64 s.e.g2,.bool s.e.p2,.bool s.e.c2,.bool s.e.d2],v] z fun e w'=>e=.returned (.agg (dr (gI (gr s.e) L)))∧Below z.heap.size z w'):=aa fun v z hz=>by
  have:=lT (gr s.e) v L z (eF hk) hr hz
  rwa [fO hk] at this
 clear hk hr;obtain ⟨XX,hXX⟩:∃ XX,(if c.cc=3 then bF (gr s.e) L else gI (gr s.e) L)=XX:=⟨_,rfl⟩;rw [hXX];have HX:=aa hXX.symm;clear hXX;generalize bF (gr s.e) L=X1 at *;generalize gI (gr s.e) L=X2 at *;go_enter func123,ntmps123
 go_wp2_with fail
 go_quiet (fail)
 have hL0:=(uh HL).step (aH (zC q.heap.size q) nq);have hE0:=(uh HE).below (aH (zC q.heap.size q) nq) (uh HE).lt;generalize q.drewN nq=q0 at *;have c33:=hL0.cell (i:=33) rfl;have HL0:=aa hL0;have hB0:=hL0.lt;have CO2:=aa (uh CO q0 hE0);clear hL0 hE0 HE HL CO c32 c15;go_wp2_with fail
 refine (uh CO2).mono ?_;rintro e z1 ⟨ad,cp,rfl,ho,hb⟩;dsimp only at ho;dsimp only;have E1:=aa (zA ((uh HL0).step hb) (HoldsO.own ho));have hzB:B<z1.heap.size:=Nat.lt_of_lt_of_le hB0 hb.size;clear hb ho CO2 c33 HL0;go_upto_region 4 with fail
 refine ab (fun z=>Lay 129 w0 w1 B c s v1 v2 vs vt z∧z.heap[z1.heap.size]?=some (.cells #[.slice ad L.length cp,.int .i64 0] 180)∧HoldsO z (.slice ad L.length cp) L) ?_ ?_
 ·have hbA:=(zC z1.heap.size z1).alloc (zD _) (.cells #[.slice ad L.length cp,.int .i64 0] 180);exact ⟨(uh E1).1.step hbA,zF z1 _,(uh E1).2.below hbA rfl⟩
 intro z2 hz2;have hMB:¬ (z1.heap.size=B):=by omega
 generalize z1.heap.size=M at *;have E2:=aa hz2;obtain ⟨m0,m1⟩:=ey hz2.2.1;have k31:=hz2.1.cell (i:=31) rfl;clear hz2 E1;have SY:Hid (∀ y9:World,y9.heap[M]?=some (.cells #[.slice ad L.length cp,.int .i64 0] 180)→(y9.cell? ⟨M,0,none⟩=some (.slice ad L.length cp))):=aa fun y9 hm=>(ey hm).1
 replace CL:=aa fun z hz=>uh CL (.slice ad L.length cp) z hz
 replace CW:=aa fun z hz=>uh CW (.slice ad L.length cp) z hz
 have E4:Hid (Lay 129 w0 w1 B c s v1 v2 vs vt z2.drew∧z2.drew.heap[M]?=some (.cells #[.slice ad L.length cp,.int .i64 0] 180)∧HoldsO z2.drew (.slice ad L.length cp) L):=aa ⟨(uh E2).1.step (zC _ _).drew,(uh E2).2.1,(uh E2).2.2.below (zC _ _).drew rfl⟩;by_cases h3:c.cc=3
 ·rw [if_pos h3] at HX;have hb3:(c.cc == 3)=true:=by simpa using h3
  clear h3 CW;go_upto_region 7 with fail
  refine wp_region_held_drew (S:=fun y9=>y9.cell? ⟨M,0,none⟩=some (.slice ad L.length cp)) (by kernel_rfl) (uh SY _ (uh E4).2.1) (fun hHeld=>?_);generalize z2.drew=yy at E4 hHeld ⊢;clear E2 m0 m1 k31;refine tq 0 1 2 3 ?_;refine tt 4 6 ?_;refine t2 7 ?_;refine r3 5 fun K hK=>?_
  have k6:=(uh E4).1.cell (i:=6) rfl;have f6:=(uh E4).1.frz 6;have k7:=(uh E4).1.cell (i:=7) rfl;have f7:=(uh E4).1.frz 7;have k8:=(uh E4).1.cell (i:=8) rfl;have f8:=(uh E4).1.frz 8;have k9:=(uh E4).1.cell (i:=9) rfl;have f9:=(uh E4).1.frz 9;have k10:=(uh E4).1.cell (i:=10) rfl;have f10:=(uh E4).1.frz 10;have k11:=(uh E4).1.cell (i:=11) rfl;have f11:=(uh E4).1.frz 11;go_simp;clear k6 k7 k8 k9 k10 k11 f6 f7 f8 f9 f10 f11;refine ro hK (uh SY _ (uh E4).2.1) fun _=>?_
  clear hK K;refine r3 8 fun K hK=>?_
  go_simp;refine (uh CL _ (uh E4).2.2).mono ?_;rintro e z32 ⟨rfl,hb32⟩;have E32:=aa (zA ((uh E4).1.step hb32) (zA ((hb32.block _ (ge.1 (uh E4).2.1).1).trans (uh E4).2.1) ((uh E4).2.2.below hb32 rfl)));clear hb32;go_wp2_with fail
  refine ro hK (uh SY _ (uh E32).2.1) fun _=>?_
  clear hK K;refine tt 9 10 ?_;refine t2 11 ?_;refine r3 12 fun K hK=>?_
  have ZF:=aa ((uh E32).1.asks9 X1);have ZM:=aa ((gJ (fun e=>hMB (show M=B from e)) (.int .i64 X1.m) (.int .i64 X1.a) (.int .i64 X1.g) (.bool X1.p) (.bool X1.c) (.bool X1.d)).trans (uh E32).2.1);have k6:=(uh E32).1.cell (i:=6) rfl;have f6:=(uh E32).1.frz 6;have k7:=(uh E32).1.cell (i:=7) rfl;have f7:=(uh E32).1.frz 7;have k8:=(uh E32).1.cell (i:=8) rfl;have f8:=(uh E32).1.frz 8;have k9:=(uh E32).1.cell (i:=9) rfl;have f9:=(uh E32).1.frz 9;have k10:=(uh E32).1.cell (i:=10) rfl;have f10:=(uh E32).1.frz 10;have k11:=(uh E32).1.cell (i:=11) rfl;have f11:=(uh E32).1.frz 11;go_simp;clear k6 k7 k8 k9 k10 k11 f6 f7 f8 f9 f10 f11;refine ro hK (uh SY _ (uh ZM)) fun _=>?_
  clear hK K;refine dn ?_ _;go_upto_region 9 with fail
  refine ab (Lay 129 w0 w1 B c { s with e:=ee s.e X1 } v1 v2 vs vt) (uh ZF) ?_;intro z9 hz9;have E9:=aa hz9;clear hz9 ZF ZM;go_wp2
  refine bodyPost_ret (v:=.tuple #[.int .i64 9,.int .i64 0]) (by simp [results,results123,go_sem]) rfl ?_;refine ⟨?_,rfl⟩;rw [uh HX];exact uh E9
 ·rw [if_neg h3] at HX;have hb3:(c.cc == 3)=false:=by simpa using h3
  clear h3 CL;go_upto_region 8 with fail
  refine wp_region_held_drew (S:=fun y9=>y9.cell? ⟨M,0,none⟩=some (.slice ad L.length cp)) (by kernel_rfl) (uh SY _ (uh E4).2.1) (fun hHeld=>?_);generalize z2.drew=yy at E4 hHeld ⊢;clear E2 m0 m1 k31;refine tq 0 1 2 3 ?_;refine tt 4 6 ?_;refine t2 7 ?_;refine r3 5 fun K hK=>?_
  have k6:=(uh E4).1.cell (i:=6) rfl;have f6:=(uh E4).1.frz 6;have k7:=(uh E4).1.cell (i:=7) rfl;have f7:=(uh E4).1.frz 7;have k8:=(uh E4).1.cell (i:=8) rfl;have f8:=(uh E4).1.frz 8;have k9:=(uh E4).1.cell (i:=9) rfl;have f9:=(uh E4).1.frz 9;have k10:=(uh E4).1.cell (i:=10) rfl;have f10:=(uh E4).1.frz 10;have k11:=(uh E4).1.cell (i:=11) rfl;have f11:=(uh E4).1.frz 11;go_simp;clear k6 k7 k8 k9 k10 k11 f6 f7 f8 f9 f10 f11;refine ro hK (uh SY _ (uh E4).2.1) fun _=>?_
  clear hK K;refine r3 8 fun K hK=>?_
  go_simp;refine (uh CW _ (uh E4).2.2).mono ?_;rintro e z32 ⟨rfl,hb32⟩;have E32:=aa (zA ((uh E4).1.step hb32) (zA ((hb32.block _ (ge.1 (uh E4).2.1).1).trans (uh E4).2.1) ((uh E4).2.2.below hb32 rfl)));clear hb32;go_wp2_with fail
  refine ro hK (uh SY _ (uh E32).2.1) fun _=>?_
  clear hK K;refine tt 9 10 ?_;refine t2 11 ?_;refine r3 12 fun K hK=>?_
  have ZF:=aa ((uh E32).1.asks9 X2);have ZM:=aa ((gJ (fun e=>hMB (show M=B from e)) (.int .i64 X2.m) (.int .i64 X2.a) (.int .i64 X2.g) (.bool X2.p) (.bool X2.c) (.bool X2.d)).trans (uh E32).2.1);have k6:=(uh E32).1.cell (i:=6) rfl;have f6:=(uh E32).1.frz 6;have k7:=(uh E32).1.cell (i:=7) rfl;have f7:=(uh E32).1.frz 7;have k8:=(uh E32).1.cell (i:=8) rfl;have f8:=(uh E32).1.frz 8;have k9:=(uh E32).1.cell (i:=9) rfl;have f9:=(uh E32).1.frz 9;have k10:=(uh E32).1.cell (i:=10) rfl;have f10:=(uh E32).1.frz 10;have k11:=(uh E32).1.cell (i:=11) rfl;have f11:=(uh E32).1.frz 11;go_simp;clear k6 k7 k8 k9 k10 k11 f6 f7 f8 f9 f10 f11;refine ro hK (uh SY _ (uh ZM)) fun _=>?_
  clear hK K;refine dn ?_ _;go_upto_region 9 with fail
  refine ab (Lay 129 w0 w1 B c { s with e:=ee s.e X2 } v1 v2 vs vt) (uh ZF) ?_;intro z9 hz9;have E9:=aa hz9;clear hz9 ZF ZM;go_wp2
  refine bodyPost_ret (v:=.tuple #[.int .i64 9,.int .i64 0]) (by simp [results,results123,go_sem]) rfl ?_;refine ⟨?_,rfl⟩;rw [uh HX];exact uh E9
end Go.Proofs.YtjdgiimfpkideaaGreatDoor
