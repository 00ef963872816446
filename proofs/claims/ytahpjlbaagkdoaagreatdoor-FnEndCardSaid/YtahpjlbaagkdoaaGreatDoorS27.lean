/- HrR HrC CfSp -/
import Derived.Test.YtahpjlbaagkdoaaGreatDoorS26
set_option maxHeartbeats 8000000
set_option maxRecDepth 100000
set_option linter.unusedSimpArgs false
namespace Go.Proofs.YtahpjlbaagkdoaaGreatDoor
open Go.RowKit Go.Proofs.Tryz
theorem cfA_cells {e:En} (h:cfgOk e.m2 e.a2 e.g2=true):cfC (cfA e)=#[.int .i64 e.m2,.int .i64 e.a2,.int .i64 e.g2,.bool e.p2,.bool e.c2,.bool e.d2]:=by
 obtain ⟨h1,h2,h3⟩:=cfgNat h;unfold cfC cfA;dsimp only;rw [h1,h2,h3]
theorem set6b_ot {W:World} {E k:Nat} (hk:k≠E) (x0 x1 x2 x3 x4 x5:Value):((((((W.setCell ⟨E,6,none⟩ x0).setCell ⟨E,7,none⟩ x1).setCell ⟨E,8,none⟩ x2).setCell ⟨E,9,none⟩ x3).setCell ⟨E,10,none⟩ x4).setCell ⟨E,11,none⟩ x5).heap[k]?=W.heap[k]?:=by
 rw [Below.heap_setCell _ ⟨E,11,none⟩ _ _ hk,Below.heap_setCell _ ⟨E,10,none⟩ _ _ hk,Below.heap_setCell _ ⟨E,9,none⟩ _ _ hk,Below.heap_setCell _ ⟨E,8,none⟩ _ _ hk,Below.heap_setCell _ ⟨E,7,none⟩ _ _ hk,Below.heap_setCell _ ⟨E,6,none⟩ _ _ hk]
theorem cfA_ok {e:En} (h:cfgOk e.m2 e.a2 e.g2=true):okC (cfA e)=true:=by
 obtain ⟨h1,h2,h3⟩:=cfgNat h;unfold okC cfA;dsimp only;rw [h1,h2,h3];exact h
theorem iRefId {w0 w1:World} {B:Nat} {c:Cx} {s:St} {v1 v2 vs vt:Value} {q:World} (h:Lay 83 w0 w1 B c s v1 v2 vs vt q) (h0:c.ci≠s.e.id) :
  Calls prog 93 #[.pointer (some ⟨B,0,none⟩)] q fun r q'=>Lay 83 w0 w1 B c s v1 v2 vs vt q'∧r=.returned (.tuple #[.int .i64 0,.int .i64 8]):=by
 have c32:=h.cell (i:=32) rfl;have c15:=h.cell (i:=15) rfl;have HL:=hide h;clear h;have hb0:(c.ci != s.e.id)=true:=by simpa using h0
 have hb1:(c.ci == s.e.id)=false:=by simpa using h0
 clear h0;generalize c.ci=x at *;generalize s.e.id=y at *;go_enter func93,ntmps93
 go_wp2_with fail
 go_quiet (fail)
 go_wp2
 refine bodyPost_ret (v:=.tuple #[.int .i64 0,.int .i64 8]) (by simp [results,results93,go_sem]) rfl ⟨(uh HL).step (below_drewN (Below.refl _ _) _),rfl⟩
theorem iRefNo {w0 w1:World} {B:Nat} {c:Cx} {s:St} {v1 v2 vs vt:Value} {q:World} (h:Lay 83 w0 w1 B c s v1 v2 vs vt q) (hs:c.cd.size≤250) (hE:Et q) (hi:c.ci=s.e.id) (h0:(oread c.cd).2≠0) :
  Calls prog 93 #[.pointer (some ⟨B,0,none⟩)] q fun r q'=>Lay 83 w0 w1 B c s v1 v2 vs vt q'∧r=.returned (.tuple #[.int .i64 0,.int .i64 (oread c.cd).2]):=by
 have CO:=hide fun z (hz:Et z)=>implOptsRead c.cd z (by unfold maxLen;omega) hz
 have HE:=hide hE;have c32:=h.cell (i:=32) rfl;have c15:=h.cell (i:=15) rfl;have HL:=hide h;clear h hE hs;rw [hi] at c32;clear hi;generalize oread c.cd=OO at *;obtain ⟨L,cd⟩:=OO;dsimp only at h0 ⊢;have hb0:(cd != 0)=true:=by simpa using h0
 have hb1:(cd == 0)=false:=by simpa using h0
 clear h0;go_enter func93,ntmps93
 go_wp2_with fail
 go_quiet (fail)
 have hL0:=(uh HL).step (below_drewN (Below.refl q.heap.size q) nq);have hE0:=(uh HE).below (below_drewN (Below.refl q.heap.size q) nq) (uh HE).lt;generalize q.drewN nq=q0 at *;have c33:=hL0.cell (i:=33) rfl;have HL0:=hide hL0;have CO2:=hide (uh CO q0 hE0);clear hL0 hE0 HE HL CO c32 c15;go_wp2_with fail
 refine (uh CO2).mono ?_;rintro e z1 ⟨ad,cp,rfl,ho,hb⟩;dsimp only at ho;dsimp only;have E1:=hide ((uh HL0).step hb);clear hb ho CO2 c33 HL0;go_upto_region 4 with fail
 refine gen_world (fun z=>Lay 83 w0 w1 B c s v1 v2 vs vt z∧z.heap[z1.heap.size]?=some (.cells #[.slice ad L.length cp,.int .i64 cd] 172)) ?_ ?_
 ·exact ⟨(uh E1).step ((Below.refl z1.heap.size z1).alloc (Nat.le_refl _) _),heap_alloc_new z1 _⟩
 intro z2 hz2;generalize z1.heap.size=M at *;have E2:=hide hz2;obtain ⟨m0,m1⟩:=row2a hz2.2;clear hz2 E1;go_wp2_with fail
 go_quiet (fail)
 go_wp2
 refine bodyPost_ret (v:=.tuple #[.int .i64 0,.int .i64 cd]) (by simp [results,results93,go_sem]) rfl ⟨(uh E2).1.step (below_drewN (Below.refl _ _) _),rfl⟩
theorem iRefYes {w0 w1:World} {B:Nat} {c:Cx} {s:St} {v1 v2 vs vt:Value} {q:World} (h:Lay 83 w0 w1 B c s v1 v2 vs vt q) (hs:c.cd.size≤250) (hE:Et q) (hi:c.ci=s.e.id) (hk:cfgOk s.e.m2 s.e.a2 s.e.g2=true) (h0:(oread c.cd).2=0) :
  Calls prog 93 #[.pointer (some ⟨B,0,none⟩)] q fun r q'=>Lay 83 w0 w1 B c { s with e:=setA s.e (if c.cc=3 then lessF (cfA s.e) (oread c.cd).1 else woF (cfA s.e) (oread c.cd).1) } v1 v2 vs vt q'∧r=.returned (.tuple #[.int .i64 9,.int .i64 0]):=by
 have CO:=hide fun z (hz:Et z)=>implOptsRead c.cd z (by unfold maxLen;omega) hz
 have HE:=hide hE;have hr:=oread_right c.cd;have c32:=h.cell (i:=32) rfl;have c15:=h.cell (i:=15) rfl;have HL:=hide h;clear h hE hs;rw [hi] at c32;clear hi;generalize oread c.cd=OO at *;obtain ⟨L,cd⟩:=OO;dsimp only at h0 hr ⊢;subst h0;have CL:Hid (∀ (v:Value) (z:World),HoldsO z v L→Calls prog 130 #[.agg #[.int .i64 s.e.m2,.int .i64 s.e.a2,.int .i64 s.e.g2,.bool s.e.p2,.bool s.e.c2,.bool s.e.d2],v] z fun e w'=>e=.returned (.agg (cfC (lessF (cfA s.e) L)))∧Below z.heap.size z w'):=hide fun v z hz=>by
  have:=implLess (cfA s.e) v L z (cfA_ok hk) hr hz
  rwa [cfA_cells hk] at this
 have CW:Hid (∀ (v:Value) (z:World),HoldsO z v L→Calls prog 131 #[.agg #[.int .i64 s.e.m2,.int .i64 s.e.a2,.int .i64 s.e.g2,.bool s.e.p2,.bool s.e.c2,.bool s.e.d2],v] z fun e w'=>e=.returned (.agg (cfC (woF (cfA s.e) L)))∧Below z.heap.size z w'):=hide fun v z hz=>by
  have:=implWithout (cfA s.e) v L z (cfA_ok hk) hr hz
  rwa [cfA_cells hk] at this
 clear hk hr;obtain ⟨XX,hXX⟩:∃ XX,(if c.cc=3 then lessF (cfA s.e) L else woF (cfA s.e) L)=XX:=⟨_,rfl⟩;rw [hXX];have HX:=hide hXX.symm;clear hXX;generalize lessF (cfA s.e) L=X1 at *;generalize woF (cfA s.e) L=X2 at *;go_enter func93,ntmps93
 go_wp2_with fail
 go_quiet (fail)
 have hL0:=(uh HL).step (below_drewN (Below.refl q.heap.size q) nq);have hE0:=(uh HE).below (below_drewN (Below.refl q.heap.size q) nq) (uh HE).lt;generalize q.drewN nq=q0 at *;have c33:=hL0.cell (i:=33) rfl;have HL0:=hide hL0;have hB0:=hL0.lt;have CO2:=hide (uh CO q0 hE0);clear hL0 hE0 HE HL CO c32 c15;go_wp2_with fail
 refine (uh CO2).mono ?_;rintro e z1 ⟨ad,cp,rfl,ho,hb⟩;dsimp only at ho;dsimp only;have E1:=hide (And.intro ((uh HL0).step hb) (HoldsO.own ho));have hzB:B<z1.heap.size:=Nat.lt_of_lt_of_le hB0 hb.size;clear hb ho CO2 c33 HL0;go_upto_region 4 with fail
 refine gen_world (fun z=>Lay 83 w0 w1 B c s v1 v2 vs vt z∧z.heap[z1.heap.size]?=some (.cells #[.slice ad L.length cp,.int .i64 0] 172)∧HoldsO z (.slice ad L.length cp) L) ?_ ?_
 ·have hbA:=(Below.refl z1.heap.size z1).alloc (Nat.le_refl _) (.cells #[.slice ad L.length cp,.int .i64 0] 172);exact ⟨(uh E1).1.step hbA,heap_alloc_new z1 _,(uh E1).2.below hbA rfl⟩
 intro z2 hz2;have hMB:¬ (z1.heap.size=B):=by omega
 generalize z1.heap.size=M at *;have E2:=hide hz2;obtain ⟨m0,m1⟩:=row2a hz2.2.1;have k31:=hz2.1.cell (i:=31) rfl;clear hz2 E1;have SY:Hid (∀ y9:World,y9.heap[M]?=some (.cells #[.slice ad L.length cp,.int .i64 0] 172)→(y9.cell? ⟨M,0,none⟩=some (.slice ad L.length cp))):=hide fun y9 hm=>(row2a hm).1
 replace CL:=hide fun z hz=>uh CL (.slice ad L.length cp) z hz
 replace CW:=hide fun z hz=>uh CW (.slice ad L.length cp) z hz
 have E4:Hid (Lay 83 w0 w1 B c s v1 v2 vs vt z2.drew∧z2.drew.heap[M]?=some (.cells #[.slice ad L.length cp,.int .i64 0] 172)∧HoldsO z2.drew (.slice ad L.length cp) L):=hide ⟨(uh E2).1.step (Below.refl _ _).drew,(uh E2).2.1,(uh E2).2.2.below (Below.refl _ _).drew rfl⟩;by_cases h3:c.cc=3
 ·rw [if_pos h3] at HX;have hb3:(c.cc == 3)=true:=by simpa using h3
  clear h3 CW;go_upto_region 7 with fail
  refine wp_region_held_drew (S:=fun y9=>y9.cell? ⟨M,0,none⟩=some (.slice ad L.length cp)) (by kernel_rfl) (uh SY _ (uh E4).2.1) (fun hHeld=>?_);generalize z2.drew=yy at E4 hHeld ⊢;clear E2 m0 m1 k31;refine t2 0 ?_;refine t2 1 ?_;refine t2 2 ?_;refine t2 3 ?_;refine t2 4 ?_;refine t2 6 ?_;refine t2 7 ?_;refine r1 5 rfl (fun K hK=>?_);have k6:=(uh E4).1.cell (i:=6) rfl;have f6:=(uh E4).1.frz 6;have k7:=(uh E4).1.cell (i:=7) rfl;have f7:=(uh E4).1.frz 7;have k8:=(uh E4).1.cell (i:=8) rfl;have f8:=(uh E4).1.frz 8;have k9:=(uh E4).1.cell (i:=9) rfl;have f9:=(uh E4).1.frz 9;have k10:=(uh E4).1.cell (i:=10) rfl;have f10:=(uh E4).1.frz 10;have k11:=(uh E4).1.cell (i:=11) rfl;have f11:=(uh E4).1.frz 11;go_simp;clear k6 k7 k8 k9 k10 k11 f6 f7 f8 f9 f10 f11;refine ro hK (uh SY _ (uh E4).2.1) fun _=>?_
  clear hK K;refine r1 8 rfl (fun K hK=>?_);go_simp;refine (uh CL _ (uh E4).2.2).mono ?_;rintro e z32 ⟨rfl,hb32⟩;have E32:=hide (And.intro ((uh E4).1.step hb32) (And.intro ((hb32.block _ (ge.1 (uh E4).2.1).1).trans (uh E4).2.1) ((uh E4).2.2.below hb32 rfl)));clear hb32;go_wp2_with fail
  refine ro hK (uh SY _ (uh E32).2.1) fun _=>?_
  clear hK K;refine t2 9 ?_;refine t2 10 ?_;refine t2 11 ?_;refine r1 12 rfl (fun K hK=>?_);have ZF:=hide ((uh E32).1.asks9 X1);have ZM:=hide ((set6b_ot (fun e=>hMB (show M=B from e)) (.int .i64 X1.m) (.int .i64 X1.a) (.int .i64 X1.g) (.bool X1.p) (.bool X1.c) (.bool X1.d)).trans (uh E32).2.1);have k6:=(uh E32).1.cell (i:=6) rfl;have f6:=(uh E32).1.frz 6;have k7:=(uh E32).1.cell (i:=7) rfl;have f7:=(uh E32).1.frz 7;have k8:=(uh E32).1.cell (i:=8) rfl;have f8:=(uh E32).1.frz 8;have k9:=(uh E32).1.cell (i:=9) rfl;have f9:=(uh E32).1.frz 9;have k10:=(uh E32).1.cell (i:=10) rfl;have f10:=(uh E32).1.frz 10;have k11:=(uh E32).1.cell (i:=11) rfl;have f11:=(uh E32).1.frz 11;go_simp;clear k6 k7 k8 k9 k10 k11 f6 f7 f8 f9 f10 f11;refine ro hK (uh SY _ (uh ZM)) fun _=>?_
  clear hK K;refine dn ?_ _;go_upto_region 9 with fail
  refine gen_world (Lay 83 w0 w1 B c { s with e:=setA s.e X1 } v1 v2 vs vt) (uh ZF) ?_;intro z9 hz9;have E9:=hide hz9;clear hz9 ZF ZM;go_wp2
  refine bodyPost_ret (v:=.tuple #[.int .i64 9,.int .i64 0]) (by simp [results,results93,go_sem]) rfl ?_;refine ⟨?_,rfl⟩;rw [uh HX];exact uh E9
 ·rw [if_neg h3] at HX;have hb3:(c.cc == 3)=false:=by simpa using h3
  clear h3 CL;go_upto_region 8 with fail
  refine wp_region_held_drew (S:=fun y9=>y9.cell? ⟨M,0,none⟩=some (.slice ad L.length cp)) (by kernel_rfl) (uh SY _ (uh E4).2.1) (fun hHeld=>?_);generalize z2.drew=yy at E4 hHeld ⊢;clear E2 m0 m1 k31;refine t2 0 ?_;refine t2 1 ?_;refine t2 2 ?_;refine t2 3 ?_;refine t2 4 ?_;refine t2 6 ?_;refine t2 7 ?_;refine r1 5 rfl (fun K hK=>?_);have k6:=(uh E4).1.cell (i:=6) rfl;have f6:=(uh E4).1.frz 6;have k7:=(uh E4).1.cell (i:=7) rfl;have f7:=(uh E4).1.frz 7;have k8:=(uh E4).1.cell (i:=8) rfl;have f8:=(uh E4).1.frz 8;have k9:=(uh E4).1.cell (i:=9) rfl;have f9:=(uh E4).1.frz 9;have k10:=(uh E4).1.cell (i:=10) rfl;have f10:=(uh E4).1.frz 10;have k11:=(uh E4).1.cell (i:=11) rfl;have f11:=(uh E4).1.frz 11;go_simp;clear k6 k7 k8 k9 k10 k11 f6 f7 f8 f9 f10 f11;refine ro hK (uh SY _ (uh E4).2.1) fun _=>?_
  clear hK K;refine r1 8 rfl (fun K hK=>?_);go_simp;refine (uh CW _ (uh E4).2.2).mono ?_;rintro e z32 ⟨rfl,hb32⟩;have E32:=hide (And.intro ((uh E4).1.step hb32) (And.intro ((hb32.block _ (ge.1 (uh E4).2.1).1).trans (uh E4).2.1) ((uh E4).2.2.below hb32 rfl)));clear hb32;go_wp2_with fail
  refine ro hK (uh SY _ (uh E32).2.1) fun _=>?_
  clear hK K;refine t2 9 ?_;refine t2 10 ?_;refine t2 11 ?_;refine r1 12 rfl (fun K hK=>?_);have ZF:=hide ((uh E32).1.asks9 X2);have ZM:=hide ((set6b_ot (fun e=>hMB (show M=B from e)) (.int .i64 X2.m) (.int .i64 X2.a) (.int .i64 X2.g) (.bool X2.p) (.bool X2.c) (.bool X2.d)).trans (uh E32).2.1);have k6:=(uh E32).1.cell (i:=6) rfl;have f6:=(uh E32).1.frz 6;have k7:=(uh E32).1.cell (i:=7) rfl;have f7:=(uh E32).1.frz 7;have k8:=(uh E32).1.cell (i:=8) rfl;have f8:=(uh E32).1.frz 8;have k9:=(uh E32).1.cell (i:=9) rfl;have f9:=(uh E32).1.frz 9;have k10:=(uh E32).1.cell (i:=10) rfl;have f10:=(uh E32).1.frz 10;have k11:=(uh E32).1.cell (i:=11) rfl;have f11:=(uh E32).1.frz 11;go_simp;clear k6 k7 k8 k9 k10 k11 f6 f7 f8 f9 f10 f11;refine ro hK (uh SY _ (uh ZM)) fun _=>?_
  clear hK K;refine dn ?_ _;go_upto_region 9 with fail
  refine gen_world (Lay 83 w0 w1 B c { s with e:=setA s.e X2 } v1 v2 vs vt) (uh ZF) ?_;intro z9 hz9;have E9:=hide hz9;clear hz9 ZF ZM;go_wp2
  refine bodyPost_ret (v:=.tuple #[.int .i64 9,.int .i64 0]) (by simp [results,results93,go_sem]) rfl ?_;refine ⟨?_,rfl⟩;rw [uh HX];exact uh E9
theorem iCode {w0 w1:World} {B:Nat} {c:Cx} {s:St} {v1 v2 vs vt:Value} {q:World} (h:Lay 83 w0 w1 B c s v1 v2 vs vt q) (hs:c.cd.size≤250) :
  Calls prog 94 #[.pointer (some ⟨B,0,none⟩)] q fun r q'=>q'=q∧r=.returned (.tuple #[.int .i64 (if c.cd.size=0 then 0 else if hardB c.cd=true then 14 else 13),.int .i64 (if c.cd.size=0 then 4 else 0)]):=by
 have k:=h.cell (i:=33) rfl;clear h;obtain ⟨t,ht⟩:∃ t,c.cd=t:=⟨_,rfl⟩;rw [ht] at hs ⊢;have c33:q.cell? ⟨B,33,none⟩=some (.string t):=ht ▸ k;clear k ht;obtain ⟨⟨l⟩⟩:=t;cases l with
 | nil =>
  go_enter func94,ntmps94
  go_wp2
  refine bodyPost_ret (v:=.tuple #[.int .i64 0,.int .i64 4]) (by simp [results,results94,go_sem]) rfl ⟨rfl,rfl⟩
 | cons b l =>
  have d0:(ByteArray.mk ⟨b :: l⟩).toList.isEmpty=false:=by rw [ByteArray.toList_eq];rfl
  have d1:¬ (ByteArray.mk ⟨b :: l⟩).size=0:=by show ¬ (l.length+1=0);omega
  have d2:hardB ⟨⟨b :: l⟩⟩=within 1 7 b.toNat:=by
   show decide (1≤b.toNat∧b.toNat≤7)=_
   unfold within;rw [Bool.eq_iff_iff];simp;omega
  rw [d2,if_neg d1,if_neg d1];clear d2;have wb:wrap64 (b.toNat:Int)=(b.toNat:Int):=by
   have:=b.toNat_lt
   unfold wrap64;omega
  have d3:0<(ByteArray.mk ⟨b :: l⟩).size:=by show 0<l.length+1;omega
  cases hb:within 1 7 (b.toNat:Int)
  ·have hb2:within 1 7 (wrap64 (((ByteArray.mk ⟨b :: l⟩)[0]'d3).toNat:Int))=false:=by show within 1 7 (wrap64 (b.toNat:Int))=false;rw [wb];exact hb
   go_enter func94,ntmps94
   go_wp2_with (first | (go_at_call 78;refine (implWithin _ _ _ _).mono ?_;rintro e wx ⟨rfl,hw⟩;replace hw:=hw.symm;subst hw;rw [hb2]))
   refine bodyPost_ret (v:=.tuple #[.int .i64 13,.int .i64 0]) (by simp [results,results94,go_sem]) rfl ⟨rfl,rfl⟩
  ·have hb2:within 1 7 (wrap64 (((ByteArray.mk ⟨b :: l⟩)[0]'d3).toNat:Int))=true:=by show within 1 7 (wrap64 (b.toNat:Int))=true;rw [wb];exact hb
   go_enter func94,ntmps94
   go_wp2_with (first | (go_at_call 78;refine (implWithin _ _ _ _).mono ?_;rintro e wx ⟨rfl,hw⟩;replace hw:=hw.symm;subst hw;rw [hb2]))
   refine bodyPost_ret (v:=.tuple #[.int .i64 14,.int .i64 0]) (by simp [results,results94,go_sem]) rfl ⟨rfl,rfl⟩
structure CfQ (w:World) (x:Cf) (q:World):Prop where
 x:q.heap[w.heap.size]?=some (.cells (cfC x) 24)
 r:q.heap[w.heap.size+1]?=some (.cells #[.int .i64 0,.int .i64 0,.int .i64 0,.bool false,.bool false,.bool false] 24)
 b:Below w.heap.size w q
theorem CfQ.step {w:World} {x:Cf} {q q':World} (h:CfQ w x q) (hb:Below q.heap.size q q'):CfQ w x q' :=
 ⟨(hb.block _ (ge.1 h.x).1).trans h.x,(hb.block _ (ge.1 h.r).1).trans h.r,h.b.trans (hb.mono h.b.size)⟩
theorem CfQ.put {w:World} {x y:Cf} {q:World} (h:CfQ w x q) (i:Nat) (v:Value) (hy:(cfC x).setIfInBounds i v=cfC y):CfQ w y (q.setCell ⟨w.heap.size,i,none⟩ v) :=
 ⟨by rw [← hy];exact heap_setCell_same _ _ i _ _ v h.x,(Below.heap_setCell _ _ _ _ (by simp)).trans h.r,h.b.setCell (p:=⟨w.heap.size,i,none⟩) (Nat.le_refl _) _⟩
theorem lessK_7 (x:Cf) (n:Nat):lessK 7 x n=x:=by unfold lessK;rw [if_neg (by decide),if_neg (by decide),if_neg (by decide),if_neg (by decide)]
theorem lessK_8 (x:Cf) (n:Nat):lessK 8 x n=x:=by unfold lessK;rw [if_neg (by decide),if_neg (by decide),if_neg (by decide),if_neg (by decide)]
theorem lessK_9 (x:Cf) (n:Nat):lessK 9 x n={ x with d:=x.d && ((n:Int) != 2) }:=by unfold lessK;rw [if_neg (by decide),if_neg (by decide),if_neg (by decide),if_pos rfl]
theorem lessK_no {k:Int} (h1:k≠1) (h2:k≠2) (h5:k≠5) (h9:k≠9) (x:Cf) (n:Nat):lessK k x n=x:=by unfold lessK;rw [if_neg h1,if_neg h2,if_neg h5,if_neg h9]
theorem rightOrF_self (x:Cf):rightOrF x x=x:=ite_self _
theorem lessOne_ok {x:Cf} {o:Op.Opt} (h:okC x=true):okC (lessOne x o)=true:=by
 unfold lessOne rightOrF;split
 ·split
  ·next h2=>exact h2
  ·exact h
 ·exact h
theorem lessF_ok {x:Cf} (h:okC x=true) (F:List Op.Opt):okC (lessF x F)=true:=by
 unfold lessF;induction F generalizing x with
 | nil=>exact h
 | cons o F ih=>exact ih (lessOne_ok h)
theorem okC_get {x:Cf} (h:okC x=true):within 64 300 (x.m:Int)=true∧within 0 4294967295 (x.a:Int)=true∧within 0 4294967295 (x.g:Int)=true:=by
 unfold okC cfgOk at h;rw [Bool.and_eq_true,Bool.and_eq_true] at h;exact ⟨h.1,h.2.1,h.2.2⟩
theorem within_nat {n:Nat} (h:n<4294967296):within 0 4294967295 (n:Int)=true:=by
 unfold within;rw [Bool.and_eq_true];exact ⟨decide_eq_true (by omega),decide_eq_true (by omega)⟩
theorem num_two (t:ByteArray) (h:t.size=1):(((numOf t.data.toList:Nat):Int) == 2)=(t.toList == [2]):=by
 obtain ⟨c,hc⟩:∃ c,t.data.toList=[c]:=by
  have:t.data.toList.length=1:=by rw [Array.length_toList];exact h
  exact List.length_eq_one_iff.1 this
 rw [ByteArray.toList_eq,hc];have h4:numOf [c]=c.toNat:=by simp [numOf]
 rw [h4];cases hq:((c.toNat:Int) == 2)
 ·symm
  rw [beq_eq_false_iff_ne];intro e;cases e;cases hq
 ·have:c.toNat=2:=by have:=eq_of_beq hq;omega
  have:c=2:=by
   apply UInt8.toNat_inj.1
   exact this
  subst this;rfl
theorem specLess (x:Cf) (v:Value) (F:List Op.Opt) (w:World) (hx:okC x=true) (hr:Op.right F=true) (h:HoldsO w v F) :
  Calls prog 97 #[.agg (cfC x),v] w fun e w'=>e=.returned (.agg (cfC (lessF x F)))∧Below w.heap.size w w':=by
 have hFl:=Op.right_len hr;have C0:=hide fun W=>specCfg (x.m:Int) x.a x.g x.p x.c x.d W
 have C1:=hide fun W (hb:Below w.heap.size w W)=>specRightAll v F W (by unfold maxLen;omega) (h.below hb rfl)
 rw [show cfgOk (x.m:Int) x.a x.g=true from hx] at C0;rw [hr] at C1;have HFO:=hide (Op.right_all hr);have HAT:=hide fun i hi=>h.at i hi
 have HOK:=hide hx;obtain ⟨ad,cp,rfl⟩:=h.form;obtain ⟨n,hn⟩:∃ n,F.length=n:=⟨_,rfl⟩;obtain ⟨_,hA,hR,hb⟩:=start2r w (.cells (cfC x) 24) (.cells #[.int .i64 0,.int .i64 0,.int .i64 0,.bool false,.bool false,.bool false] 24);have H0:=hide (And.intro hA (And.intro hR hb));clear h hr hA hR hb hx;have HTL:Hid (F.take n=F):=hide (List.take_of_length_le (by omega));obtain ⟨R,hR⟩:∃ R,lessF x F=R:=⟨_,rfl⟩;rw [hR];have HR:=hide hR;clear hR;have hx0:lessF x (F.take 0)=x:=rfl;rw [hn] at C1 ⊢;go_enter func97,ntmps97
 go_wp2_with fail
 refine (uh C0 _).mono ?_;rintro e w1 ⟨rfl,hb1⟩;have hA1:=(hb1.block w.heap.size (by simp;omega)).trans (uh H0).1;have hR1:=(hb1.block (w.heap.size+1) (by simp)).trans (uh H0).2.1;have hB1:=(uh H0).2.2.trans (hb1.mono (uh H0).2.2.size);have H1:=hide (And.intro hA1 (And.intro hR1 hB1));clear hA1 hR1 hB1 hb1 H0 C0;go_wp2_with fail
 refine (uh C1 _ (uh H1).2.2).mono ?_;rintro e w2 ⟨rfl,hb2⟩;have hI:CfQ w (lessF x (F.take 0)) w2:=by
  rw [hx0];exact ⟨(hb2.block w.heap.size (ge.1 (uh H1).1).1).trans (uh H1).1,(hb2.block (w.heap.size+1) (ge.1 (uh H1).2.1).1).trans (uh H1).2.1,(uh H1).2.2.trans (hb2.mono (uh H1).2.2.size)⟩
 have HI:=hide hI;clear hI hb2 H1 C1 hx0;go_wp2_with fail
 go_loopw [5] (fun y wr=>∃ i:Nat,i≤n∧y=.int .i64 i∧CfQ w (lessF x (F.take i)) wr) (fun y _=>n - (intOf y).toNat)
 case atStart=>exact ⟨0,Nat.zero_le _,rfl,uh HI⟩
 case round =>
  obtain ⟨i,hi,rfl,hS⟩:=hrel;clear HI;by_cases hlt:i<n
  ·have d1:(i:Int)<(n:Int):=by omega
   have d0:(0:Int)≤(i:Int):=by omega
   obtain ⟨g,⟨cp2,e2⟩,hgl,k0,k1⟩:=uh HAT i (by omega);cases e2;replace k0:=(hS.b.cell (p:=⟨g,i*2,none⟩) hgl).trans k0;replace k1:=(hS.b.cell (p:=⟨g,i*2+1,none⟩) hgl).trans k1;have HSN:=hide (lessF_snoc x F i (by omega));have hok:=uh HFO _ (List.getElem_mem (show i<F.length by omega));have hyok:=lessF_ok (uh HOK) (F.take i);generalize F[i]'(by omega)=o at *;obtain ⟨kd,dt⟩:=o;dsimp only at k0 k1;generalize lessF x (F.take i)=y at *;have hds:dt.size≤20:=by unfold Op.ok at hok;have:=of_decide_eq_true hok;exact this.2.2
   have HS:=hide hS;clear hS HAT HFO hok HOK;go_upto_region 7 with fail
   refine gen_world (fun q=>CfQ w y q∧q.heap[wr.heap.size]?=some (.cells #[.int .i64 kd,.string dt] 116))
    ⟨(uh HS).step ((Below.refl _ _).alloc (Nat.le_refl _) _),heap_alloc_new wr _⟩ ?_
   rintro q1 ⟨hS1,hO1⟩;generalize wr.heap.size=N1 at *;obtain ⟨c0,c1,_,_⟩:=row2x hO1;obtain ⟨m0,m1,m2,m3,m4,m5⟩:=row6 hS1.x;obtain ⟨f0,f1,f2,f3,f4,f5⟩:=row6g hS1.x;have HV1:=hide hS1;clear hO1 HS k0 k1 hS1;have C2:=hide fun W=>specGet dt 2 W hds (by decide)
   have C4:=hide fun W=>specGet dt 4 W hds (by decide)
   have CI:=hide fun y W=>specIs y 64 300 W
   go_wp2_with fail
   refine (uh C2 _).mono ?_;rintro e w2' ⟨rfl,hw2⟩;replace hw2:=hw2.symm;subst hw2;go_wp2_with fail
   refine (uh C4 _).mono ?_;rintro e w3 ⟨rfl,hw3⟩;replace hw3:=hw3.symm;subst hw3;clear C2 C4;unfold lessOne at HSN;dsimp only at HSN;obtain ⟨y1,y2,y3⟩:=okC_get hyok;by_cases hk1:kd=1
   ·subst hk1;by_cases hs:dt.size=2
    ·rw [if_pos (by rw [hs];rfl)] at HSN;have g2:getN dt 2=numOf dt.data.toList:=if_pos hs;rw [g2,decide_eq_true hs];unfold lessK at HSN;rw [if_pos rfl] at HSN;generalize numOf dt.data.toList=nx at *;have CI2:=hide fun W=>specIs (nx:Int) 64 300 W
     clear CI;unfold rightOrF at HSN;cases hw:within 64 300 (nx:Int)
     ·rw [if_neg (by unfold okC cfgOk;rw [hw,Bool.false_and];decide)] at HSN;rw [hw] at CI2;go_wp2_with (first | (go_at_call 72;refine (uh CI2 _).mono ?_;rintro e w4 ⟨rfl,hw4⟩;replace hw4:=hw4.symm;subst hw4))
      go_roundw
      case rel=>exact ⟨i+1,by omega,by go_num,by rw [uh HSN];exact uh HV1⟩
      case measure=>simp [intOf];omega
     ·rw [if_pos (by unfold okC cfgOk;rw [hw,y2,y3];rfl)] at HSN;rw [hw] at CI2;go_wp2_with (first | (go_at_call 72;refine (uh CI2 _).mono ?_;rintro e w4 ⟨rfl,hw4⟩;replace hw4:=hw4.symm;subst hw4))
      go_roundw
      case rel=>exact ⟨i+1,by omega,by go_num,by rw [uh HSN];exact (uh HV1).put 0 (.int .i64 nx) rfl⟩
      case measure=>simp [intOf];omega
    ·rw [if_neg (by intro e;have e2:=Option.some.inj (show some 2=some dt.size from e);omega)] at HSN;rw [decide_eq_false hs];go_wp2_with (first | (go_at_call 72;refine (uh CI _ _).mono ?_;rintro e w4 ⟨rfl,hw4⟩;replace hw4:=hw4.symm;subst hw4))
     go_roundw
     case rel=>exact ⟨i+1,by omega,by go_num,by rw [uh HSN];exact uh HV1⟩
     case measure=>simp [intOf];omega
   by_cases hk2:kd=2
   ·subst hk2;by_cases hs:dt.size=4
    ·have hlt4:=numOf_lt4 dt.data.toList (by rw [len_dat];omega);rw [if_pos (by rw [hs];rfl)] at HSN;have g4:getN dt 4=numOf dt.data.toList:=if_pos hs;rw [g4,decide_eq_true hs];unfold lessK at HSN;rw [if_neg (by decide),if_pos rfl] at HSN;unfold rightOrF at HSN;rw [if_pos (by unfold okC cfgOk;dsimp only;rw [y1,within_nat hlt4,y3];rfl)] at HSN;go_wp2_with (first | (go_at_call 72;refine (uh CI _ _).mono ?_;rintro e w4 ⟨rfl,hw4⟩;replace hw4:=hw4.symm;subst hw4))
     go_roundw
     case rel=>exact ⟨i+1,by omega,by go_num,by rw [uh HSN];exact (uh HV1).put 1 (.int .i64 (numOf dt.data.toList:Nat)) rfl⟩
     case measure=>simp [intOf];omega
    ·rw [if_neg (by intro e;have e2:=Option.some.inj (show some 4=some dt.size from e);omega)] at HSN;rw [decide_eq_false hs];go_wp2_with (first | (go_at_call 72;refine (uh CI _ _).mono ?_;rintro e w4 ⟨rfl,hw4⟩;replace hw4:=hw4.symm;subst hw4))
     go_roundw
     case rel=>exact ⟨i+1,by omega,by go_num,by rw [uh HSN];exact uh HV1⟩
     case measure=>simp [intOf];omega
   by_cases hk5:kd=5
   ·subst hk5;by_cases hs:dt.size=4
    ·have hlt4:=numOf_lt4 dt.data.toList (by rw [len_dat];omega);rw [if_pos (by rw [hs];rfl)] at HSN;have g4:getN dt 4=numOf dt.data.toList:=if_pos hs;rw [g4,decide_eq_true hs];unfold lessK at HSN;rw [if_neg (by decide),if_neg (by decide),if_pos rfl] at HSN;unfold rightOrF at HSN;rw [if_pos (by unfold okC cfgOk;dsimp only;rw [y1,y2,within_nat hlt4];rfl)] at HSN;go_wp2_with (first | (go_at_call 72;refine (uh CI _ _).mono ?_;rintro e w4 ⟨rfl,hw4⟩;replace hw4:=hw4.symm;subst hw4))
     go_roundw
     case rel=>exact ⟨i+1,by omega,by go_num,by rw [uh HSN];exact (uh HV1).put 2 (.int .i64 (numOf dt.data.toList:Nat)) rfl⟩
     case measure=>simp [intOf];omega
    ·rw [if_neg (by intro e;have e2:=Option.some.inj (show some 4=some dt.size from e);omega)] at HSN;rw [decide_eq_false hs];go_wp2_with (first | (go_at_call 72;refine (uh CI _ _).mono ?_;rintro e w4 ⟨rfl,hw4⟩;replace hw4:=hw4.symm;subst hw4))
     go_roundw
     case rel=>exact ⟨i+1,by omega,by go_num,by rw [uh HSN];exact uh HV1⟩
     case measure=>simp [intOf];omega
   by_cases hk7:kd=7
   ·subst hk7;have HSN2:Hid (lessF x (F.take (i+1))=y):=by
     refine hide ((uh HSN).trans ?_);rw [lessK_7,rightOrF_self,ite_self]
    go_wp2_with (first | (go_at_call 72;refine (uh CI _ _).mono ?_;rintro e w4 ⟨rfl,hw4⟩;replace hw4:=hw4.symm;subst hw4))
    go_roundw
    case rel=>exact ⟨i+1,by omega,by go_num,by rw [uh HSN2];exact uh HV1⟩
    case measure=>simp [intOf];omega
   by_cases hk8:kd=8
   ·subst hk8;have HSN2:Hid (lessF x (F.take (i+1))=y):=by
     refine hide ((uh HSN).trans ?_);rw [lessK_8,rightOrF_self,ite_self]
    go_wp2_with (first | (go_at_call 72;refine (uh CI _ _).mono ?_;rintro e w4 ⟨rfl,hw4⟩;replace hw4:=hw4.symm;subst hw4))
    go_roundw
    case rel=>exact ⟨i+1,by omega,by go_num,by rw [uh HSN2];exact uh HV1⟩
    case measure=>simp [intOf];omega
   by_cases hk9:kd=9
   ·subst hk9;cases h4:(dt.toList == [2])
    ·have HSN2:Hid (lessF x (F.take (i+1))=y):=by
      refine hide ((uh HSN).trans ?_);by_cases hs:dt.size=1
      ·rw [if_pos (by rw [hs];rfl)];have hb:(((numOf dt.data.toList:Nat):Int) != 2)=true:=by unfold bne;rw [num_two dt hs,h4];rfl
       rw [lessK_9,hb,Bool.and_true];exact rightOrF_self y
      ·rw [if_neg (by intro e;have e2:=Option.some.inj (show some 1=some dt.size from e);omega)]
     go_wp2_with (first | (go_at_call 72;refine (uh CI _ _).mono ?_;rintro e w4 ⟨rfl,hw4⟩;replace hw4:=hw4.symm;subst hw4))
     go_roundw
     case rel=>exact ⟨i+1,by omega,by go_num,by rw [uh HSN2];exact uh HV1⟩
     case measure=>simp [intOf];omega
    ·have hs:dt.size=1:=by
      have:=eq_of_beq h4
      rw [ByteArray.toList_eq] at this;have h5:=congrArg List.length this;rw [Array.length_toList] at h5;exact h5
     rw [if_pos (by rw [hs];rfl)] at HSN;have hb:(((numOf dt.data.toList:Nat):Int) != 2)=false:=by unfold bne;rw [num_two dt hs,h4];rfl
     rw [lessK_9,hb,Bool.and_false] at HSN;unfold rightOrF at HSN;rw [if_pos (by unfold okC cfgOk;dsimp only;rw [y1,y2,y3];rfl)] at HSN;go_wp2_with (first | (go_at_call 72;refine (uh CI _ _).mono ?_;rintro e w4 ⟨rfl,hw4⟩;replace hw4:=hw4.symm;subst hw4))
     go_roundw
     case rel=>exact ⟨i+1,by omega,by go_num,by rw [uh HSN];exact (uh HV1).put 5 (.bool false) rfl⟩
     case measure=>simp [intOf];omega
   have e1:(kd == 1)=false:=beq_eq_false_iff_ne.2 hk1;have e2:(kd == 2)=false:=beq_eq_false_iff_ne.2 hk2;have e5:(kd == 5)=false:=beq_eq_false_iff_ne.2 hk5;have e9:(kd == 9)=false:=beq_eq_false_iff_ne.2 hk9;have HSN2:Hid (lessF x (F.take (i+1))=y):=by
    refine hide ((uh HSN).trans ?_);rw [lessK_no hk1 hk2 hk5 hk9,rightOrF_self,ite_self]
   go_wp2_with (first | (go_at_call 72;refine (uh CI _ _).mono ?_;rintro e w4 ⟨rfl,hw4⟩;replace hw4:=hw4.symm;subst hw4))
   go_roundw
   case rel=>exact ⟨i+1,by omega,by go_num,by rw [uh HSN2];exact uh HV1⟩
   case measure=>simp [intOf];omega
  ·have e:i=n:=by omega
   subst e;have d1:¬ ((i:Int)<(i:Int)):=by omega
   rw [uh HTL,uh HR] at hS;obtain ⟨m0,m1,m2,m3,m4,m5⟩:=row6 hS.x;obtain ⟨r0,r1,r2,r3,r4,r5⟩:=row6 hS.r;obtain ⟨f0,f1,f2,f3,f4,f5⟩:=row6g hS.r;have HS:=hide hS;clear hS HAT HFO HTL HR HOK;go_wp2
   exact bodyPost_ret (v:=.agg (cfC R)) (by simp [results,results97,asAddr,loadC (set6_at (uh HS).r (.int .i64 R.m) (.int .i64 R.a) (.int .i64 R.g) (.bool R.p) (.bool R.c) (.bool R.d))]) rfl ⟨rfl,set6_below (uh HS).b (by omega) _ _ _ _ _ _⟩
theorem specWithout (x:Cf) (v:Value) (F:List Op.Opt) (w:World) (hx:okC x=true) (hr:Op.right F=true) (h:HoldsO w v F) :
  Calls prog 98 #[.agg (cfC x),v] w fun e w'=>e=.returned (.agg (cfC (woF x F)))∧Below w.heap.size w w':=by
 have hFl:=Op.right_len hr;have C0:=hide fun W=>specCfg (x.m:Int) x.a x.g x.p x.c x.d W
 have C1:=hide fun W (hb:Below w.heap.size w W)=>specRightAll v F W (by unfold maxLen;omega) (h.below hb rfl)
 rw [show cfgOk (x.m:Int) x.a x.g=true from hx] at C0;rw [hr] at C1;have HFO:=hide (Op.right_all hr);have HAT:=hide fun i hi=>h.at i hi
 have HOK:=hide hx;obtain ⟨ad,cp,rfl⟩:=h.form;obtain ⟨n,hn⟩:∃ n,F.length=n:=⟨_,rfl⟩;obtain ⟨_,hA,hR,hb⟩:=start2r w (.cells (cfC x) 24) (.cells #[.int .i64 0,.int .i64 0,.int .i64 0,.bool false,.bool false,.bool false] 24);have H0:=hide (And.intro hA (And.intro hR hb));clear h hr hA hR hb hx;have HTL:Hid (F.take n=F):=hide (List.take_of_length_le (by omega));obtain ⟨R,hR⟩:∃ R,woF x F=R:=⟨_,rfl⟩;rw [hR];have HR:=hide hR;clear hR;have hx0:woF x (F.take 0)=x:=rfl;rw [hn] at C1 ⊢;go_enter func98,ntmps98
 go_wp2_with fail
 refine (uh C0 _).mono ?_;rintro e w1 ⟨rfl,hb1⟩;have hA1:=(hb1.block w.heap.size (by simp;omega)).trans (uh H0).1;have hR1:=(hb1.block (w.heap.size+1) (by simp)).trans (uh H0).2.1;have hB1:=(uh H0).2.2.trans (hb1.mono (uh H0).2.2.size);have H1:=hide (And.intro hA1 (And.intro hR1 hB1));clear hA1 hR1 hB1 hb1 H0 C0;go_wp2_with fail
 refine (uh C1 _ (uh H1).2.2).mono ?_;rintro e w2 ⟨rfl,hb2⟩;have hI:CfQ w (woF x (F.take 0)) w2:=by
  rw [hx0];exact ⟨(hb2.block w.heap.size (ge.1 (uh H1).1).1).trans (uh H1).1,(hb2.block (w.heap.size+1) (ge.1 (uh H1).2.1).1).trans (uh H1).2.1,(uh H1).2.2.trans (hb2.mono (uh H1).2.2.size)⟩
 have HI:=hide hI;clear hI hb2 H1 C1 hx0;go_wp2_with fail
 go_loopw [5] (fun y wr=>∃ i:Nat,i≤n∧y=.int .i64 i∧CfQ w (woF x (F.take i)) wr) (fun y _=>n - (intOf y).toNat)
 case atStart=>exact ⟨0,Nat.zero_le _,rfl,uh HI⟩
 case round =>
  obtain ⟨i,hi,rfl,hS⟩:=hrel;clear HI;by_cases hlt:i<n
  ·have d1:(i:Int)<(n:Int):=by omega
   have d0:(0:Int)≤(i:Int):=by omega
   obtain ⟨g,⟨cp2,e2⟩,hgl,k0,k1⟩:=uh HAT i (by omega);cases e2;replace k0:=(hS.b.cell (p:=⟨g,i*2,none⟩) hgl).trans k0;replace k1:=(hS.b.cell (p:=⟨g,i*2+1,none⟩) hgl).trans k1;have HSN:=hide (woF_snoc x F i (by omega));have hok:=uh HFO _ (List.getElem_mem (show i<F.length by omega));generalize F[i]'(by omega)=o at *;obtain ⟨kd,dt⟩:=o;dsimp only at k0 k1;generalize woF x (F.take i)=y at *;have hds:dt.size≤20:=by unfold Op.ok at hok;have:=of_decide_eq_true hok;exact this.2.2
   have HS:=hide hS;clear hS HAT HFO hok HOK;rw [show woK (Op.Opt.mk kd dt).kind y=woK kd y from rfl] at HSN;obtain ⟨m0,m1,m2,m3,m4,m5⟩:=row6 (uh HS).x;obtain ⟨f0,f1,f2,f3,f4,f5⟩:=row6g (uh HS).x;have HV1:=HS;by_cases hk1:kd=1
   ·subst hk1;go_wp2_with fail
    go_roundw
    case rel=>exact ⟨i+1,by omega,by go_num,by rw [uh HSN];exact (uh HV1).put 0 (.int .i64 300) rfl⟩
    case measure=>simp [intOf];omega
   by_cases hk2:kd=2
   ·subst hk2;go_wp2_with fail
    go_roundw
    case rel=>exact ⟨i+1,by omega,by go_num,by rw [uh HSN];exact (uh HV1).put 1 (.int .i64 4294967295) rfl⟩
    case measure=>simp [intOf];omega
   by_cases hk5:kd=5
   ·subst hk5;go_wp2_with fail
    go_roundw
    case rel=>exact ⟨i+1,by omega,by go_num,by rw [uh HSN];exact (uh HV1).put 2 (.int .i64 0) rfl⟩
    case measure=>simp [intOf];omega
   by_cases hk7:kd=7
   ·subst hk7;go_wp2_with fail
    go_roundw
    case rel=>exact ⟨i+1,by omega,by go_num,by rw [uh HSN];exact (uh HV1).put 3 (.bool false) rfl⟩
    case measure=>simp [intOf];omega
   by_cases hk8:kd=8
   ·subst hk8;go_wp2_with fail
    go_roundw
    case rel=>exact ⟨i+1,by omega,by go_num,by rw [uh HSN];exact (uh HV1).put 4 (.bool false) rfl⟩
    case measure=>simp [intOf];omega
   by_cases hk9:kd=9
   ·subst hk9;go_wp2_with fail
    go_roundw
    case rel=>exact ⟨i+1,by omega,by go_num,by rw [uh HSN];exact (uh HV1).put 5 (.bool false) rfl⟩
    case measure=>simp [intOf];omega
   have e1:(kd == 1)=false:=beq_eq_false_iff_ne.2 hk1;have e2:(kd == 2)=false:=beq_eq_false_iff_ne.2 hk2;have e5:(kd == 5)=false:=beq_eq_false_iff_ne.2 hk5;have e7:(kd == 7)=false:=beq_eq_false_iff_ne.2 hk7;have e8:(kd == 8)=false:=beq_eq_false_iff_ne.2 hk8;have e9:(kd == 9)=false:=beq_eq_false_iff_ne.2 hk9;have HSN2:Hid (woF x (F.take (i+1))=y):=by
    refine hide ((uh HSN).trans ?_);unfold woK;rw [if_neg hk1,if_neg hk2,if_neg hk5,if_neg hk7,if_neg hk8,if_neg hk9]
   go_wp2_with fail
   go_roundw
   case rel=>exact ⟨i+1,by omega,by go_num,by rw [uh HSN2];exact uh HV1⟩
   case measure=>simp [intOf];omega
  ·have e:i=n:=by omega
   subst e;have d1:¬ ((i:Int)<(i:Int)):=by omega
   rw [uh HTL,uh HR] at hS;obtain ⟨m0,m1,m2,m3,m4,m5⟩:=row6 hS.x;obtain ⟨r0,r1,r2,r3,r4,r5⟩:=row6 hS.r;obtain ⟨f0,f1,f2,f3,f4,f5⟩:=row6g hS.r;have HS:=hide hS;clear hS HAT HFO HTL HR HOK;go_wp2
   exact bodyPost_ret (v:=.agg (cfC R)) (by simp [results,results98,asAddr,loadC (set6_at (uh HS).r (.int .i64 R.m) (.int .i64 R.a) (.int .i64 R.g) (.bool R.p) (.bool R.c) (.bool R.d))]) rfl ⟨rfl,set6_below (uh HS).b (by omega) _ _ _ _ _ _⟩
end Go.Proofs.YtahpjlbaagkdoaaGreatDoor
