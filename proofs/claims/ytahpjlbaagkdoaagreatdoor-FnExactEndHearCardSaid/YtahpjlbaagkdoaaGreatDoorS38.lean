/- The program's end at work takes a nak or a reject; what lay in memory stands. The program's end at work takes a packet that rejects a code; what lay in memory stands. -/
import Derived.Test.YtahpjlbaagkdoaaGreatDoorS36
import Derived.Test.YtahpjlbaagkdoaaGreatDoorS37
import Derived.Test.YtahpjlbaagkdoaaGreatDoorS35
import Derived.Test.YtahpjlbaagkdoaaGreatDoorS18
import Derived.Test.YtahpjlbaagkdoaaGreatDoorShW
namespace Go.Proofs.YtahpjlbaagkdoaaGreatDoor
open Go.RowKit
theorem cfA_cells {e : En} (h : cfgOk e.m2 e.a2 e.g2 = true) : cfC (cfA e) = #[.int .i64 e.m2, .int .i64 e.a2, .int .i64 e.g2, .bool e.p2, .bool e.c2, .bool e.d2] := by
 obtain ⟨h1, h2, h3⟩ := cfgNat h
 unfold cfC cfA
 dsimp only
 rw [h1, h2, h3]
theorem set6b_ot {W : World} {E k : Nat} (hk : k ≠ E) (x0 x1 x2 x3 x4 x5 : Value) : ((((((W.setCell ⟨E, 6, none⟩ x0).setCell ⟨E, 7, none⟩ x1).setCell ⟨E, 8, none⟩ x2).setCell ⟨E, 9, none⟩ x3).setCell ⟨E, 10, none⟩ x4).setCell ⟨E, 11, none⟩ x5).heap[k]? = W.heap[k]? := by
 rw [Below.heap_setCell _ ⟨E, 11, none⟩ _ _ hk, Below.heap_setCell _ ⟨E, 10, none⟩ _ _ hk, Below.heap_setCell _ ⟨E, 9, none⟩ _ _ hk, Below.heap_setCell _ ⟨E, 8, none⟩ _ _ hk, Below.heap_setCell _ ⟨E, 7, none⟩ _ _ hk, Below.heap_setCell _ ⟨E, 6, none⟩ _ _ hk]
theorem cfA_ok {e : En} (h : cfgOk e.m2 e.a2 e.g2 = true) : okC (cfA e) = true := by
 obtain ⟨h1, h2, h3⟩ := cfgNat h
 unfold okC cfA
 dsimp only
 rw [h1, h2, h3]
 exact h
set_option linter.unusedSimpArgs false in
set_option maxHeartbeats 8000000 in
set_option maxRecDepth 100000 in
theorem iRefId {w0 w1 : World} {B : Nat} {c : Cx} {s : St} {v1 v2 vs vt : Value} {q : World} (h : Lay 83 w0 w1 B c s v1 v2 vs vt q) (h0 : c.ci ≠ s.e.id) :
  Calls Tryz.prog 93 #[.pointer (some ⟨B, 0, none⟩)] q fun r q' => Lay 83 w0 w1 B c s v1 v2 vs vt q' ∧ r = .returned (.tuple #[.int .i64 0, .int .i64 8]) := by
 have c32 := h.cell (i := 32) rfl
 have c15 := h.cell (i := 15) rfl
 have HL := hide h
 clear h
 have hb0 : (c.ci != s.e.id) = true := by simpa using h0
 have hb1 : (c.ci == s.e.id) = false := by simpa using h0
 clear h0
 generalize c.ci = x at *
 generalize s.e.id = y at *
 go_enter Tryz.func93, Tryz.ntmps93
 go_wp2_with fail
 go_quiet (fail)
 go_wp2
 refine bodyPost_ret (v := .tuple #[.int .i64 0, .int .i64 8]) (by simp [results, Tryz.results93, go_sem]) rfl ⟨(unhide HL).step (below_drewN (Below.refl _ _) _), rfl⟩
set_option linter.unusedSimpArgs false in
set_option maxHeartbeats 8000000 in
set_option maxRecDepth 100000 in
theorem iRefNo {w0 w1 : World} {B : Nat} {c : Cx} {s : St} {v1 v2 vs vt : Value} {q : World} (h : Lay 83 w0 w1 B c s v1 v2 vs vt q) (hs : c.cd.size ≤ 250) (hE : Et q) (hi : c.ci = s.e.id) (h0 : (oread c.cd).2 ≠ 0) :
  Calls Tryz.prog 93 #[.pointer (some ⟨B, 0, none⟩)] q fun r q' => Lay 83 w0 w1 B c s v1 v2 vs vt q' ∧ r = .returned (.tuple #[.int .i64 0, .int .i64 (oread c.cd).2]) := by
 have CO := hide fun z (hz : Et z) => implOptsRead c.cd z (by unfold maxLen; omega) hz
 have HE := hide hE
 have c32 := h.cell (i := 32) rfl
 have c15 := h.cell (i := 15) rfl
 have HL := hide h
 clear h hE hs
 rw [hi] at c32
 clear hi
 generalize oread c.cd = OO at *
 obtain ⟨L, cd⟩ := OO
 dsimp only at h0 ⊢
 have hb0 : (cd != 0) = true := by simpa using h0
 have hb1 : (cd == 0) = false := by simpa using h0
 clear h0
 go_enter Tryz.func93, Tryz.ntmps93
 go_wp2_with fail
 go_quiet (fail)
 have hL0 := (unhide HL).step (below_drewN (Below.refl q.heap.size q) nq)
 have hE0 := (unhide HE).below (below_drewN (Below.refl q.heap.size q) nq) (unhide HE).lt
 generalize q.drewN nq = q0 at *
 have c33 := hL0.cell (i := 33) rfl
 have HL0 := hide hL0
 have CO2 := hide (unhide CO q0 hE0)
 clear hL0 hE0 HE HL CO c32 c15
 go_wp2_with fail
 refine (unhide CO2).mono ?_
 rintro e z1 ⟨ad, cp, rfl, ho, hb⟩
 dsimp only at ho
 dsimp only
 have E1 := hide ((unhide HL0).step hb)
 clear hb ho CO2 c33 HL0
 go_upto_region 4 with fail
 refine gen_world (fun z => Lay 83 w0 w1 B c s v1 v2 vs vt z ∧ z.heap[z1.heap.size]? = some (.cells #[.slice ad L.length cp, .int .i64 cd] 172)) ?_ ?_
 ·exact ⟨(unhide E1).step ((Below.refl z1.heap.size z1).alloc (Nat.le_refl _) _), heap_alloc_new z1 _⟩
 intro z2 hz2
 generalize z1.heap.size = M at *
 have E2 := hide hz2
 obtain ⟨m0, m1⟩ := row2a hz2.2
 clear hz2 E1
 go_wp2_with fail
 go_quiet (fail)
 go_wp2
 refine bodyPost_ret (v := .tuple #[.int .i64 0, .int .i64 cd]) (by simp [results, Tryz.results93, go_sem]) rfl ⟨(unhide E2).1.step (below_drewN (Below.refl _ _) _), rfl⟩
set_option linter.unusedSimpArgs false in
set_option maxHeartbeats 8000000 in
set_option maxRecDepth 100000 in
theorem iRefYes {w0 w1 : World} {B : Nat} {c : Cx} {s : St} {v1 v2 vs vt : Value} {q : World} (h : Lay 83 w0 w1 B c s v1 v2 vs vt q) (hs : c.cd.size ≤ 250) (hE : Et q) (hi : c.ci = s.e.id) (hk : cfgOk s.e.m2 s.e.a2 s.e.g2 = true) (h0 : (oread c.cd).2 = 0) :
  Calls Tryz.prog 93 #[.pointer (some ⟨B, 0, none⟩)] q fun r q' => Lay 83 w0 w1 B c { s with e := setA s.e (if c.cc = 3 then lessF (cfA s.e) (oread c.cd).1 else woF (cfA s.e) (oread c.cd).1) } v1 v2 vs vt q' ∧ r = .returned (.tuple #[.int .i64 9, .int .i64 0]) := by
 have CO := hide fun z (hz : Et z) => implOptsRead c.cd z (by unfold maxLen; omega) hz
 have HE := hide hE
 have hr := oread_right c.cd
 have c32 := h.cell (i := 32) rfl
 have c15 := h.cell (i := 15) rfl
 have HL := hide h
 clear h hE hs
 rw [hi] at c32
 clear hi
 generalize oread c.cd = OO at *
 obtain ⟨L, cd⟩ := OO
 dsimp only at h0 hr ⊢
 subst h0
 have CL : Hid (∀ (v : Value) (z : World), HoldsO z v L → Calls Tryz.prog 130 #[.agg #[.int .i64 s.e.m2, .int .i64 s.e.a2, .int .i64 s.e.g2, .bool s.e.p2, .bool s.e.c2, .bool s.e.d2], v] z fun e w' => e = .returned (.agg (cfC (lessF (cfA s.e) L))) ∧ Below z.heap.size z w') := hide fun v z hz => by
  have := implLess (cfA s.e) v L z (cfA_ok hk) hr hz
  rwa [cfA_cells hk] at this
 have CW : Hid (∀ (v : Value) (z : World), HoldsO z v L → Calls Tryz.prog 131 #[.agg #[.int .i64 s.e.m2, .int .i64 s.e.a2, .int .i64 s.e.g2, .bool s.e.p2, .bool s.e.c2, .bool s.e.d2], v] z fun e w' => e = .returned (.agg (cfC (woF (cfA s.e) L))) ∧ Below z.heap.size z w') := hide fun v z hz => by
  have := implWithout (cfA s.e) v L z (cfA_ok hk) hr hz
  rwa [cfA_cells hk] at this
 clear hk hr
 obtain ⟨XX, hXX⟩ : ∃ XX, (if c.cc = 3 then lessF (cfA s.e) L else woF (cfA s.e) L) = XX := ⟨_, rfl⟩
 rw [hXX]
 have HX := hide hXX.symm
 clear hXX
 generalize lessF (cfA s.e) L = X1 at *
 generalize woF (cfA s.e) L = X2 at *
 go_enter Tryz.func93, Tryz.ntmps93
 go_wp2_with fail
 go_quiet (fail)
 have hL0 := (unhide HL).step (below_drewN (Below.refl q.heap.size q) nq)
 have hE0 := (unhide HE).below (below_drewN (Below.refl q.heap.size q) nq) (unhide HE).lt
 generalize q.drewN nq = q0 at *
 have c33 := hL0.cell (i := 33) rfl
 have HL0 := hide hL0
 have hB0 := hL0.lt
 have CO2 := hide (unhide CO q0 hE0)
 clear hL0 hE0 HE HL CO c32 c15
 go_wp2_with fail
 refine (unhide CO2).mono ?_
 rintro e z1 ⟨ad, cp, rfl, ho, hb⟩
 dsimp only at ho
 dsimp only
 have E1 := hide (And.intro ((unhide HL0).step hb) (HoldsO.own ho))
 have hzB : B < z1.heap.size := Nat.lt_of_lt_of_le hB0 hb.size
 clear hb ho CO2 c33 HL0
 go_upto_region 4 with fail
 refine gen_world (fun z => Lay 83 w0 w1 B c s v1 v2 vs vt z ∧ z.heap[z1.heap.size]? = some (.cells #[.slice ad L.length cp, .int .i64 0] 172) ∧ HoldsO z (.slice ad L.length cp) L) ?_ ?_
 ·have hbA := (Below.refl z1.heap.size z1).alloc (Nat.le_refl _) (.cells #[.slice ad L.length cp, .int .i64 0] 172)
  exact ⟨(unhide E1).1.step hbA, heap_alloc_new z1 _, (unhide E1).2.below hbA rfl⟩
 intro z2 hz2
 have hMB : ¬ (z1.heap.size = B) := by omega
 generalize z1.heap.size = M at *
 have E2 := hide hz2
 obtain ⟨m0, m1⟩ := row2a hz2.2.1
 have k31 := hz2.1.cell (i := 31) rfl
 clear hz2 E1
 have SY : Hid (∀ y9 : World, y9.heap[M]? = some (.cells #[.slice ad L.length cp, .int .i64 0] 172) → (y9.cell? ⟨M, 0, none⟩ = some (.slice ad L.length cp))) := hide fun y9 hm => (row2a hm).1
 replace CL := hide fun z hz => unhide CL (.slice ad L.length cp) z hz
 replace CW := hide fun z hz => unhide CW (.slice ad L.length cp) z hz
 have E4 : Hid (Lay 83 w0 w1 B c s v1 v2 vs vt z2.drew ∧ z2.drew.heap[M]? = some (.cells #[.slice ad L.length cp, .int .i64 0] 172) ∧ HoldsO z2.drew (.slice ad L.length cp) L) := hide ⟨(unhide E2).1.step (Below.refl _ _).drew, (unhide E2).2.1, (unhide E2).2.2.below (Below.refl _ _).drew rfl⟩
 by_cases h3 : c.cc = 3
 ·rw [if_pos h3] at HX
  have hb3 : (c.cc == 3) = true := by simpa using h3
  clear h3 CW
  go_upto_region 7 with fail
  refine wp_region_held_drew (S := fun y9 => y9.cell? ⟨M, 0, none⟩ = some (.slice ad L.length cp)) (by kernel_rfl) (unhide SY _ (unhide E4).2.1) (fun hHeld => ?_)
  generalize z2.drew = yy at E4 hHeld ⊢
  clear E2 m0 m1 k31
  refine tk 0 (v := ?va1_0) rfl ?hya1_0 ?_
  case hya1_0 => intro w hSw; (try dsimp only at hSw); go_simp; try with_reducible rfl
  try simp only [Act.put, sA, sZ, sS, gA, gZ]
  refine tk 1 (v := ?va2_1) rfl ?hya2_1 ?_
  case hya2_1 => intro w hSw; (try dsimp only at hSw); go_simp; try with_reducible rfl
  try simp only [Act.put, sA, sZ, sS, gA, gZ, gS]
  refine tk 2 (v := ?va3_2) rfl ?hya3_2 ?_
  case hya3_2 => intro w hSw; (try dsimp only at hSw); go_simp; try with_reducible rfl
  try simp only [Act.put, sA, sZ, sS, gA, gZ, gS]
  refine tk 3 (v := ?va4_3) rfl ?hya4_3 ?_
  case hya4_3 => intro w hSw; (try dsimp only at hSw); go_simp; try with_reducible rfl
  try simp only [Act.put, sA, sZ, sS, gA, gZ, gS]
  refine tk 4 (v := ?va5_4) rfl ?hya5_4 ?_
  case hya5_4 => intro w hSw; (try dsimp only at hSw); go_simp; try with_reducible rfl
  try simp only [Act.put, sA, sZ, sS, gA, gZ, gS]
  refine tk 6 (v := ?va6_6) rfl ?hya6_6 ?_
  case hya6_6 => intro w hSw; (try dsimp only at hSw); go_simp; try with_reducible rfl
  try simp only [Act.put, sA, sZ, sS, gA, gZ, gS]
  refine tk 7 (v := ?va7_7) rfl ?hya7_7 ?_
  case hya7_7 => intro w hSw; (try dsimp only at hSw); go_simp; try with_reducible rfl
  try simp only [Act.put, sA, sZ, sS, gA, gZ, gS]
  refine r1 5 rfl (fun K hK => ?_)
  have k6 := (unhide E4).1.cell (i := 6) rfl
  have f6 := (unhide E4).1.frz 6
  have k7 := (unhide E4).1.cell (i := 7) rfl
  have f7 := (unhide E4).1.frz 7
  have k8 := (unhide E4).1.cell (i := 8) rfl
  have f8 := (unhide E4).1.frz 8
  have k9 := (unhide E4).1.cell (i := 9) rfl
  have f9 := (unhide E4).1.frz 9
  have k10 := (unhide E4).1.cell (i := 10) rfl
  have f10 := (unhide E4).1.frz 10
  have k11 := (unhide E4).1.cell (i := 11) rfl
  have f11 := (unhide E4).1.frz 11
  go_simp
  clear k6 k7 k8 k9 k10 k11 f6 f7 f8 f9 f10 f11
  refine hK.out _ _ (unhide SY _ (unhide E4).2.1) (fun _ => ?_)
  clear hK K
  try simp only [Act.put, sA, sZ, sS, gA, gZ, gS]
  refine r1 8 rfl (fun K hK => ?_)
  go_simp
  refine (unhide CL _ (unhide E4).2.2).mono ?_
  rintro e z32 ⟨rfl, hb32⟩
  have E32 := hide (And.intro ((unhide E4).1.step hb32) (And.intro ((hb32.block _ (Array.getElem?_eq_some_iff.1 (unhide E4).2.1).1).trans (unhide E4).2.1) ((unhide E4).2.2.below hb32 rfl)))
  clear hb32
  go_wp2_with fail
  refine hK.out _ _ (unhide SY _ (unhide E32).2.1) (fun _ => ?_)
  clear hK K
  try simp only [Act.put, sA, sZ, sS, gA, gZ, gS]
  refine tk 9 (v := ?va8_9) rfl ?hya8_9 ?_
  case hya8_9 => intro w hSw; (try dsimp only at hSw); go_simp; try with_reducible rfl
  try simp only [Act.put, sA, sZ, sS, gA, gZ, gS]
  refine tk 10 (v := ?va9_10) rfl ?hya9_10 ?_
  case hya9_10 => intro w hSw; (try dsimp only at hSw); go_simp; try with_reducible rfl
  try simp only [Act.put, sA, sZ, sS, gA, gZ, gS]
  refine tk 11 (v := ?va10_11) rfl ?hya10_11 ?_
  case hya10_11 => intro w hSw; (try dsimp only at hSw); go_simp; try with_reducible rfl
  try simp only [Act.put, sA, sZ, sS, gA, gZ, gS]
  refine r1 12 rfl (fun K hK => ?_)
  have ZF := hide ((unhide E32).1.asks9 X1)
  have ZM := hide ((set6b_ot (fun e => hMB (show M = B from e)) (.int .i64 X1.m) (.int .i64 X1.a) (.int .i64 X1.g) (.bool X1.p) (.bool X1.c) (.bool X1.d)).trans (unhide E32).2.1)
  have k6 := (unhide E32).1.cell (i := 6) rfl
  have f6 := (unhide E32).1.frz 6
  have k7 := (unhide E32).1.cell (i := 7) rfl
  have f7 := (unhide E32).1.frz 7
  have k8 := (unhide E32).1.cell (i := 8) rfl
  have f8 := (unhide E32).1.frz 8
  have k9 := (unhide E32).1.cell (i := 9) rfl
  have f9 := (unhide E32).1.frz 9
  have k10 := (unhide E32).1.cell (i := 10) rfl
  have f10 := (unhide E32).1.frz 10
  have k11 := (unhide E32).1.cell (i := 11) rfl
  have f11 := (unhide E32).1.frz 11
  go_simp
  clear k6 k7 k8 k9 k10 k11 f6 f7 f8 f9 f10 f11
  refine hK.out _ _ (unhide SY _ (unhide ZM)) (fun _ => ?_)
  clear hK K
  try simp only [Act.put, sA, sZ, sS, gA, gZ, gS]
  refine wpAnyH_done (by kernel_rfl) ?_ _
  go_upto_region 9 with fail
  refine gen_world (Lay 83 w0 w1 B c { s with e := setA s.e X1 } v1 v2 vs vt) (unhide ZF) ?_
  intro z9 hz9
  have E9 := hide hz9
  clear hz9 ZF ZM
  go_wp2
  refine bodyPost_ret (v := .tuple #[.int .i64 9, .int .i64 0]) (by simp [results, Tryz.results93, go_sem]) rfl ?_
  refine ⟨?_, rfl⟩
  rw [unhide HX]
  exact unhide E9
 ·rw [if_neg h3] at HX
  have hb3 : (c.cc == 3) = false := by simpa using h3
  clear h3 CL
  go_upto_region 8 with fail
  refine wp_region_held_drew (S := fun y9 => y9.cell? ⟨M, 0, none⟩ = some (.slice ad L.length cp)) (by kernel_rfl) (unhide SY _ (unhide E4).2.1) (fun hHeld => ?_)
  generalize z2.drew = yy at E4 hHeld ⊢
  clear E2 m0 m1 k31
  refine tk 0 (v := ?vb1_0) rfl ?hyb1_0 ?_
  case hyb1_0 => intro w hSw; (try dsimp only at hSw); go_simp; try with_reducible rfl
  try simp only [Act.put, sA, sZ, sS, gA, gZ]
  refine tk 1 (v := ?vb2_1) rfl ?hyb2_1 ?_
  case hyb2_1 => intro w hSw; (try dsimp only at hSw); go_simp; try with_reducible rfl
  try simp only [Act.put, sA, sZ, sS, gA, gZ, gS]
  refine tk 2 (v := ?vb3_2) rfl ?hyb3_2 ?_
  case hyb3_2 => intro w hSw; (try dsimp only at hSw); go_simp; try with_reducible rfl
  try simp only [Act.put, sA, sZ, sS, gA, gZ, gS]
  refine tk 3 (v := ?vb4_3) rfl ?hyb4_3 ?_
  case hyb4_3 => intro w hSw; (try dsimp only at hSw); go_simp; try with_reducible rfl
  try simp only [Act.put, sA, sZ, sS, gA, gZ, gS]
  refine tk 4 (v := ?vb5_4) rfl ?hyb5_4 ?_
  case hyb5_4 => intro w hSw; (try dsimp only at hSw); go_simp; try with_reducible rfl
  try simp only [Act.put, sA, sZ, sS, gA, gZ, gS]
  refine tk 6 (v := ?vb6_6) rfl ?hyb6_6 ?_
  case hyb6_6 => intro w hSw; (try dsimp only at hSw); go_simp; try with_reducible rfl
  try simp only [Act.put, sA, sZ, sS, gA, gZ, gS]
  refine tk 7 (v := ?vb7_7) rfl ?hyb7_7 ?_
  case hyb7_7 => intro w hSw; (try dsimp only at hSw); go_simp; try with_reducible rfl
  try simp only [Act.put, sA, sZ, sS, gA, gZ, gS]
  refine r1 5 rfl (fun K hK => ?_)
  have k6 := (unhide E4).1.cell (i := 6) rfl
  have f6 := (unhide E4).1.frz 6
  have k7 := (unhide E4).1.cell (i := 7) rfl
  have f7 := (unhide E4).1.frz 7
  have k8 := (unhide E4).1.cell (i := 8) rfl
  have f8 := (unhide E4).1.frz 8
  have k9 := (unhide E4).1.cell (i := 9) rfl
  have f9 := (unhide E4).1.frz 9
  have k10 := (unhide E4).1.cell (i := 10) rfl
  have f10 := (unhide E4).1.frz 10
  have k11 := (unhide E4).1.cell (i := 11) rfl
  have f11 := (unhide E4).1.frz 11
  go_simp
  clear k6 k7 k8 k9 k10 k11 f6 f7 f8 f9 f10 f11
  refine hK.out _ _ (unhide SY _ (unhide E4).2.1) (fun _ => ?_)
  clear hK K
  try simp only [Act.put, sA, sZ, sS, gA, gZ, gS]
  refine r1 8 rfl (fun K hK => ?_)
  go_simp
  refine (unhide CW _ (unhide E4).2.2).mono ?_
  rintro e z32 ⟨rfl, hb32⟩
  have E32 := hide (And.intro ((unhide E4).1.step hb32) (And.intro ((hb32.block _ (Array.getElem?_eq_some_iff.1 (unhide E4).2.1).1).trans (unhide E4).2.1) ((unhide E4).2.2.below hb32 rfl)))
  clear hb32
  go_wp2_with fail
  refine hK.out _ _ (unhide SY _ (unhide E32).2.1) (fun _ => ?_)
  clear hK K
  try simp only [Act.put, sA, sZ, sS, gA, gZ, gS]
  refine tk 9 (v := ?vb8_9) rfl ?hyb8_9 ?_
  case hyb8_9 => intro w hSw; (try dsimp only at hSw); go_simp; try with_reducible rfl
  try simp only [Act.put, sA, sZ, sS, gA, gZ, gS]
  refine tk 10 (v := ?vb9_10) rfl ?hyb9_10 ?_
  case hyb9_10 => intro w hSw; (try dsimp only at hSw); go_simp; try with_reducible rfl
  try simp only [Act.put, sA, sZ, sS, gA, gZ, gS]
  refine tk 11 (v := ?vb10_11) rfl ?hyb10_11 ?_
  case hyb10_11 => intro w hSw; (try dsimp only at hSw); go_simp; try with_reducible rfl
  try simp only [Act.put, sA, sZ, sS, gA, gZ, gS]
  refine r1 12 rfl (fun K hK => ?_)
  have ZF := hide ((unhide E32).1.asks9 X2)
  have ZM := hide ((set6b_ot (fun e => hMB (show M = B from e)) (.int .i64 X2.m) (.int .i64 X2.a) (.int .i64 X2.g) (.bool X2.p) (.bool X2.c) (.bool X2.d)).trans (unhide E32).2.1)
  have k6 := (unhide E32).1.cell (i := 6) rfl
  have f6 := (unhide E32).1.frz 6
  have k7 := (unhide E32).1.cell (i := 7) rfl
  have f7 := (unhide E32).1.frz 7
  have k8 := (unhide E32).1.cell (i := 8) rfl
  have f8 := (unhide E32).1.frz 8
  have k9 := (unhide E32).1.cell (i := 9) rfl
  have f9 := (unhide E32).1.frz 9
  have k10 := (unhide E32).1.cell (i := 10) rfl
  have f10 := (unhide E32).1.frz 10
  have k11 := (unhide E32).1.cell (i := 11) rfl
  have f11 := (unhide E32).1.frz 11
  go_simp
  clear k6 k7 k8 k9 k10 k11 f6 f7 f8 f9 f10 f11
  refine hK.out _ _ (unhide SY _ (unhide ZM)) (fun _ => ?_)
  clear hK K
  try simp only [Act.put, sA, sZ, sS, gA, gZ, gS]
  refine wpAnyH_done (by kernel_rfl) ?_ _
  go_upto_region 9 with fail
  refine gen_world (Lay 83 w0 w1 B c { s with e := setA s.e X2 } v1 v2 vs vt) (unhide ZF) ?_
  intro z9 hz9
  have E9 := hide hz9
  clear hz9 ZF ZM
  go_wp2
  refine bodyPost_ret (v := .tuple #[.int .i64 9, .int .i64 0]) (by simp [results, Tryz.results93, go_sem]) rfl ?_
  refine ⟨?_, rfl⟩
  rw [unhide HX]
  exact unhide E9
set_option maxHeartbeats 4000000 in
theorem iCode {w0 w1 : World} {B : Nat} {c : Cx} {s : St} {v1 v2 vs vt : Value} {q : World} (h : Lay 83 w0 w1 B c s v1 v2 vs vt q) (hs : c.cd.size ≤ 250) :
  Calls Tryz.prog 94 #[.pointer (some ⟨B, 0, none⟩)] q fun r q' => q' = q ∧ r = .returned (.tuple #[.int .i64 (if c.cd.size = 0 then 0 else if hardB c.cd = true then 14 else 13), .int .i64 (if c.cd.size = 0 then 4 else 0)]) := by
 have k := h.cell (i := 33) rfl
 clear h
 obtain ⟨t, ht⟩ : ∃ t, c.cd = t := ⟨_, rfl⟩
 rw [ht] at hs ⊢
 have c33 : q.cell? ⟨B, 33, none⟩ = some (.string t) := ht ▸ k
 clear k ht
 obtain ⟨⟨l⟩⟩ := t
 cases l with
 | nil =>
  go_enter Tryz.func94, Tryz.ntmps94
  go_wp2
  refine bodyPost_ret (v := .tuple #[.int .i64 0, .int .i64 4]) (by simp [results, Tryz.results94, go_sem]) rfl ⟨rfl, rfl⟩
 | cons b l =>
  have d0 : (ByteArray.mk ⟨b :: l⟩).toList.isEmpty = false := by rw [ByteArray.toList_eq]; rfl
  have d1 : ¬ (ByteArray.mk ⟨b :: l⟩).size = 0 := by show ¬ (l.length + 1 = 0); omega
  have d2 : hardB ⟨⟨b :: l⟩⟩ = within 1 7 b.toNat := by
   show decide (1 ≤ b.toNat ∧ b.toNat ≤ 7) = _
   unfold within
   rw [Bool.eq_iff_iff]
   simp
   omega
  rw [d2, if_neg d1, if_neg d1]
  clear d2
  have wb : wrap64 (b.toNat : Int) = (b.toNat : Int) := by
   have := b.toNat_lt
   unfold wrap64
   omega
  have d3 : 0 < (ByteArray.mk ⟨b :: l⟩).size := by show 0 < l.length + 1; omega
  cases hb : within 1 7 (b.toNat : Int)
  ·have hb2 : within 1 7 (wrap64 (((ByteArray.mk ⟨b :: l⟩)[0]'d3).toNat : Int)) = false := by show within 1 7 (wrap64 (b.toNat : Int)) = false; rw [wb]; exact hb
   go_enter Tryz.func94, Tryz.ntmps94
   go_wp2_with (first | (go_at_call 78; refine (implWithin _ _ _ _).mono ?_; rintro e wx ⟨rfl, hw⟩; replace hw := hw.symm; subst hw; rw [hb2]))
   refine bodyPost_ret (v := .tuple #[.int .i64 13, .int .i64 0]) (by simp [results, Tryz.results94, go_sem]) rfl ⟨rfl, rfl⟩
  ·have hb2 : within 1 7 (wrap64 (((ByteArray.mk ⟨b :: l⟩)[0]'d3).toNat : Int)) = true := by show within 1 7 (wrap64 (b.toNat : Int)) = true; rw [wb]; exact hb
   go_enter Tryz.func94, Tryz.ntmps94
   go_wp2_with (first | (go_at_call 78; refine (implWithin _ _ _ _).mono ?_; rintro e wx ⟨rfl, hw⟩; replace hw := hw.symm; subst hw; rw [hb2]))
   refine bodyPost_ret (v := .tuple #[.int .i64 14, .int .i64 0]) (by simp [results, Tryz.results94, go_sem]) rfl ⟨rfl, rfl⟩
end Go.Proofs.YtahpjlbaagkdoaaGreatDoor
