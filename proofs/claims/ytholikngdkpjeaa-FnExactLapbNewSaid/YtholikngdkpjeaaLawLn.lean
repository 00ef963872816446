/- The law FnExactLapbNew walked: it returns true, and what lay in memory stands. -/
import Derived.Test.YtholikngdkpjeaaLpN
namespace Go.Proofs.Ytholikngdkpjeaa
open Go.RowKit
set_option maxHeartbeats 4000000 in
theorem lawLn (x : Int) (w : World) : Calls Try.prog 3 #[.int .i64 x] w fun e w' => e = .returned (.bool true) ∧ Below w.heap.size w w' := by
  have CI := hide fun v => implLpNew x v
  have CS := hide fun v => specLpNew x v
  have CE := hide fun v => eqLp (lpNew x) none none 0 0 [] v (by decide) (Or.inl ⟨_, _, rfl, rfl⟩) (Or.inl ⟨_, _, rfl, rfl⟩)
  have CK : Hid (∀ v, Calls Try.prog 12 #[.agg (lpC (lpNew x) (.slice none 0 0)), .int .i64 1] v fun e w' => e = .returned (.int .i64 1) ∧ Below v.heap.size v w') := hide fun v => (markLp (lpNew x) none 0 [] 1 v (by decide) (by decide) (Or.inl ⟨_, _, rfl, rfl⟩)).mono fun e w' ⟨h1, _, _, h4⟩ => ⟨h1, h4 rfl⟩
  have CH : Hid (∀ v, Calls Try.prog 13 #[.agg (lpC (lpNew x) (.slice none 0 0)), .int .i64 1] v fun e w' => e = .returned (.int .i64 1) ∧ Below v.heap.size v w') := hide fun v => heldLp (lpNew x) none 0 0 1 v (by decide) (by decide) (Or.inl ⟨_, _, rfl, rfl⟩)
  generalize lpNew x = p at *
  obtain ⟨wi, vs, va, vr, ak⟩ := p
  unfold lpC at CI CS CE CK CH
  dsimp only [List.length_nil] at CI CS CE CK CH
  go_enter Try.func3, Try.ntmps3
  go_wp2_with fail
  refine (unhide CS _).mono ?_
  rintro e w1 ⟨rfl, hb1⟩
  go_wp2_with fail
  refine (unhide CI _).mono ?_
  rintro e w2 ⟨rfl, hb2⟩
  have hM : w2.heap[w1.heap.size]? = some (.cells #[.int .i64 wi, .int .i64 vs, .int .i64 va, .int .i64 vr, .slice none 0 0, .bool ak] 24) := (hb2.block w1.heap.size (by simp)).trans (heap_alloc_new w1 _)
  have hB2 : Below w.heap.size w w2 := (hb1.alloc hb1.size _).trans (hb2.mono (by have := hb1.size; simp; omega))
  have hl : w1.heap.size < w2.heap.size := (Array.getElem?_eq_some_iff.1 hM).1
  obtain ⟨a0, a1, a2, a3, a4, a5⟩ := row6l hM
  have hne : ¬ (w1.heap.size = w2.heap.size) := by omega
  have HM := hide (And.intro hM (And.intro hB2 hl))
  clear hM hB2 hb2 hb1 CS
  go_wp2_with fail
  refine (unhide CE _).mono ?_
  rintro e w3 ⟨rfl, hb3⟩
  have hG3 : w3.heap[w2.heap.size]? = some (.cells #[.int .i64 wi, .int .i64 vs, .int .i64 va, .int .i64 vr, .slice none 0 0, .bool ak] 24) := (hb3.block w2.heap.size (by simp)).trans (heap_alloc_new w2 _)
  have hM3 := (hb3.block w1.heap.size (by simp; omega)).trans ((Below.heap_alloc _ _ _ (unhide HM).2.2).trans (unhide HM).1)
  have hB3 := ((unhide HM).2.1.alloc (unhide HM).2.1.size _).trans (hb3.mono (by have := (unhide HM).2.1.size; simp; omega))
  have I3 := hide (And.intro hG3 (And.intro hM3 hB3))
  clear a0 a1 a2 a3 a4 a5
  obtain ⟨a0, a1, a2, a3, a4, a5⟩ := row6l hG3
  clear hG3 hM3 hB3 hb3 HM
  go_wp2_with fail
  refine (unhide CK _).mono ?_
  rintro e w4 ⟨rfl, hb4⟩
  have I4 := hide (And.intro ((hb4.block _ (Array.getElem?_eq_some_iff.1 (unhide I3).1).1).trans (unhide I3).1) (And.intro ((hb4.block _ (Array.getElem?_eq_some_iff.1 (unhide I3).2.1).1).trans (unhide I3).2.1) ((unhide I3).2.2.trans (hb4.mono (unhide I3).2.2.size))))
  clear a0 a1 a2 a3 a4 a5
  obtain ⟨a0, a1, a2, a3, a4, a5⟩ := row6l (unhide I4).1
  clear hb4 I3 CK
  go_wp2_with fail
  refine (unhide CH _).mono ?_
  rintro e w5 ⟨rfl, hb5⟩
  have I5 := hide (And.intro ((hb5.block _ (Array.getElem?_eq_some_iff.1 (unhide I4).1).1).trans (unhide I4).1) (And.intro ((hb5.block _ (Array.getElem?_eq_some_iff.1 (unhide I4).2.1).1).trans (unhide I4).2.1) ((unhide I4).2.2.trans (hb5.mono (unhide I4).2.2.size))))
  clear hb5 I4 a0 a1 a2 a3 a4 a5
  go_wp2_with fail
  refine (unhide CI _).mono ?_
  rintro e w6 ⟨rfl, hb6⟩
  have I6 := hide (And.intro ((hb6.block _ (Array.getElem?_eq_some_iff.1 (unhide I5).1).1).trans (unhide I5).1) (And.intro ((hb6.block _ (Array.getElem?_eq_some_iff.1 (unhide I5).2.1).1).trans (unhide I5).2.1) ((unhide I5).2.2.trans (hb6.mono (unhide I5).2.2.size))))
  obtain ⟨a0, a1, a2, a3, a4, a5⟩ := row6l (unhide I6).2.1
  have hl6' : w1.heap.size < w6.heap.size := (Array.getElem?_eq_some_iff.1 (unhide I6).2.1).1
  have hne6 : ¬ (w1.heap.size = w6.heap.size) := by omega
  clear hb6 I5 CI
  go_wp2_with fail
  refine (unhide CE _).mono ?_
  rintro e w7 ⟨rfl, hb7⟩
  have hl6 := (Array.getElem?_eq_some_iff.1 (unhide I6).1).1
  have hG7 := (hb7.block w2.heap.size (by simp; omega)).trans ((Below.heap_alloc _ _ _ hl6).trans (unhide I6).1)
  have hB7 := ((unhide I6).2.2.alloc (unhide I6).2.2.size _).trans (hb7.mono (by have := (unhide I6).2.2.size; simp; omega))
  clear a0 a1 a2 a3 a4 a5
  obtain ⟨a0, a1, a2, a3, a4, a5⟩ := row6l hG7
  have I7 := hide hB7
  clear hb7 hG7 hB7 I6 hl6 CE
  go_wp2_with fail
  refine (unhide CH _).mono ?_
  rintro e w8 ⟨rfl, hb8⟩
  have I8 := hide ((unhide I7).trans (hb8.mono (unhide I7).size))
  clear hb8 I7 CH a0 a1 a2 a3 a4 a5
  go_wp2
  go_ret
  exact ⟨rfl, unhide I8⟩
end Go.Proofs.Ytholikngdkpjeaa
