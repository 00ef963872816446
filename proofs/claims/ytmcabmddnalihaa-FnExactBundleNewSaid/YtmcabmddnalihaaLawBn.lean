/- The law FnExactBundleNew walked: it returns true, and what lay in memory stands. -/
import Derived.Test.YtmcabmddnalihaaBdN
namespace Go.Proofs.Ytmcabmddnalihaa
open Go.RowKit
theorem holdsI_ne {W : World} {v : Value} {L : List Int} {M : Nat} {cs : Array Value} (h : HoldsI W v L) (hm : W.heap[M]? = some (.cells cs 39)) : bkb L.length v ≠ some M := by
  intro e
  rcases h with ⟨ad, cp, _, e0⟩ | ⟨g', cp, cur, e1, q1, _⟩
  · rw [e0] at e
    cases e
  · have := bkb_own e
    rw [e1] at this
    have a1 : g' = M := by injection this
    rw [a1, hm] at q1
    simp only [Option.some.injEq, Obj.cells.injEq] at q1
    exact absurd q1.2.1 (by decide)
/-- What the law has laid. -/
structure InvN (w : World) (M G : Nat) (s0 s1 : Value) (L L1 : List Int) (W : World) : Prop where
  m : W.heap[M]? = some (.cells #[s0, .slice none 0 0] 39)
  g : W.heap[G]? = some (.cells #[s1, .slice none 0 0] 39)
  h0 : HoldsI W s0 L
  h1 : HoldsI W s1 L1
  below : Below w.heap.size w W
theorem InvN.step {w : World} {M G : Nat} {s0 s1 : Value} {L L1 : List Int} {W W' : World} (h : InvN w M G s0 s1 L L1 W) (hb : Below W.heap.size W W') : InvN w M G s0 s1 L L1 W' :=
  ⟨(hb.block _ (Array.getElem?_eq_some_iff.1 h.m).1).trans h.m, (hb.block _ (Array.getElem?_eq_some_iff.1 h.g).1).trans h.g, h.h0.below hb rfl, h.h1.below hb rfl, h.below.trans (hb.mono h.below.size)⟩
theorem InvN.but {w : World} {M G : Nat} {s0 s1 : Value} {L L2 : List Int} {W W' : World} (h : InvN w M G s0 s1 L L W) (hb : But2 (bkb L.length s1) none W W') (k : HoldsI W' s1 L2)
    (d : ∀ g, bkb L.length s0 = some g → bkb L.length s1 ≠ some g) (lo : ∀ g, bkb L.length s1 = some g → w.heap.size ≤ g) : InvN w M G s0 s1 L L2 W' := by
  have hs := h.below.size
  refine ⟨(hb.block _ (Array.getElem?_eq_some_iff.1 h.m).1 (holdsI_ne h.h1 h.m) (fun e => by cases e)).trans h.m, (hb.block _ (Array.getElem?_eq_some_iff.1 h.g).1 (holdsI_ne h.h1 h.g) (fun e => by cases e)).trans h.g, HoldsI.keep h.h0 (fun b hlt hne => hb.block b hlt hne (fun e => by cases e)) d, k, hb.os.trans h.below.os, hb.tape.trans h.below.tape, hb.output.trans h.below.output, Nat.le_trans hs hb.size, fun b hlt => (hb.block b (by omega) (fun e => by have := lo b e; omega) (fun e => by cases e)).trans (h.below.block b hlt)⟩
theorem bnL_len (x : Int) : (bnL x).length ≤ 8 := by
  unfold bnL
  split
  · rw [List.length_replicate]
    omega
  · exact Nat.zero_le _
theorem holdsG_none (w : World) : HoldsG w (.slice none 0 0) [] := Or.inl ⟨_, _, rfl, rfl⟩
set_option maxHeartbeats 4000000 in
theorem lawBn (x : Int) (w : World) : Calls Try.prog 6 #[.int .i64 x] w fun e w' => e = .returned (.bool true) ∧ Below w.heap.size w w' := by
  have CI := hide fun v => iBnew x v
  have CS := hide fun v => sBnew x v
  have hL := bnL_len x
  generalize bnL x = L at *
  have CE := hide fun a1 a2 c1 c2 v h1 h2 => eqBd a1 a2 none none c1 c2 0 0 L [] v (by omega) (by decide) h1 h2 (holdsG_none v) (holdsG_none v)
  have CK := hide fun a1 c1 v h1 => markBd a1 none c1 0 L [] 1 v (by decide) (by simp; omega) h1 (holdsG_none v)
  have CH := hide fun a1 c1 v h1 => heldBd a1 none c1 0 L.length 0 1 v (by decide) (by omega) h1 (holdsG_none v)
  rw [List.length_nil] at CE CK
  simp only [Nat.mul_zero, Nat.add_zero] at CK CH
  unfold AnB at CI CS
  have HD : Hid (∀ (s0 s1 : Value) (W : World) (N : Nat), HoldsI W s0 L → W.heap.size ≤ N → (∀ g, s1.ownBlock = some g → N ≤ g) → ∀ g, bkb L.length s0 = some g → bkb L.length s1 ≠ some g) := hide fun s0 s1 W N h hN hs g hg e => by
    have h1 := h.bk_lt g hg
    have h2 := hs g (bkb_own e)
    omega
  have HLo : Hid (∀ (s1 : Value) (N : Nat), (∀ g, s1.ownBlock = some g → N ≤ g) → ∀ g, bkb L.length s1 = some g → N ≤ g) := hide fun s1 N h g hg => h g (bkb_own hg)
  have HB : Hid (∀ (M G : Nat) (s0 s1 : Value) (W W' : World) (L2 : List Int), InvN w M G s0 s1 L L W → But2 (bkb L.length s1) (bkb 0 (.slice none 0 0)) W W' → HoldsI W' s1 L2 → (∀ g, bkb L.length s0 = some g → bkb L.length s1 ≠ some g) → (∀ g, bkb L.length s1 = some g → w.heap.size ≤ g) → InvN w M G s0 s1 L L2 W') := hide fun M G s0 s1 W W' L2 h hb k d lo => h.but hb k d lo
  generalize hn : L.length = n at *
  obtain ⟨K, hK⟩ : ∃ K, 1 + n = K := ⟨_, rfl⟩
  rw [hK] at CK CH
  have dK : ¬ ((K : Int) < 0) := by omega
  clear hK
  go_enter Try.func6, Try.ntmps6
  go_wp2_with fail
  refine (unhide CS _).mono ?_
  rintro e w1 ⟨a0, c0, rfl, hh0, hn0, hb1⟩
  have HR1 := hide (And.intro hh0 hb1)
  clear hh0 hn0 hb1 CS
  go_wp2_with fail
  refine (unhide CI _).mono ?_
  rintro e w2 ⟨a1, c1, rfl, hh1, hn1, hb2⟩
  have hM2 : w2.heap[w1.heap.size]? = some (.cells #[.slice a0 n c0, .slice none 0 0] 39) := (hb2.block w1.heap.size (by simp)).trans (heap_alloc_new w1 _)
  have hlt2 : w1.heap.size < w2.heap.size := (Array.getElem?_eq_some_iff.1 hM2).1
  have HV : Hid (InvN w w1.heap.size w2.heap.size (.slice a0 n c0) (.slice a1 n c1) L L (w2.alloc (.cells #[.slice a1 n c1, .slice none 0 0] 39)) ∧ (∀ g, bkb n (.slice a0 n c0) = some g → bkb n (.slice a1 n c1) ≠ some g) ∧ ∀ g, bkb n (.slice a1 n c1) = some g → w.heap.size ≤ g) := by
    obtain ⟨hh0, hb1⟩ := unhide HR1
    have hs1 := hb1.size
    have hs : (w1.alloc (.cells #[.slice a0 n c0, .slice none 0 0] 39)).heap.size = w1.heap.size + 1 := by simp
    have hb12 : Below w1.heap.size w1 w2 := ((Below.refl _ _).alloc (Nat.le_refl _) _).trans (hb2.mono (by rw [hs]; omega))
    have hba : Below w2.heap.size w2 (w2.alloc (.cells #[.slice a1 n c1, .slice none 0 0] 39)) := (Below.refl _ _).alloc (Nat.le_refl _) _
    refine hide ⟨⟨(hba.block _ hlt2).trans hM2, heap_alloc_new w2 _, (hh0.below hb12 rfl).below hba rfl, hh1.below hba rfl, (hb1.trans (hb12.mono hs1)).trans (hba.mono (by have := hb12.size; omega))⟩, ?_, ?_⟩
    · exact unhide HD _ _ w1 _ hh0 (by rw [hs]; omega) hn1
    · exact unhide HLo _ w.heap.size (fun g hg => by have := hn1 g hg; rw [hs] at this; omega)
  obtain ⟨m0, m1⟩ := row2b hM2
  have hne : ¬ (w1.heap.size = w2.heap.size) := by omega
  clear hM2 hh1 hn1 hb2 HR1 HD HLo
  go_wp2_with fail
  refine (unhide CE _ _ _ _ _ (unhide HV).1.h1 (unhide HV).1.h0).mono ?_
  rintro e w3 ⟨rfl, hb3⟩
  have I3 := hide ((unhide HV).1.step hb3)
  obtain ⟨g0, g1⟩ := row2b (unhide I3).g
  clear hb3 m0 m1
  go_wp2_with fail
  refine (unhide CK _ _ _ (unhide I3).h1).mono ?_
  rintro e w4 ⟨rfl, k4, _, b4⟩
  have I4 := hide (unhide HB _ _ _ _ _ _ _ (unhide I3) b4 k4 (unhide HV).2.1 (unhide HV).2.2)
  clear k4 b4 I3 HV HB g0 g1
  obtain ⟨g0, g1⟩ := row2b (unhide I4).g
  go_wp2_with fail
  refine (unhide CH _ _ _ (unhide I4).h1).mono ?_
  rintro e w5 ⟨rfl, hb5⟩
  have I5 := hide ((unhide I4).step hb5)
  clear hb5 I4 g0 g1
  go_wp2_with fail
  refine (unhide CI _).mono ?_
  rintro e w6 ⟨a2, c2, rfl, hh2, hn2, hb6⟩
  have hI6 := (unhide I5).step hb6
  have hba6 : Below w6.heap.size w6 (w6.alloc (.cells #[.slice a2 n c2, .slice none 0 0] 39)) := (Below.refl _ _).alloc (Nat.le_refl _) _
  have I6 := hide (And.intro (hI6.step hba6) (hh2.below hba6 rfl))
  obtain ⟨m0, m1⟩ := row2b hI6.m
  have hl6 : w1.heap.size < w6.heap.size := (Array.getElem?_eq_some_iff.1 hI6.m).1
  have hne6 : ¬ (w1.heap.size = w6.heap.size) := by omega
  clear hh2 hn2 hb6 hI6 hba6 I5
  go_wp2_with fail
  refine (unhide CE _ _ _ _ _ (unhide I6).2 (unhide I6).1.h0).mono ?_
  rintro e w7 ⟨rfl, hb7⟩
  have I7 := hide ((unhide I6).1.step hb7)
  obtain ⟨g0, g1⟩ := row2b (unhide I7).g
  clear hb7 I6 m0 m1
  go_wp2_with fail
  refine (unhide CH _ _ _ (unhide I7).h1).mono ?_
  rintro e w8 ⟨rfl, hb8⟩
  have I8 := hide ((unhide I7).step hb8).below
  clear hb8 I7 g0 g1
  go_wp2
  go_ret
  exact ⟨rfl, unhide I8⟩
end Go.Proofs.Ytmcabmddnalihaa
