/- The law FnExactCut walked: it returns true, and what lay in memory stands. -/
import Derived.Test.YtmcabmddnalihaaFgY
import Derived.Test.YtmcabmddnalihaaFgM
namespace Go.Proofs.Ytmcabmddnalihaa
open Go.RowKit
theorem cutF_len (t : ByteArray) (z q : Int) : (cutF t z q).length ≤ 40 := by
  unfold cutF
  split
  · split
    · rename_i h
      rw [cutL_len]
      exact h.1
    · exact Nat.zero_le _
  · exact Nat.zero_le _
/-- The two answers' rows. -/
structure InvP (w : World) (v0 v1 : Value) (F F1 : List Fg) (W : World) : Prop where
  h0 : HoldsG W v0 F
  h1 : HoldsG W v1 F1
  below : Below w.heap.size w W
theorem InvP.step {w : World} {v0 v1 : Value} {F F1 : List Fg} {W W' : World} (h : InvP w v0 v1 F F1 W) (hb : Below W.heap.size W W') : InvP w v0 v1 F F1 W' :=
  ⟨h.h0.below hb rfl, h.h1.below hb rfl, h.below.trans (hb.mono h.below.size)⟩
theorem InvP.but {w : World} {v0 v1 : Value} {F F1 F2 : List Fg} {W W' : World} (h : InvP w v0 v1 F F1 W) (hb : But v1.ownBlock W W') (h1 : HoldsG W' v1 F2)
    (n4 : ∀ g, v0.ownBlock = some g → v1.ownBlock ≠ some g) (n5 : ∀ g, v1.ownBlock = some g → w.heap.size ≤ g) : InvP w v0 v1 F F2 W' := by
  refine ⟨?_, h1, ?_⟩
  · refine h.h0.imp id fun ⟨g, cp, cur, e1, e2, e3⟩ => ⟨g, cp, cur, e1, (hb.block g (Array.getElem?_eq_some_iff.1 e2).1 (n4 g (by rw [e1]; rfl))).trans e2, e3⟩
  · have hs := h.below.size
    exact ⟨hb.os.trans h.below.os, hb.tape.trans h.below.tape, hb.output.trans h.below.output, Nat.le_trans hs hb.size, fun b hlt => (hb.block b (by omega) fun e => by have := n5 b e; omega).trans (h.below.block b hlt)⟩
set_option maxHeartbeats 4000000 in
theorem lawFgc (t : ByteArray) (z q : Int) (w : World) (ht : t.size ≤ maxLen) :
    Calls Try.prog 5 #[.string t, .int .i64 z, .int .i64 q] w fun e w' => e = .returned (.bool true) ∧ Below w.heap.size w w' := by
  have CM := hide fun v => sCut t z q v ht
  have CI := hide fun v => iCut t z q v ht
  have hF := cutF_len t z q
  generalize cutF t z q = F at *
  have CE := hide fun v1 v2 v => eqFgS v1 v2 F v (by omega)
  have CK := hide fun v1 v => markFgK v1 F 1 v (by omega) (by omega)
  have CH := hide fun v1 v => heldFgK v1 F.length 1 v (by omega) (by omega)
  obtain ⟨K, hK⟩ : ∃ K : Nat, 1 + 4 * F.length = K := ⟨_, rfl⟩
  rw [hK] at CK CH
  have d2 : ¬ ((K : Int) < 0) := by omega
  clear hK
  unfold maxLen at ht
  by_cases h1 : t.size ≤ 1048576
  · have d1 : ¬ ((1048576 : Int) < (t.size : Int)) := by omega
    go_enter Try.func5, Try.ntmps5
    go_wp2_with fail
    refine (unhide CM _).mono ?_
    rintro e w3 ⟨u0, rfl, hh0, hn0, hb3⟩
    have HR3 := hide (And.intro hh0 hb3)
    have hw0 : Hid (∀ g, u0.ownBlock = some g → u0.ownBlock = some g) := hide fun g h => h
    clear hh0 hb3 hn0 CM
    go_wp2_with fail
    refine (unhide CI _).mono ?_
    rintro e w5 ⟨u1, rfl, hh1, hn1, hb5⟩
    have HV : Hid (InvP w u0 u1 F F w5 ∧ (F ≠ [] → ∀ g, u0.ownBlock = some g → u1.ownBlock ≠ some g) ∧ ∀ g, u1.ownBlock = some g → w.heap.size ≤ g) := by
      obtain ⟨hh0, hb3⟩ := unhide HR3
      have hs3 := hb3.size
      refine hide ⟨⟨hh0.below hb5 rfl, hh1, hb3.trans (hb5.mono hb3.size)⟩, fun hne g hg e => ?_, fun g hg => ?_⟩
      · have k1 := hn1 g e
        rcases hh0 with ⟨_, _, _, h2⟩ | ⟨g', _, _, h1, h2, _⟩
        · exact hne h2
        · rw [h1] at hg
          have hgg : g' = g := by injection hg
          have := (Array.getElem?_eq_some_iff.1 h2).1
          omega
      · have k1 := hn1 g hg
        omega
    clear HR3 hh1 hn1 hb5
    go_wp2_with fail
    refine (unhide CE _ _ _ (unhide HV).1.h1 (unhide HV).1.h0).mono ?_
    rintro e w6 ⟨rfl, hb6⟩
    have HI6 := hide ((unhide HV).1.step hb6)
    clear hb6
    go_wp2_with fail
    refine (unhide CK _ _ (unhide HI6).h1).mono ?_
    rintro e w7 ⟨rfl, hh7, hb7, hb7'⟩
    have HI7 : Hid (InvP w u0 u1 F (mfg 1 F.length) w7) := by
      have hn := unhide HV
      by_cases hFe : F = []
      · have e7 := hb7' hFe
        subst e7
        exact hide ⟨(unhide HI6).h0, hh7, (unhide HI6).below⟩
      · exact hide ((unhide HI6).but hb7 hh7 (hn.2.1 hFe) hn.2.2)
    clear hb7 hb7' hh7 HI6 HV
    go_wp2_with fail
    refine (unhide CH _ _ (unhide HI7).h1).mono ?_
    rintro e w8 ⟨rfl, hb8⟩
    have HI8 := hide ((unhide HI7).step hb8)
    clear hb8 HI7
    go_wp2_with fail
    refine (unhide CI _).mono ?_
    rintro e w10 ⟨u2, rfl, hh2, hn2, hb10⟩
    have HI10 := hide (And.intro ((unhide HI8).step hb10) hh2)
    clear hh2 hn2 hb10 HI8
    go_wp2_with fail
    refine (unhide CE _ _ _ (unhide HI10).2 (unhide HI10).1.h0).mono ?_
    rintro e w11 ⟨rfl, hb11⟩
    have HI11 := hide ((unhide HI10).1.step hb11)
    clear hb11 HI10
    go_wp2_with fail
    refine (unhide CH _ _ (unhide HI11).h1).mono ?_
    rintro e w12 ⟨rfl, hb12'⟩
    have HI12 := hide ((unhide HI11).step hb12').below
    clear hb12' HI11
    go_wp2
    go_ret
    exact ⟨rfl, unhide HI12⟩
  · have d1 : (1048576 : Int) < (t.size : Int) := by omega
    go_enter Try.func5, Try.ntmps5
    go_wp2
    go_ret
    exact ⟨rfl, Below.refl _ _⟩
end Go.Proofs.Ytmcabmddnalihaa
