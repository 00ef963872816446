/- Reply of both sides at whatever is handed in; and the law's own words on answers; what lay in memory stands. -/
import Derived.Test.YtkadbghglmlpkaaSpecRep2
import Derived.Test.YtkadbghglmlpkaaCfgArg
import Derived.Test.YtkadbghglmlpkaaOptEq
import Derived.Test.YtkadbghglmlpkaaOptMarks
namespace Go.Proofs.Ytkadbghglmlpkaa
open Go.RowKit
set_option maxHeartbeats 2000000 in
theorem specRepNo (m a g : Int) (p c d : Bool) (L : List Op.Opt) (v : Value) (w : World) (hm : L.length ≤ maxLen) (hL : HoldsO w v L) (h : cfgOk m a g = false ∨ Op.right L = false) :
    Calls Try.prog 12 #[cfgV m a g p c d, v] w fun e w' => e = .returned (.agg #[.int .i64 0, .slice none 0 0]) ∧ Below w.heap.size w w' := by
  have C1 := hide fun q => specCfg m a g p c d q
  obtain ⟨hs, q0, q1, hb0⟩ := start2r w (.cells #[.int .i64 m, .int .i64 a, .int .i64 g, .bool p, .bool c, .bool d] 26) (.cells #[.int .i64 0, .slice none 0 0] 34)
  have HQ := hide (And.intro hs (And.intro q0 (And.intro q1 hb0)))
  have C2 := hide fun q (hq : Below w.heap.size w q) => specRightAll v L q hm (hL.below hq rfl)
  obtain ⟨ad, cp, rfl⟩ := hL.form
  generalize L.length = n at *
  clear hs q0 q1 hb0 hL
  by_cases hc : cfgOk m a g = true
  · have hr : Op.right L = false := by
      rcases h with h | h
      · rw [hc] at h; cases h
      · exact h
    rw [hc] at C1
    rw [hr] at C2
    go_enter Try.func12, Try.ntmps12
    go_wp2_with fail
    refine (unhide C1 _).mono ?_
    rintro e w1 ⟨rfl, hb1⟩
    have hB1 := (unhide HQ).2.2.2.trans (hb1.mono (by rw [(unhide HQ).1]; omega))
    have hr1 := (hb1.block (w.heap.size + 1) (by rw [(unhide HQ).1]; omega)).trans (unhide HQ).2.2.1
    have H1 := hide (And.intro hB1 hr1)
    clear hB1 hr1 hb1 HQ
    go_wp2_with fail
    refine (unhide C2 _ (unhide H1).1).mono ?_
    rintro e w2 ⟨rfl, hb2⟩
    have hB2 := (unhide H1).1.trans (hb2.mono (unhide H1).1.size)
    have hr2 := (hb2.block (w.heap.size + 1) (Array.getElem?_eq_some_iff.1 (unhide H1).2).1).trans (unhide H1).2
    obtain ⟨c0, c1, f0, f1⟩ := row2x hr2
    have H2 := hide (And.intro hB2 hr2)
    clear hB2 hr2 hb2 H1
    go_wp2
    refine bodyPost_ret (v := .agg #[.int .i64 0, .slice none 0 0]) (by simp [results, Try.results12, asAddr, loadAn (set2_at (unhide H2).2 (.int .i64 0) (.slice none 0 0))]) rfl ⟨rfl, ?_⟩
    exact ((unhide H2).1.setCell (p := ⟨w.heap.size + 1, 0, none⟩) (Nat.le_succ _) _).setCell (p := ⟨w.heap.size + 1, 1, none⟩) (Nat.le_succ _) _
  · rw [Bool.not_eq_true] at hc
    rw [hc] at C1
    clear C2
    go_enter Try.func12, Try.ntmps12
    go_wp2_with fail
    refine (unhide C1 _).mono ?_
    rintro e w1 ⟨rfl, hb1⟩
    have hB2 := (unhide HQ).2.2.2.trans (hb1.mono (by rw [(unhide HQ).1]; omega))
    have hr2 := (hb1.block (w.heap.size + 1) (by rw [(unhide HQ).1]; omega)).trans (unhide HQ).2.2.1
    obtain ⟨c0, c1, f0, f1⟩ := row2x hr2
    have H2 := hide (And.intro hB2 hr2)
    clear hB2 hr2 hb1 HQ
    go_wp2
    refine bodyPost_ret (v := .agg #[.int .i64 0, .slice none 0 0]) (by simp [results, Try.results12, asAddr, loadAn (set2_at (unhide H2).2 (.int .i64 0) (.slice none 0 0))]) rfl ⟨rfl, ?_⟩
    exact ((unhide H2).1.setCell (p := ⟨w.heap.size + 1, 0, none⟩) (Nat.le_succ _) _).setCell (p := ⟨w.heap.size + 1, 1, none⟩) (Nat.le_succ _) _
/-- What Reply answers: the code and the options. -/
def repF (m a g : Int) (p c d : Bool) (L : List Op.Opt) : Int × List Op.Opt :=
  if cfgOk m a g = true ∧ Op.right L = true then (mx (repV m.toNat a.toNat g.toNat p c d L), fl (mx (repV m.toNat a.toNat g.toNat p c d L)) (repV m.toNat a.toNat g.toNat p c d L)) else (0, [])
theorem repF_len (m a g : Int) (p c d : Bool) (L : List Op.Opt) : (repF m a g p c d L).2.length ≤ 20 := by
  unfold repF
  split
  · next h =>
    refine Nat.le_trans (fl_len _ _) ?_
    unfold repV
    rw [vdl_len]
    exact Op.right_len h.2
  · exact Nat.zero_le _
theorem cfg_nat {m a g : Int} (h : cfgOk m a g = true) : ((m.toNat : Nat) : Int) = m ∧ ((a.toNat : Nat) : Int) = a ∧ ((g.toNat : Nat) : Int) = g := by
  simp only [cfgOk, within, Bool.and_eq_true, decide_eq_true_eq] at h
  omega
theorem implRepAll (m a g : Int) (p c d : Bool) (L : List Op.Opt) (v : Value) (w : World) (hm : L.length ≤ maxLen) (hL : HoldsO w v L) :
    Calls Try.prog 14 #[cfgV m a g p c d, v] w fun e w' => ∃ ad cp, e = .returned (.agg #[.int .i64 (repF m a g p c d L).1, .slice ad (repF m a g p c d L).2.length cp]) ∧ w'.ownsRow w.heap.size 54 2 (.slice ad (repF m a g p c d L).2.length cp) (repF m a g p c d L).2.length (ocells (repF m a g p c d L).2) ∧ Below w.heap.size w w' := by
  by_cases h : cfgOk m a g = true ∧ Op.right L = true
  · rw [show repF m a g p c d L = (mx (repV m.toNat a.toNat g.toNat p c d L), fl (mx (repV m.toNat a.toNat g.toNat p c d L)) (repV m.toNat a.toNat g.toNat p c d L)) from if_pos h]
    obtain ⟨e1, e2, e3⟩ := cfg_nat h.1
    have := implRepYes m.toNat a.toNat g.toNat p c d L v w hL (by rw [e1, e2, e3]; exact h.1) h.2
    rw [e1, e2, e3] at this
    exact this
  · rw [show repF m a g p c d L = (0, []) from if_neg h]
    refine (implRepNo m a g p c d L v w hm hL ?_).mono fun e w' ⟨h1, h2⟩ => ⟨none, 0, h1, ⟨rfl, Or.inl ⟨rfl, rfl⟩⟩, h2⟩
    cases h1 : cfgOk m a g
    · exact Or.inl rfl
    · right
      cases h2 : Op.right L
      · rfl
      · exact absurd ⟨h1, h2⟩ h
theorem specRepAll (m a g : Int) (p c d : Bool) (L : List Op.Opt) (v : Value) (w : World) (hm : L.length ≤ maxLen) (hL : HoldsO w v L) :
    Calls Try.prog 12 #[cfgV m a g p c d, v] w fun e w' => ∃ ad cp, e = .returned (.agg #[.int .i64 (repF m a g p c d L).1, .slice ad (repF m a g p c d L).2.length cp]) ∧ w'.ownsRow w.heap.size 54 2 (.slice ad (repF m a g p c d L).2.length cp) (repF m a g p c d L).2.length (ocells (repF m a g p c d L).2) ∧ Below w.heap.size w w' := by
  by_cases h : cfgOk m a g = true ∧ Op.right L = true
  · rw [show repF m a g p c d L = (mx (repV m.toNat a.toNat g.toNat p c d L), fl (mx (repV m.toNat a.toNat g.toNat p c d L)) (repV m.toNat a.toNat g.toNat p c d L)) from if_pos h]
    obtain ⟨e1, e2, e3⟩ := cfg_nat h.1
    obtain ⟨ad, cp, rfl⟩ := hL.form
    have := specRepYes m.toNat a.toNat g.toNat p c d L ad cp w hL (by rw [e1, e2, e3]; exact h.1) h.2
    rw [e1, e2, e3] at this
    exact this
  · rw [show repF m a g p c d L = (0, []) from if_neg h]
    refine (specRepNo m a g p c d L v w hm hL ?_).mono fun e w' ⟨h1, h2⟩ => ⟨none, 0, h1, ⟨rfl, Or.inl ⟨rfl, rfl⟩⟩, h2⟩
    cases h1 : cfgOk m a g
    · exact Or.inl rfl
    · right
      cases h2 : Op.right L
      · rfl
      · exact absurd ⟨h1, h2⟩ h
set_option maxHeartbeats 2000000 in
theorem markAn (F : List Op.Opt) (c : Int) (ad : Option Addr) (cp : Nat) (w : World) (hF : F.length ≤ 400) (h : HoldsO w (.slice ad F.length cp) F) :
    Calls Try.prog 16 #[.agg #[.int .i64 c, .slice ad F.length cp], .int .i64 1] w fun e w' => e = .returned (.int .i64 ((1 + 2 * F.length : Nat) : Int)) ∧ HoldsO w' (.slice ad F.length cp) (mfd 1 F.length) ∧ But (Value.slice ad F.length cp).ownBlock w w' ∧ (F = [] → Below w.heap.size w w') := by
  have C := hide fun o => markF (.slice ad F.length cp) F (w.alloc o) (by omega) (h.below ((Below.refl _ _).alloc (Nat.le_refl _) o) rfl)
  go_enter Try.func16, Try.ntmps16
  go_wp2_with fail
  refine (unhide C _).mono ?_
  rintro e w2 ⟨rfl, hh2, hb2, hb2'⟩
  go_wp2
  go_ret
  refine ⟨rfl, hh2, ⟨hb2.os, hb2.tape, hb2.output, Nat.le_trans (by simp) hb2.size, fun b hb hne => (hb2.block b (by simp; omega) hne).trans (Below.heap_alloc _ _ _ hb)⟩, fun hF0 => ((Below.refl _ _).alloc (Nat.le_refl _) _).trans ((hb2' hF0).mono (by simp))⟩
set_option maxHeartbeats 2000000 in
theorem heldAn (F : List Op.Opt) (c : Int) (ad : Option Addr) (cp : Nat) (w : World) (hF : F.length ≤ 400) (h : HoldsO w (.slice ad F.length cp) (mfd 1 F.length)) :
    Calls Try.prog 17 #[.agg #[.int .i64 c, .slice ad F.length cp], .int .i64 1] w fun e w' => e = .returned (.int .i64 ((1 + 2 * F.length : Nat) : Int)) ∧ Below w.heap.size w w' := by
  have C := hide fun o => heldF (.slice ad F.length cp) F.length (w.alloc o) (by omega) (h.below ((Below.refl _ _).alloc (Nat.le_refl _) o) rfl)
  obtain ⟨K, hK⟩ : ∃ K : Nat, 1 + 2 * F.length = K := ⟨_, rfl⟩
  rw [hK] at C ⊢
  have d1 : ¬ ((K : Int) < 0) := by omega
  clear hK
  go_enter Try.func17, Try.ntmps17
  go_wp2_with fail
  refine (unhide C _).mono ?_
  rintro e w2 ⟨rfl, hb2⟩
  go_wp2
  go_ret
  exact ⟨rfl, ((Below.refl _ _).alloc (Nat.le_refl _) _).trans (hb2.mono (by simp))⟩
set_option maxHeartbeats 2000000 in
theorem eqAn (F : List Op.Opt) (c : Int) (ad1 ad2 : Option Addr) (cp1 cp2 : Nat) (w : World) (hF : F.length ≤ 400) (h1 : HoldsO w (.slice ad1 F.length cp1) F) (h2 : HoldsO w (.slice ad2 F.length cp2) F) :
    Calls Try.prog 15 #[.agg #[.int .i64 c, .slice ad1 F.length cp1], .agg #[.int .i64 c, .slice ad2 F.length cp2]] w fun e w' => e = .returned (.bool true) ∧ Below w.heap.size w w' := by
  obtain ⟨hs, q0, q1, hb0⟩ := start2r w (.cells #[.int .i64 c, .slice ad1 F.length cp1] 34) (.cells #[.int .i64 c, .slice ad2 F.length cp2] 34)
  have HB := hide (And.intro hs hb0)
  have C := hide (eqS _ _ F ((w.alloc (.cells #[.int .i64 c, .slice ad1 F.length cp1] 34)).alloc (.cells #[.int .i64 c, .slice ad2 F.length cp2] 34)) (by omega) (h1.below hb0 rfl) (h2.below hb0 rfl))
  clear hs q0 q1 hb0 h1 h2
  go_enter Try.func15, Try.ntmps15
  go_wp2_with fail
  refine (unhide C).mono ?_
  rintro e w2 ⟨rfl, hb2⟩
  have hb := (unhide HB).2.trans (hb2.mono (by rw [(unhide HB).1]; omega))
  clear hb2 C HB
  go_wp2
  go_ret
  exact ⟨rfl, hb⟩
end Go.Proofs.Ytkadbghglmlpkaa
