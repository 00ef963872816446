/- The program's Reply; what lay in memory stands, and the answer's row is its own. -/
import Derived.Test.YtkadbghglmlpkaaAnsOf
namespace Go.Proofs.Ytkadbghglmlpkaa
open Go.RowKit
/-- What Reply answers to right options. -/
def repV (m a g : Nat) (p c d : Bool) (L : List Op.Opt) : List (Int × Op.Opt) := vdl m a g p c d L L.length
theorem cfg_bd {m a g : Nat} (h : cfgOk m a g = true) : a < 4294967296 ∧ g < 4294967296 := by
  simp only [cfgOk, within, Bool.and_eq_true, decide_eq_true_eq] at h
  omega
set_option maxHeartbeats 2000000 in
theorem implRepNo (m a g : Int) (p c d : Bool) (L : List Op.Opt) (v : Value) (w : World) (hm : L.length ≤ maxLen) (hL : HoldsO w v L) (h : cfgOk m a g = false ∨ Op.right L = false) :
    Calls Try.prog 14 #[cfgV m a g p c d, v] w fun e w' => e = .returned (.agg #[.int .i64 0, .slice none 0 0]) ∧ Below w.heap.size w w' := by
  have C1 := hide fun q => implCfg m a g p c d q
  obtain ⟨hs, q0, q1, hb0⟩ := start2r w (.cells #[.int .i64 m, .int .i64 a, .int .i64 g, .bool p, .bool c, .bool d] 26) (.cells #[.int .i64 0, .slice none 0 0] 34)
  have HQ := hide (And.intro hs (And.intro q0 (And.intro q1 hb0)))
  have C2 := hide fun q (hq : Below w.heap.size w q) => implRightAll v L q hm (hL.below hq rfl)
  obtain ⟨ad, cp, rfl⟩ := hL.form
  generalize L.length = n at *
  clear hs q0 q1 hb0 hL
  by_cases hc : cfgOk m a g = true
  · have hr : Op.right L = false := by
      rcases h with h | h
      · rw [hc] at h; cases h
      · exact h
    rw [hc] at C1
    rw [hr] at C2
    go_enter Try.func14, Try.ntmps14
    go_wp2_with fail
    refine (unhide C1 _).mono ?_
    rintro e w1 ⟨rfl, hb1⟩
    have hB1 := (unhide HQ).2.2.2.trans (hb1.mono (by rw [(unhide HQ).1]; omega))
    have hr1 := (hb1.block (w.heap.size + 1) (by rw [(unhide HQ).1]; omega)).trans (unhide HQ).2.2.1
    have H1 := hide (And.intro hB1 hr1)
    clear hB1 hr1 hb1 HQ
    go_wp2_with fail
    refine (unhide C2 _ (unhide H1).1).mono ?_
    rintro e w2 ⟨rfl, hb2⟩
    have hB2 := (unhide H1).1.trans (hb2.mono (unhide H1).1.size)
    have hr2 := (hb2.block (w.heap.size + 1) (Array.getElem?_eq_some_iff.1 (unhide H1).2).1).trans (unhide H1).2
    obtain ⟨c0, c1, f0, f1⟩ := row2x hr2
    have H2 := hide (And.intro hB2 hr2)
    clear hB2 hr2 hb2 H1
    go_wp2
    refine bodyPost_ret (v := .agg #[.int .i64 0, .slice none 0 0]) (by simp [results, Try.results14, asAddr, loadAn (set2_at (unhide H2).2 (.int .i64 0) (.slice none 0 0))]) rfl ⟨rfl, ?_⟩
    exact ((unhide H2).1.setCell (p := ⟨w.heap.size + 1, 0, none⟩) (Nat.le_succ _) _).setCell (p := ⟨w.heap.size + 1, 1, none⟩) (Nat.le_succ _) _
  · rw [Bool.not_eq_true] at hc
    rw [hc] at C1
    clear C2
    go_enter Try.func14, Try.ntmps14
    go_wp2_with fail
    refine (unhide C1 _).mono ?_
    rintro e w1 ⟨rfl, hb1⟩
    have hB2 := (unhide HQ).2.2.2.trans (hb1.mono (by rw [(unhide HQ).1]; omega))
    have hr2 := (hb1.block (w.heap.size + 1) (by rw [(unhide HQ).1]; omega)).trans (unhide HQ).2.2.1
    obtain ⟨c0, c1, f0, f1⟩ := row2x hr2
    have H2 := hide (And.intro hB2 hr2)
    clear hB2 hr2 hb1 HQ
    go_wp2
    refine bodyPost_ret (v := .agg #[.int .i64 0, .slice none 0 0]) (by simp [results, Try.results14, asAddr, loadAn (set2_at (unhide H2).2 (.int .i64 0) (.slice none 0 0))]) rfl ⟨rfl, ?_⟩
    exact ((unhide H2).1.setCell (p := ⟨w.heap.size + 1, 0, none⟩) (Nat.le_succ _) _).setCell (p := ⟨w.heap.size + 1, 1, none⟩) (Nat.le_succ _) _
set_option maxHeartbeats 4000000 in
theorem implRepYes (m a g : Nat) (p c d : Bool) (L : List Op.Opt) (v : Value) (w : World) (hL : HoldsO w v L) (hc : cfgOk m a g = true) (hr : Op.right L = true) :
    Calls Try.prog 14 #[cfgV m a g p c d, v] w fun e w' => ∃ ad cp, e = .returned (.agg #[.int .i64 (mx (repV m a g p c d L)), .slice ad (fl (mx (repV m a g p c d L)) (repV m a g p c d L)).length cp]) ∧ w'.ownsRow w.heap.size 54 2 (.slice ad (fl (mx (repV m a g p c d L)) (repV m a g p c d L)).length cp) (fl (mx (repV m a g p c d L)) (repV m a g p c d L)).length (ocells (fl (mx (repV m a g p c d L)) (repV m a g p c d L))) ∧ Below w.heap.size w w' := by
  have hl20 := Op.right_len hr
  have hm : L.length ≤ maxLen := by unfold maxLen; omega
  obtain ⟨ha, hg⟩ := cfg_bd hc
  have C1 := hide fun q => implCfg m a g p c d q
  obtain ⟨hs, q0, q1, hb0⟩ := start2r w (.cells #[.int .i64 m, .int .i64 a, .int .i64 g, .bool p, .bool c, .bool d] 26) (.cells #[.int .i64 0, .slice none 0 0] 34)
  have HQ := hide (And.intro hs (And.intro q0 (And.intro q1 hb0)))
  have C2 := hide fun q (hq : Below w.heap.size w q) => implRightAll v L q hm (hL.below hq rfl)
  obtain ⟨ad, cp, rfl⟩ := hL.form
  have C3 := hide fun q (hq : Below w.heap.size w q) => verdOn m a g p c d L ad cp q ha hg hr (hL.below hq rfl)
  have hVl : (repV m a g p c d L).length = L.length := vdl_len _ _ _ _ _ _ _ _
  change Hid (∀ q, Below w.heap.size w q → Calls _ _ _ q fun e w' => ∃ v, e = .returned v ∧ VRow q.heap.size (repV m a g p c d L) v w' ∧ Below q.heap.size q w') at C3
  generalize repV m a g p c d L = V at *
  have C4 := hide fun v q hv => ansOf_any V v q (by omega) hv
  clear hVl
  rw [hc] at C1
  rw [hr] at C2
  generalize L.length = n at *
  generalize mx V = X at *
  generalize fl X V = F at *
  clear hs q0 q1 hb0 hL
  go_enter Try.func14, Try.ntmps14
  go_wp2_with fail
  refine (unhide C1 _).mono ?_
  rintro e w1 ⟨rfl, hb1⟩
  have hB1 := (unhide HQ).2.2.2.trans (hb1.mono (by rw [(unhide HQ).1]; omega))
  have hr1 := (hb1.block (w.heap.size + 1) (by rw [(unhide HQ).1]; omega)).trans (unhide HQ).2.2.1
  have hc1 := (hb1.block w.heap.size (by rw [(unhide HQ).1]; omega)).trans (unhide HQ).2.1
  have H1 := hide (And.intro hB1 (And.intro hr1 hc1))
  clear hB1 hr1 hb1 HQ hc1 C1
  go_wp2_with fail
  refine (unhide C2 _ (unhide H1).1).mono ?_
  rintro e w2 ⟨rfl, hb2⟩
  have hB2 := (unhide H1).1.trans (hb2.mono (unhide H1).1.size)
  have hr2 := (hb2.block (w.heap.size + 1) (Array.getElem?_eq_some_iff.1 (unhide H1).2.1).1).trans (unhide H1).2.1
  have hc2 := (hb2.block w.heap.size (Array.getElem?_eq_some_iff.1 (unhide H1).2.2).1).trans (unhide H1).2.2
  obtain ⟨b0, b1, b2, b3, b4, b5⟩ := row6 hc2
  have H2 := hide (And.intro hB2 hr2)
  clear hB2 hr2 hb2 H1 hc2 C2
  go_wp2_with fail
  refine (unhide C3 _ (unhide H2).1).mono ?_
  rintro e w3 ⟨v3, rfl, hv3, hb3⟩
  have hB3 := (unhide H2).1.trans (hb3.mono (unhide H2).1.size)
  have hr3 := (hb3.block (w.heap.size + 1) (Array.getElem?_eq_some_iff.1 (unhide H2).2).1).trans (unhide H2).2
  have H3 := hide (And.intro hB3 hr3)
  have HV3 : Hid (VRow 0 V v3 w3) := hide (by obtain ⟨G, cur, e1, e2, e3⟩ := hv3; exact ⟨G, cur, e1, Nat.zero_le _, e3⟩)
  obtain ⟨G, cur, rfl, _, _⟩ := hv3
  clear hB3 hr3 hb3 H2 C3 b0 b1 b2 b3 b4 b5
  go_wp2_with fail
  refine (unhide C4 _ _ (unhide HV3)).mono ?_
  rintro e w4 ⟨ad4, cp4, rfl, ho4, hb4⟩
  have hB4 := (unhide H3).1.trans (hb4.mono (unhide H3).1.size)
  have hl3 : w.heap.size + 1 < w3.heap.size := (Array.getElem?_eq_some_iff.1 (unhide H3).2).1
  have hr4 := (hb4.block (w.heap.size + 1) hl3).trans (unhide H3).2
  obtain ⟨c0, c1, f0, f1⟩ := row2x hr4
  have H4 := hide (And.intro hB4 (And.intro hr4 ho4))
  clear hB4 hr4 hb4 H3 ho4 C4 HV3
  go_wp2
  refine bodyPost_ret (v := .agg #[.int .i64 X, .slice ad4 F.length cp4]) (by simp [results, Try.results14, asAddr, loadAn (set2_at (unhide H4).2.1 (.int .i64 X) (.slice ad4 F.length cp4))]) rfl ⟨ad4, cp4, rfl, ?_, ?_⟩
  · refine own_lower (own_same (unhide H4).2.2 fun q hq _ => ?_) (by omega)
    rw [Below.heap_setCell _ _ _ _ (by simp; omega), Below.heap_setCell _ _ _ _ (by simp; omega)]
  · exact ((unhide H4).1.setCell (p := ⟨w.heap.size + 1, 0, none⟩) (Nat.le_succ _) _).setCell (p := ⟨w.heap.size + 1, 1, none⟩) (Nat.le_succ _) _
end Go.Proofs.Ytkadbghglmlpkaa
