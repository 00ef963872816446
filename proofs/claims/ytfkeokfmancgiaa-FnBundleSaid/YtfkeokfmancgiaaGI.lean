/- What BundleHear answers is right, in plain mathematics; no condition. Two rows of texts compared by the law (lwTexts): those of the same texts are the same; what lay in memory stands. -/
import Derived.Test.YtfkeokfmancgiaaBdHr
import Derived.Test.YtfkeokfmancgiaaStrRow
import Derived.Test.YtfkeokfmancgiaaInts
namespace Go.Proofs.Ytfkeokfmancgiaa
open Go.RowKit
theorem ptOk_of {F : List Fg} (h1 : F.length ≤ 40) (h2 : Ris F) (h3 : ∀ f ∈ F, fgOk f = true) : ptOk F := by
  refine ⟨h1, fun i hi => ⟨h3 _ (List.getElem_mem hi), ?_⟩⟩
  unfold preS
  split
  · have := (of_decide_eq_true (h3 _ (List.getElem_mem hi))).1.1
    omega
  · have e : F[i - 1]? = some (F[i - 1]'(by omega)) := List.getElem?_eq_getElem (by omega)
    rw [e]
    unfold Ris at h2
    rw [List.pairwise_iff_getElem] at h2
    exact h2 (i - 1) i (by omega) hi (by omega)
theorem bdOk_of {L : List Int} {F : List Fg} (h1 : lnOk L) (h2 : ptOk F) : bdOk L F = true := @decide_eq_true _ (_) ⟨h1, h2⟩
/-- A right bundle that hears a right part stays right. -/
theorem okB_right {L : List Int} {F : List Fg} {i : Nat} {f : Fg} (h : bdOk L F = true) (hf : fgOk f = true) : bdOk (okB L F i f).L (okB L F i f).F = true := by
  obtain ⟨hL, hF⟩ := bdOk_ok h
  have hfo := (of_decide_eq_true hf).1
  unfold okB
  dsimp only
  generalize minP (((L.set i f.seq)[0]?).getD 0) (L.set i f.seq) = m
  have hr := putP_ris f (ptOk_ris hF)
  have ho := putP_ok (ptOk_mem hF) hf
  have hs := settle_sub m _ (-1) (putP F f) (Nat.le_refl _)
  generalize settleP m (-1) (putP F f) = S at hs
  refine bdOk_of ⟨by rw [List.length_set]; exact hL.1, fun j hj => ?_⟩ (ptOk_of (by rw [List.length_drop]; omega) ?_ fun g hg => ho g (hs.subset (List.mem_of_mem_drop hg)))
  · rw [List.getElem_set]
    split
    · omega
    · exact hL.2 j (by rw [List.length_set] at hj; exact hj)
  · exact List.Pairwise.sublist ((List.drop_sublist _ _).trans hs) hr
theorem okB_link {L : List Int} {F : List Fg} {i : Nat} {f : Fg} (hi : i < L.length) : (okB L F i f).L[i]? = some f.seq := by
  show (L.set i f.seq)[i]? = _
  rw [List.getElem?_set_self hi]
end Go.Proofs.Ytfkeokfmancgiaa
namespace Go.Proofs.Ytfkeokfmancgiaa
open Go.RowKit
set_option maxHeartbeats 1000000 in
theorem lwT (v1 v2 : Value) (L : List ByteArray) (w : World) (hn : L.length ≤ 2000000) (h1 : HoldsT w v1 L) (h2 : HoldsT w v2 L) :
    Calls Try.prog 19 #[v1, v2] w fun e w' => e = .returned (.bool true) ∧ Below w.heap.size w w' := by
  have HA : Hid (∀ i (hi : i < L.length), (∃ g1, v1.ownBlock = some g1 ∧ (∃ cp, v1 = .slice (some ⟨g1, 0, none⟩) L.length cp) ∧ g1 < w.heap.size ∧ w.cell? ⟨g1, i, none⟩ = some (.string L[i])) ∧ ∃ g2, (∃ cp, v2 = .slice (some ⟨g2, 0, none⟩) L.length cp) ∧ g2 < w.heap.size ∧ w.cell? ⟨g2, i, none⟩ = some (.string L[i])) := by
    refine hide fun i hi => ⟨?_, ?_⟩
    · rcases h1 with ⟨_, _, _, e⟩ | ⟨g, cp, cur, e, q1, q2, q3⟩
      · rw [e] at hi; exact absurd hi (Nat.not_lt_zero _)
      · exact ⟨g, by rw [e]; rfl, ⟨cp, e⟩, (Array.getElem?_eq_some_iff.1 q1).1, by rw [cell_of_row _ _ _ _ _ _ q1, q3 i hi]; exact scells_get L i _ (List.getElem?_eq_getElem hi)⟩
    · rcases h2 with ⟨_, _, _, e⟩ | ⟨g, cp, cur, e, q1, q2, q3⟩
      · rw [e] at hi; exact absurd hi (Nat.not_lt_zero _)
      · exact ⟨g, ⟨cp, e⟩, (Array.getElem?_eq_some_iff.1 q1).1, by rw [cell_of_row _ _ _ _ _ _ q1, q3 i hi]; exact scells_get L i _ (List.getElem?_eq_getElem hi)⟩
  obtain ⟨a1, c1, rfl⟩ := h1.form
  obtain ⟨a2, c2, rfl⟩ := h2.form
  obtain ⟨n, hL⟩ : ∃ n, L.length = n := ⟨_, rfl⟩
  rw [hL] at hn ⊢
  clear h1 h2
  go_enter Try.func19, Try.ntmps19
  go_wp2_with fail
  go_loopw [5] (fun y wr => ∃ (i : Nat), i ≤ n ∧ y = .int .i64 i ∧ Below w.heap.size w wr) (fun y _ => n - (intOf y).toNat)
  case atStart => exact ⟨0, Nat.zero_le _, rfl, Below.refl _ _⟩
  case round =>
    obtain ⟨i, hi, rfl, hb⟩ := hrel
    by_cases hlt : i < n
    · have d1 : (i : Int) < (n : Int) := by omega
      have d0 : (0 : Int) ≤ (i : Int) := by omega
      obtain ⟨⟨g1, _, ⟨cp1, e1⟩, hg1, k1⟩, g2, ⟨cp2, e2⟩, hg2, k2⟩ := unhide HA i (by omega)
      cases e1
      cases e2
      replace k1 := (hb.cell (p := ⟨g1, i, none⟩) hg1).trans k1
      replace k2 := (hb.cell (p := ⟨g2, i, none⟩) hg2).trans k2
      generalize L[i]'(by omega) = t at *
      have HB := hide hb
      clear hb HA
      go_wp2_with fail
      go_quiet (fail)
      go_wp2_with fail
      go_roundw
      case rel => exact ⟨i + 1, by omega, by go_num, (unhide HB).os, (unhide HB).tape, (unhide HB).output, (unhide HB).size, (unhide HB).block⟩
      case measure => simp [intOf]; omega
    · have e : i = n := by omega
      subst e
      have d1 : ¬ ((i : Int) < (i : Int)) := by omega
      go_wp2
      go_ret
      exact ⟨rfl, hb⟩
end Go.Proofs.Ytfkeokfmancgiaa
