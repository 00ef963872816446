/- What the law FnFsm asks of the automaton's table: closed facts over its 160 places; no condition. -/
import Derived.Test.YtlgbigfdokdgfaaDoorFsmI
import Derived.Test.YtlgbigfdokdgfaaDoorLwIn
namespace Go.Proofs.YtlgbigfdokdgfaaDoor
open Go.RowKit
theorem fsm_cases (x : Int) (t : ByteArray) : fsmF x t = (0, [], 2) ∨ fsmF x t = (0, [], 5) ∨ (fsmF x t = (0, [], 6) ∧ ∀ i : Nat, evTexts[i]? ≠ some t) ∨
    ∃ i k : Nat, evTexts[i]? = some t ∧ k < 10 ∧ x = (k : Int) ∧ fsmF x t = if nxtAt i k = -1 then ((k : Int), [], 8) else (nxtAt i k, wordsOf (actAt i k), 0) := by
  by_cases h1 : 8000 < t.size
  · exact Or.inl (if_pos h1)
  by_cases h2 : ¬ (0 ≤ x ∧ x ≤ 9)
  · exact Or.inr (Or.inl (by unfold fsmF; rw [if_neg h1, if_pos h2]))
  by_cases h3 : ∃ i : Nat, evTexts[i]? = some t
  · obtain ⟨i, hi⟩ := h3
    have h2' := Classical.not_not.1 h2
    obtain ⟨k, rfl⟩ : ∃ k : Nat, x = (k : Int) := ⟨x.toNat, by omega⟩
    exact Or.inr (Or.inr (Or.inr ⟨i, k, hi, by omega, rfl, (place_at hi (by omega)).1⟩))
  · have h4 : ∀ i : Nat, evTexts[i]? ≠ some t := fun i hi => h3 ⟨i, hi⟩
    exact Or.inr (Or.inr (Or.inl ⟨by unfold fsmF; rw [if_neg h1, if_neg h2, if_pos (rowOf_none h4)], h4⟩))
theorem inT_none {t : ByteArray} (h : ∀ i : Nat, evTexts[i]? ≠ some t) : inT evTexts t = false := by
  unfold inT
  rw [List.any_eq_false]
  intro y hy e
  have e2 := eq_of_beq e
  rw [ByteArray.toList_eq, ByteArray.toList_eq] at e2
  have : y = t := ByteArray.ext (Array.toList_inj.1 e2)
  subst this
  obtain ⟨i, hi⟩ := List.getElem?_of_mem hy
  exact h i hi
theorem bt6 {x : Int} {t : ByteArray} {st c : Int} {F : List ByteArray} (hc : c = 6) (h : fsmF x t = (st, F, c)) : inT evTexts t = false := by
  subst hc
  rcases fsm_cases x t with e | e | ⟨e, hn⟩ | ⟨i, k, _, _, _, e⟩
  · rw [e] at h; cases h
  · rw [e] at h; cases h
  · exact inT_none hn
  · rw [e] at h
    split at h <;> cases h
theorem fsmR_len {x : Int} {t : ByteArray} {st c : Int} {F : List ByteArray} (h : fsmF x t = (st, F, c)) : F.length ≤ 1000000 := by
  rcases fsm_cases x t with e | e | ⟨e, hn⟩ | ⟨i, k, hi, hk, _, e⟩
  · rw [e] at h; cases h; decide
  · rw [e] at h; cases h; decide
  · rw [e] at h; cases h; decide
  · rw [e] at h
    split at h
    · cases h; decide
    · have := (place_at hi hk).2.1.2
      cases h
      omega
/-- Is a text among others, by the bytes. -/
def inD (L : List ByteArray) (t : ByteArray) : Bool := L.any fun x => x.data.toList == t.data.toList
theorem inT_eq (L : List ByteArray) (t : ByteArray) : inT L t = inD L t := by
  unfold inT inD
  simp only [ByteArray.toList_eq]
def tailOk (t : ByteArray) (k st : Int) (F : List ByteArray) : Bool :=
  decide (inD F ⟨#[116, 108, 117]⟩ = (k != 9 && st == 9)) && decide (inD F ⟨#[116, 108, 100]⟩ = (k == 9 && st != 9)) && (t.data.toList != [68, 111, 119, 110] || decide (st ≤ 1)) &&
    (k == 9 || st != 9 || (t.data.toList == [82, 67, 65] && k == 8) || (t.data.toList == [82, 67, 82, 43] && k == 7))
set_option maxRecDepth 100000 in
theorem tails : ((List.range 16).all fun i => (List.range 10).all fun k => nxtAt i k == -1 || tailOk (evTexts.getD i ⟨#[]⟩) (k : Int) (nxtAt i k) (wordsOf (actAt i k))) = true := by kernel_rfl
theorem fn_tail {x : Int} {t : ByteArray} {st : Int} {F : List ByteArray} (h : fsmF x t = (st, F, 0)) :
    inT F ⟨#[116, 108, 117]⟩ = (x != 9 && st == 9) ∧ inT F ⟨#[116, 108, 100]⟩ = (x == 9 && st != 9) ∧ (t.toList = [68, 111, 119, 110] → st ≤ 1) ∧ (x ≠ 9 → st = 9 → (t.toList = [82, 67, 65] ∧ x = 8) ∨ (t.toList = [82, 67, 82, 43] ∧ x = 7)) := by
  rcases fsm_cases x t with e | e | ⟨e, hn⟩ | ⟨i, k, hi, hk, rfl, e⟩
  · rw [e] at h; cases h
  · rw [e] at h; cases h
  · rw [e] at h; cases h
  · rw [e] at h
    split at h
    · cases h
    · next hx =>
      cases h
      have hi16 : i < 16 := (List.getElem?_eq_some_iff.1 hi).1
      have hT := List.all_eq_true.1 (List.all_eq_true.1 tails i (List.mem_range.2 hi16)) k (List.mem_range.2 hk)
      have e : evTexts.getD i ⟨#[]⟩ = t := by rw [List.getD_eq_getElem?_getD, hi]; rfl
      rw [e, beq_eq_false_iff_ne.2 hx, Bool.false_or] at hT
      unfold tailOk at hT
      rw [Bool.and_eq_true, Bool.and_eq_true, Bool.and_eq_true] at hT
      obtain ⟨⟨⟨h1, h2⟩, h3⟩, h4⟩ := hT
      rw [inT_eq, inT_eq, ByteArray.toList_eq]
      refine ⟨of_decide_eq_true h1, of_decide_eq_true h2, fun hd => ?_, fun h9 h9' => ?_⟩
      · rw [hd] at h3
        simpa using h3
      · rw [h9', beq_eq_false_iff_ne.2 h9] at h4
        simpa using h4
end Go.Proofs.YtlgbigfdokdgfaaDoor
