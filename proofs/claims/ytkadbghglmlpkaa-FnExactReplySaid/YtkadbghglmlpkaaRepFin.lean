/- What Reply answers, by its worst code, as mathematics; no program, no condition. -/
import Derived.Test.YtkadbghglmlpkaaAnsOf
namespace Go.Proofs.Ytkadbghglmlpkaa
theorem mx_go (l : List (Int × Op.Opt)) (b : Int) : b ≤ l.foldl (fun m v => max m v.1) b ∧ (∀ v ∈ l, v.1 ≤ l.foldl (fun m v => max m v.1) b) ∧ (l.foldl (fun m v => max m v.1) b = b ∨ ∃ v ∈ l, l.foldl (fun m v => max m v.1) b = v.1) := by
  induction l generalizing b with
  | nil => simp
  | cons x l ih =>
    rw [List.foldl_cons]
    obtain ⟨h1, h2, h3⟩ := ih (max b x.1)
    refine ⟨by omega, fun v hv => ?_, ?_⟩
    · rcases List.mem_cons.1 hv with rfl | hv
      · omega
      · exact h2 v hv
    · rcases h3 with h3 | ⟨v, hv, h3⟩
      · rw [h3]
        by_cases hb : x.1 ≤ b
        · left; omega
        · right; exact ⟨x, by simp, by omega⟩
      · right; exact ⟨v, by simp [hv], h3⟩
theorem fl_nil {x : Int} {l : List (Int × Op.Opt)} (h : fl x l = []) : ∀ v ∈ l, v.1 ≠ x := by
  intro v hv e
  have : v.2 ∈ fl x l := by
    unfold fl
    exact List.mem_map.2 ⟨v, List.mem_filter.2 ⟨hv, by simp [e]⟩, rfl⟩
  rw [h] at this
  cases this
theorem fl_some {x : Int} {l : List (Int × Op.Opt)} (h : fl x l ≠ []) : ∃ v ∈ l, v.1 = x := by
  obtain ⟨o, ho⟩ := List.exists_mem_of_ne_nil _ h
  unfold fl at ho
  obtain ⟨v, hv, _⟩ := List.mem_map.1 ho
  obtain ⟨h1, h2⟩ := List.mem_filter.1 hv
  exact ⟨v, h1, by simpa using h2⟩
theorem one_code (m a g : Nat) (p c d : Bool) (o : Op.Opt) : ((one m a g p c d o).1 = 2 ∧ (one m a g p c d o).2 = o) ∨ (one m a g p c d o).1 = 3 ∨ (one m a g p c d o).1 = 4 := by
  unfold one
  split
  · rcases codeK_cases a g p c d o.kind (numOf o.data.data.toList) with h | h | h
    · left
      rw [h]
      exact ⟨rfl, rfl⟩
    · right; left; exact h
    · right; right; exact h
  · right; right; rfl
theorem vdAt_code (m a g : Nat) (p c d : Bool) (L : List Op.Opt) (i : Nat) (hi : i < L.length) : ((vdAt m a g p c d L i).1 = 2 ∧ (vdAt m a g p c d L i).2 = L[i]) ∨ (vdAt m a g p c d L i).1 = 3 ∨ (vdAt m a g p c d L i).1 = 4 := by
  rw [vdAt_lt m a g p c d L i hi]
  unfold verd
  split
  · right; right; rfl
  · exact one_code m a g p c d _
theorem vdl_mem {m a g : Nat} {p c d : Bool} {L : List Op.Opt} {n : Nat} {v : Int × Op.Opt} (h : v ∈ vdl m a g p c d L n) : ∃ i, i < n ∧ v = vdAt m a g p c d L i := by
  unfold vdl at h
  obtain ⟨i, hi, e⟩ := List.mem_map.1 h
  exact ⟨i, by simpa using hi, e.symm⟩
theorem vdl_get (m a g : Nat) (p c d : Bool) (L : List Op.Opt) (n i : Nat) (hi : i < n) : vdAt m a g p c d L i ∈ vdl m a g p c d L n := by
  unfold vdl
  exact List.mem_map.2 ⟨i, by simpa using hi, rfl⟩
theorem rep_fin (m a g : Nat) (p c d : Bool) (L : List Op.Opt) :
    (fl 4 (vdl m a g p c d L L.length) ≠ [] → mx (vdl m a g p c d L L.length) = 4) ∧ (fl 4 (vdl m a g p c d L L.length) = [] → fl 3 (vdl m a g p c d L L.length) ≠ [] → mx (vdl m a g p c d L L.length) = 3) ∧
      (fl 4 (vdl m a g p c d L L.length) = [] → fl 3 (vdl m a g p c d L L.length) = [] → mx (vdl m a g p c d L L.length) = 2 ∧ fl 2 (vdl m a g p c d L L.length) = L) := by
  have hc : ∀ v ∈ vdl m a g p c d L L.length, v.1 = 2 ∨ v.1 = 3 ∨ v.1 = 4 := by
    intro v hv
    obtain ⟨i, hi, rfl⟩ := vdl_mem hv
    rcases vdAt_code m a g p c d L i hi with h | h | h
    · exact Or.inl h.1
    · exact Or.inr (Or.inl h)
    · exact Or.inr (Or.inr h)
  have hall : ∀ n, n ≤ L.length → (∀ i, i < n → (vdAt m a g p c d L i).1 = 2) → fl 2 (vdl m a g p c d L n) = L.take n := by
    intro n
    induction n with
    | zero => intro _ _; rfl
    | succ n ih =>
      intro hn h
      rw [vdl_succ, fl_snoc, ih (by omega) fun i hi => h i (by omega), List.take_succ_eq_append_getElem (by omega), h n (by omega)]
      have := vdAt_code m a g p c d L n (by omega)
      rw [h n (by omega)] at this
      rcases this with ⟨_, e⟩ | e | e
      · rw [e]; rfl
      · cases e
      · cases e
  obtain ⟨h1, h2, h3⟩ := mx_go (vdl m a g p c d L L.length) 2
  replace h1 : 2 ≤ mx (vdl m a g p c d L L.length) := h1
  replace h2 : ∀ v ∈ (vdl m a g p c d L L.length), v.1 ≤ mx (vdl m a g p c d L L.length) := h2
  replace h3 : mx (vdl m a g p c d L L.length) = 2 ∨ ∃ v ∈ (vdl m a g p c d L L.length), mx (vdl m a g p c d L L.length) = v.1 := h3
  refine ⟨fun h => ?_, fun h4 h => ?_, fun h4 h3' => ?_⟩
  · obtain ⟨v, hv, e⟩ := fl_some h
    have := h2 v hv
    rcases h3 with h3 | ⟨u, hu, h3⟩
    · omega
    · have := hc u hu
      omega
  · obtain ⟨v, hv, e⟩ := fl_some h
    have := h2 v hv
    rcases h3 with h3 | ⟨u, hu, h3⟩
    · omega
    · have := hc u hu
      have := fl_nil h4 u hu
      omega
  · have h22 : ∀ i, i < L.length → (vdAt m a g p c d L i).1 = 2 := by
      intro i hi
      have hv := vdl_get m a g p c d L L.length i hi
      have := hc _ hv
      have := fl_nil h4 _ hv
      have := fl_nil h3' _ hv
      omega
    refine ⟨?_, by rw [hall L.length (Nat.le_refl _) h22, List.take_length]⟩
    rcases h3 with h3 | ⟨u, hu, h3⟩
    · exact h3
    · obtain ⟨i, hi, rfl⟩ := vdl_mem hu
      rw [h3, h22 i hi]
end Go.Proofs.Ytkadbghglmlpkaa
