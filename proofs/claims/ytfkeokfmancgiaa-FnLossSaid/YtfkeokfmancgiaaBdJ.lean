/- Parts put one by one, and runs taken out: plain mathematics; no condition. -/
import Derived.Test.YtfkeokfmancgiaaBdX
namespace Go.Proofs.Ytfkeokfmancgiaa
open Go.RowKit
theorem putP_end {F : List Fg} {f : Fg} (h : ∀ g ∈ F, g.seq < f.seq) : putP F f = F ++ [f] := by
  induction F with
  | nil => rfl
  | cons g F ih =>
    unfold putP
    rw [if_pos (h g List.mem_cons_self), ih (fun x hx => h x (List.mem_cons_of_mem _ hx))]
    rfl
/-- Rising parts, put one by one, are what they were. -/
theorem puts_ris {P F : List Fg} (h : Ris (P ++ F)) : F.foldl putP P = P ++ F := by
  induction F generalizing P with
  | nil => simp
  | cons f F ih =>
    have h2 := h
    unfold Ris at h2
    rw [List.pairwise_append] at h2
    rw [List.foldl_cons, putP_end (fun g hg => h2.2.2 g hg f List.mem_cons_self), ih (by rw [List.append_assoc]; exact h)]
    simp
theorem delP_app (P F : List Fg) (n : Int) : delP (P ++ F) n = delP P n ++ delP F n := by
  unfold delP
  exact List.filter_append _ _
/-- A run taken out of the parts. -/
theorem dels_mid {P R S : List Fg} (h : Ris (P ++ R ++ S)) : dels R (P ++ R ++ S) = P ++ S := by
  induction R generalizing P with
  | nil => simp [dels]
  | cons f R ih =>
    have h2 := h
    unfold Ris at h2
    rw [List.append_assoc, List.pairwise_append] at h2
    obtain ⟨_, h3, h4⟩ := h2
    rw [List.cons_append] at h3 h4
    have e1 : delP P f.seq = P := delP_none (fun g hg => by have := h4 g hg f List.mem_cons_self; omega)
    have e2 : delP (f :: (R ++ S)) f.seq = R ++ S := del_head h3
    have e3 : delP (P ++ f :: R ++ S) f.seq = P ++ R ++ S := by
      rw [List.append_assoc, List.cons_append, delP_app, e1, e2, List.append_assoc]
    show dels R (delP (P ++ f :: R ++ S) f.seq) = P ++ S
    rw [e3]
    refine ih ?_
    rw [← e3]
    exact delP_ris _ h
/-- How many parts stand ahead of a number. -/
def posP : List Fg → Int → Nat
  | [], _ => 0
  | g :: l, n => if g.seq < n then posP l n + 1 else 0
theorem posP_le (F : List Fg) (n : Int) : posP F n ≤ F.length := by
  induction F with
  | nil => exact Nat.zero_le _
  | cons g F ih =>
    unfold posP
    split
    · simp; omega
    · exact Nat.zero_le _
theorem putP_split (F : List Fg) (f : Fg) : putP F f = F.take (posP F f.seq) ++ f :: (match F.drop (posP F f.seq) with | [] => [] | g :: l => if g.seq = f.seq then l else g :: l) := by
  induction F with
  | nil => rfl
  | cons g F ih =>
    unfold putP posP
    by_cases h : g.seq < f.seq
    · rw [if_pos h, if_pos h, List.take_succ_cons, List.drop_succ_cons, ih]
      rfl
    · rw [if_neg h, if_neg h]
      simp only [List.take_zero, List.nil_append, List.drop_zero]
      split <;> rfl
end Go.Proofs.Ytfkeokfmancgiaa
