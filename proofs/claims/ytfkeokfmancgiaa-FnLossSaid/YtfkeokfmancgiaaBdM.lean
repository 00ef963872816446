/- What BundleHear answers, in plain mathematics: parts put by their numbers, runs, what is got, lost and kept; no condition. -/
import Derived.Test.YtfkeokfmancgiaaBdR
namespace Go.Proofs.Ytfkeokfmancgiaa
open Go.RowKit
/-- The parts stand by their numbers. -/
def Ris (F : List Fg) : Prop := F.Pairwise (fun a b => a.seq < b.seq)
/-- A part put among the others. -/
def putP : List Fg → Fg → List Fg
  | [], f => [f]
  | g :: l, f => if g.seq < f.seq then g :: putP l f else if g.seq = f.seq then f :: l else f :: g :: l
/-- What goes on from a part, and what is left. -/
def runP (a : Fg) : List Fg → List Fg × List Fg
  | [] => ([], [])
  | b :: l => if b.seq = a.seq + 1 ∧ a.fin = false ∧ b.beg = false then (b :: (runP b l).1, (runP b l).2) else ([], b :: l)
theorem runP_app (a : Fg) (l : List Fg) : (runP a l).1 ++ (runP a l).2 = l := by
  induction l generalizing a with
  | nil => rfl
  | cons b l ih =>
    unfold runP
    split
    · show b :: ((runP b l).1 ++ (runP b l).2) = b :: l
      rw [ih]
    · rfl
theorem runP_len (a : Fg) (l : List Fg) : (runP a l).1.length + (runP a l).2.length = l.length := by
  rw [← List.length_append, runP_app]
/-- The last part of a run. -/
def lastP (a : Fg) : List Fg → Fg
  | [] => a
  | b :: l => lastP b l
theorem lastP_app (a b : Fg) (l : List Fg) : lastP a (l ++ [b]) = b := by
  induction l generalizing a with
  | nil => rfl
  | cons c l ih => exact ih c
/-- The texts of a run, together. -/
def catP : List Fg → ByteArray
  | [] => ⟨#[]⟩
  | f :: l => f.text ++ catP l
/-- Can a run become whole no more? -/
def deadP (m before : Int) (a z : Fg) (rest : List Fg) : Bool :=
  (!a.beg && (decide (a.seq - 1 ≤ m) || decide (a.seq - 1 = before))) || (!z.fin && (decide (z.seq + 1 ≤ m) || (match rest with | [] => false | b :: _ => decide (b.seq = z.seq + 1))))
/-- What is kept, got and lost. -/
structure So where
  stay : List Fg
  got : List ByteArray
  lost : Nat
/-- One run more, ahead of the others. -/
def soAdd (m before : Int) (a : Fg) (r rest : List Fg) (s : So) : So :=
  if a.beg && (lastP a r).fin then ⟨s.stay, catP (a :: r) :: s.got, s.lost⟩
  else if deadP m before a (lastP a r) rest then ⟨s.stay, s.got, (r.length + 1) + s.lost⟩
  else ⟨a :: r ++ s.stay, s.got, s.lost⟩
def settleP (m : Int) (before : Int) : List Fg → So
  | [] => ⟨[], [], 0⟩
  | a :: l => soAdd m before a (runP a l).1 (runP a l).2 (settleP m (lastP a (runP a l).1).seq (runP a l).2)
termination_by l => l.length
decreasing_by
  have := runP_len a l
  simp only [List.length_cons]
  omega
theorem settle_cons (m before : Int) (a : Fg) (l : List Fg) : settleP m before (a :: l) = soAdd m before a (runP a l).1 (runP a l).2 (settleP m (lastP a (runP a l).1).seq (runP a l).2) := by
  rw [settleP]
theorem settle_nil (m before : Int) : settleP m before [] = ⟨[], [], 0⟩ := by
  rw [settleP]
theorem putP_mem {l : List Fg} {f x : Fg} (h : x ∈ putP l f) : x = f ∨ x ∈ l := by
  induction l with
  | nil => simp [putP] at h; exact Or.inl h
  | cons g l ih =>
    unfold putP at h
    split at h
    · rcases List.mem_cons.1 h with rfl | h
      · exact Or.inr List.mem_cons_self
      · rcases ih h with h | h
        · exact Or.inl h
        · exact Or.inr (List.mem_cons_of_mem _ h)
    · split at h
      · rcases List.mem_cons.1 h with rfl | h
        · exact Or.inl rfl
        · exact Or.inr (List.mem_cons_of_mem _ h)
      · rcases List.mem_cons.1 h with rfl | h
        · exact Or.inl rfl
        · exact Or.inr h
theorem putP_ris {l : List Fg} (f : Fg) (h : Ris l) : Ris (putP l f) := by
  unfold Ris at *
  induction l with
  | nil => exact List.pairwise_singleton _ _
  | cons g l ih =>
    obtain ⟨h1, h2⟩ := List.pairwise_cons.1 h
    unfold putP
    split
    · rename_i hg
      refine List.pairwise_cons.2 ⟨fun x hx => ?_, ih h2⟩
      rcases putP_mem hx with rfl | hx
      · exact hg
      · exact h1 x hx
    · rename_i hg
      split
      · rename_i he
        exact List.pairwise_cons.2 ⟨fun x hx => by have := h1 x hx; omega, h2⟩
      · rename_i he
        refine List.pairwise_cons.2 ⟨fun x hx => ?_, h⟩
        rcases List.mem_cons.1 hx with rfl | hx
        · omega
        · have := h1 x hx
          omega
theorem putP_len (l : List Fg) (f : Fg) : (putP l f).length ≤ l.length + 1 := by
  induction l with
  | nil => simp [putP]
  | cons g l ih =>
    unfold putP
    split
    · simp; omega
    · split <;> simp
/-- A run's parts stand number by number. -/
theorem run_seq (a : Fg) (l : List Fg) : (lastP a (runP a l).1).seq = a.seq + (runP a l).1.length := by
  induction l generalizing a with
  | nil => simp [runP, lastP]
  | cons b l ih =>
    unfold runP
    split
    · rename_i h
      show (lastP b (runP b l).1).seq = a.seq + ((b :: (runP b l).1).length : Nat)
      rw [ih b, List.length_cons]
      omega
    · simp [lastP]
theorem settle_sub (m : Int) : ∀ (n : Nat) (before : Int) (l : List Fg), l.length ≤ n → (settleP m before l).stay.Sublist l
  | n, before, [], _ => by rw [settle_nil]; exact List.Sublist.refl _
  | 0, before, a :: l, h => by simp at h
  | n + 1, before, a :: l, h => by
    have hl := runP_len a l
    have ih := settle_sub m n (lastP a (runP a l).1).seq (runP a l).2 (by simp at h; omega)
    have happ : a :: l = (a :: (runP a l).1) ++ (runP a l).2 := by rw [List.cons_append, runP_app]
    rw [settle_cons]
    unfold soAdd
    split
    · rw [happ]; exact ih.trans (List.sublist_append_right _ _)
    · split
      · rw [happ]; exact ih.trans (List.sublist_append_right _ _)
      · rw [happ]; exact List.Sublist.append (List.Sublist.refl _) ih
theorem settle_ris (m before : Int) {l : List Fg} (h : Ris l) : Ris (settleP m before l).stay :=
  List.Pairwise.sublist (settle_sub m _ before l (Nat.le_refl _)) h
end Go.Proofs.Ytfkeokfmancgiaa
