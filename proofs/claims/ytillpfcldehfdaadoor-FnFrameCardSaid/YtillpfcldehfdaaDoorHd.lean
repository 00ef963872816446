/- Plain mathematics of frames: what is stuffed, what a deframer holds and finds byte by byte, that what was framed is found, and that parts are found as the whole; no condition but those that are written. -/
import Derived.Test.YtillpfcldehfdaaDoorMath
namespace Go.Proofs.YtillpfcldehfdaaDoor.Hd

/-- A byte below 32 is mapped, if the bit of its number is 1. -/
def mapped (a : Nat) (c : UInt8) : Bool := decide (c.toNat < 32) && (a / 2 ^ c.toNat % 2 == 1)
def odd (a : Nat) (c : UInt8) : Bool := c == 0x7e || c == 0x7d || mapped a c
def stuff1 (a : Nat) (c : UInt8) : List UInt8 := if odd a c then [0x7d, c ^^^ 0x20] else [c]
def stuff (a : Nat) (l : List UInt8) : List UInt8 := l.flatMap (stuff1 a)
/-- What is found: a kind and a text. -/
structure Fd where
  kind : Nat
  text : List UInt8
  deriving DecidableEq
/-- What a deframer holds. -/
structure St where
  inn : Bool
  esc : Bool
  long : Bool
  held : List UInt8
  deriving DecidableEq

theorem stuff_nil (a : Nat) : stuff a [] = [] := rfl
theorem stuff_snoc (a : Nat) (l : List UInt8) (c : UInt8) : stuff a (l ++ [c]) = stuff a l ++ stuff1 a c := by simp [stuff, List.flatMap_append]
theorem stuff_cons (a : Nat) (l : List UInt8) (c : UInt8) : stuff a (c :: l) = stuff1 a c ++ stuff a l := by simp [stuff]
theorem stuff1_le (a : Nat) (c : UInt8) : (stuff1 a c).length ≤ 2 := by unfold stuff1; split <;> simp
theorem stuff_len (a : Nat) (l : List UInt8) : (stuff a l).length ≤ 2 * l.length := by
  induction l with
  | nil => simp [stuff]
  | cons c l ih =>
    rw [stuff_cons, List.length_append]
    have := stuff1_le a c
    simp only [List.length_cons]
    omega
theorem stuff_len_ge (a : Nat) (l : List UInt8) : l.length ≤ (stuff a l).length := by
  induction l with
  | nil => simp [stuff]
  | cons c l ih =>
    rw [stuff_cons, List.length_append]
    have : 1 ≤ (stuff1 a c).length := by unfold stuff1; split <;> simp
    simp only [List.length_cons]
    omega

/-- Of a byte that is odd, the bit turned: neither a flag nor mapped. -/
theorem odd_turn (a : Nat) (c : UInt8) (h : odd a c = true) : c ^^^ 0x20 ≠ 0x7e ∧ mapped a (c ^^^ 0x20) = false := by
  have h2 : c = 0x7e ∨ c = 0x7d ∨ c.toNat < 32 := by
    simp only [odd, mapped, Bool.or_eq_true, beq_iff_eq, Bool.and_eq_true, decide_eq_true_eq] at h
    rcases h with (h | h) | h
    · exact Or.inl h
    · exact Or.inr (Or.inl h)
    · exact Or.inr (Or.inr h.1)
  have key : ∀ c : UInt8, (c = 0x7e ∨ c = 0x7d ∨ c.toNat < 32) → c ^^^ 0x20 ≠ 0x7e ∧ ¬ (c ^^^ 0x20).toNat < 32 := by
    intro c hc
    rcases hc with rfl | rfl | hc
    · decide
    · decide
    · have : ∀ n : Fin 32, (UInt8.ofNat n.1) ^^^ 0x20 ≠ 0x7e ∧ ¬ ((UInt8.ofNat n.1) ^^^ 0x20).toNat < 32 := by decide
      have h3 := this ⟨c.toNat, hc⟩
      have e : UInt8.ofNat c.toNat = c := by simp
      simpa only [e] using h3
  obtain ⟨k1, k2⟩ := key c h2
  exact ⟨k1, by unfold mapped; rw [decide_eq_false k2]; rfl⟩
theorem turn_turn (c : UInt8) : c ^^^ 0x20 ^^^ 0x20 = c := by rw [UInt8.xor_assoc]; simp
theorem stuff1_plain (a : Nat) (c x : UInt8) (h : x ∈ stuff1 a c) : x ≠ 0x7e ∧ mapped a x = false := by
  unfold stuff1 at h
  split at h
  · rename_i ho
    simp only [List.mem_cons, List.not_mem_nil, or_false] at h
    rcases h with rfl | rfl
    · exact ⟨by decide, by simp [mapped]⟩
    · exact odd_turn a c ho
  · rename_i ho
    simp only [List.mem_cons, List.not_mem_nil, or_false] at h
    subst h
    simp only [odd, Bool.or_eq_true, not_or, beq_iff_eq] at ho
    exact ⟨ho.1.1, by simpa using ho.2⟩
/-- What is stuffed has no flag and nothing that is mapped. -/
theorem stuff_plain (a : Nat) (l : List UInt8) (x : UInt8) (h : x ∈ stuff a l) : x ≠ 0x7e ∧ mapped a x = false := by
  simp only [stuff, List.mem_flatMap] at h
  obtain ⟨c, _, hc⟩ := h
  exact stuff1_plain a c x hc

/-- Good, by its word; k: how many bytes a Tail has. -/
structure Gd where
  good : List UInt8 → Bool
  k : Nat

/-- What a flag finds. -/
def endOf (g : Gd) (s : St) : List Fd :=
  if !s.inn then []
  else if s.esc then [⟨4, []⟩]
  else if s.held = [] ∧ s.long = false then []
  else if s.long then [⟨5, []⟩]
  else if s.held.length ≤ g.k then [⟨3, []⟩]
  else if !g.good s.held then [⟨2, []⟩]
  else [⟨1, s.held.take (s.held.length - g.k)⟩]
def fnd (g : Gd) (s : St) (c : UInt8) : List Fd := if c = 0x7e then endOf g s else []
/-- Put behind what is held, or too long. -/
def put (s : St) (c : UInt8) : St := if 304 ≤ s.held.length then { s with esc := false, long := true } else { s with esc := false, held := s.held ++ [c] }
def nxt (a : Nat) (s : St) (c : UInt8) : St :=
  if c = 0x7e then ⟨true, false, false, []⟩
  else if !s.inn || mapped a c then s
  else if c = 0x7d ∧ s.esc = false then { s with esc := true }
  else put s (if s.esc then c ^^^ 0x20 else c)
def run (a : Nat) (s : St) (l : List UInt8) : St := l.foldl (nxt a) s
def finds (g : Gd) (a : Nat) : St → List UInt8 → List Fd
  | _, [] => []
  | s, c :: l => fnd g s c ++ finds g a (nxt a s c) l
/-- A deframer that is right, but for its map. -/
def Right (s : St) : Prop := s.held.length ≤ 304 ∧ (s.inn = false → s.esc = false ∧ s.long = false ∧ s.held = [])

theorem run_append (a : Nat) (s : St) (l m : List UInt8) : run a s (l ++ m) = run a (run a s l) m := by simp [run]
theorem run_snoc (a : Nat) (s : St) (l : List UInt8) (c : UInt8) : run a s (l ++ [c]) = nxt a (run a s l) c := by simp [run]
theorem finds_append (g : Gd) (a : Nat) (s : St) (l m : List UInt8) : finds g a s (l ++ m) = finds g a s l ++ finds g a (run a s l) m := by
  induction l generalizing s with
  | nil => rfl
  | cons c l ih => simp only [List.cons_append, finds, ih, List.append_assoc]; rfl
theorem finds_snoc (g : Gd) (a : Nat) (s : St) (l : List UInt8) (c : UInt8) : finds g a s (l ++ [c]) = finds g a s l ++ fnd g (run a s l) c := by
  rw [finds_append]; simp [finds]
theorem nxt_right (a : Nat) (s : St) (c : UInt8) (h : Right s) : Right (nxt a s c) := by
  obtain ⟨h1, h2⟩ := h
  unfold nxt
  split
  · exact ⟨by simp, by simp⟩
  · split
    · exact ⟨h1, h2⟩
    · rename_i hne hin
      have hi : s.inn = true := by
        simp only [Bool.or_eq_true, not_or, Bool.not_eq_true', Bool.not_eq_false] at hin
        exact hin.1
      split
      · exact ⟨h1, fun k => by simp [hi] at k⟩
      · unfold put
        split
        · exact ⟨h1, fun k => by simp [hi] at k⟩
        · refine ⟨by simp; omega, fun k => by simp [hi] at k⟩
theorem run_right (a : Nat) (l : List UInt8) (s : St) (h : Right s) : Right (run a s l) := by
  induction l generalizing s with
  | nil => exact h
  | cons c l ih => exact ih _ (nxt_right a s c h)
theorem endOf_le (g : Gd) (s : St) : (endOf g s).length ≤ 1 := by
  unfold endOf
  repeat' split
  all_goals simp
theorem endOf_pend (g : Gd) (s : St) (h : s.esc = false) (h1 : s.held = []) (h2 : s.long = false) : endOf g s = [] := by
  unfold endOf
  split
  · rfl
  · simp [h, h1, h2]
/-- Two bytes at least for each that is found, but for the first one. -/
theorem finds_le (g : Gd) (a : Nat) (l : List UInt8) (s : St) : 2 * (finds g a s l).length ≤ l.length + 1 := by
  have key : ∀ (l : List UInt8) (s : St), (2 * (finds g a s l).length ≤ l.length + 1) ∧ (s.esc = false → s.held = [] → s.long = false → 2 * (finds g a s l).length ≤ l.length) := by
    intro l
    induction l with
    | nil => intro s; simp [finds]
    | cons c l ih =>
      intro s
      by_cases hc : c = 0x7e
      · subst hc
        have e : nxt a s 0x7e = ⟨true, false, false, []⟩ := by simp [nxt]
        have i := (ih ⟨true, false, false, []⟩).2 rfl rfl rfl
        have el := endOf_le g s
        refine ⟨?_, fun h1 h2 h3 => ?_⟩
        · simp only [finds, fnd, if_true, e, List.length_append, List.length_cons]
          omega
        · simp only [finds, fnd, if_true, e, List.length_append, List.length_cons, endOf_pend g s h1 h2 h3, List.length_nil]
          omega
      · have i := (ih (nxt a s c)).1
        have : 2 * (finds g a s (c :: l)).length ≤ l.length + 1 := by
          simp only [finds, fnd, if_neg hc, List.nil_append]
          exact i
        simp only [List.length_cons]
        exact ⟨by omega, fun _ _ _ => by omega⟩
  exact (key l s).1
theorem take_more (n : Nat) (F x : List Fd) (hx : x.length ≤ 1) : (F ++ x).take n = if (F.take n).length < n then F.take n ++ x else F.take n := by
  by_cases h : F.length < n
  · rw [if_pos (by rw [List.length_take]; omega), List.take_of_length_le (by simp; omega), List.take_of_length_le (by omega)]
  · rw [if_neg (by rw [List.length_take]; omega), List.take_append_of_le_length (by omega)]

/-- What is stuffed is put, byte for byte. -/
theorem run_stuff (a : Nat) (l : List UInt8) (m : List UInt8) (h : m.length + l.length ≤ 304) :
    run a ⟨true, false, false, m⟩ (stuff a l) = ⟨true, false, false, m ++ l⟩ := by
  induction l generalizing m with
  | nil => simp [stuff, run]
  | cons c l ih =>
    simp only [List.length_cons] at h
    have one : run a ⟨true, false, false, m⟩ (stuff1 a c) = ⟨true, false, false, m ++ [c]⟩ := by
      unfold stuff1
      split
      · rename_i ho
        obtain ⟨h1, h2⟩ := odd_turn a c ho
        have hm : mapped a 0x7d = false := by simp [mapped]
        have e1 : nxt a ⟨true, false, false, m⟩ 0x7d = ⟨true, true, false, m⟩ := by simp [nxt, hm]
        simp only [run, List.foldl, e1]
        simp only [nxt, if_neg h1, h2, Bool.not_true, Bool.or_self, Bool.false_eq_true, if_false, Bool.true_eq_false, and_false, if_true, put, turn_turn]
        rw [if_neg (by simp; omega)]
      · rename_i ho
        simp only [odd, Bool.or_eq_true, not_or, beq_iff_eq] at ho
        obtain ⟨⟨h1, h2⟩, h3⟩ := ho
        have h4 : mapped a c = false := by simpa using h3
        simp only [run, List.foldl, nxt, if_neg h1, h4, Bool.not_true, Bool.or_self, Bool.false_eq_true, if_false, h2, false_and, put]
        rw [if_neg (by simp; omega)]
    rw [stuff_cons, run_append, one, ih (m ++ [c]) (by simp; omega)]
    simp
theorem finds_stuff (g : Gd) (a : Nat) (l : List UInt8) (s : St) : finds g a s (stuff a l) = [] := by
  have key : ∀ (m : List UInt8) (s : St), (∀ x ∈ m, x ≠ 0x7e) → finds g a s m = [] := by
    intro m
    induction m with
    | nil => intro s _; rfl
    | cons c m ih =>
      intro s h
      simp only [finds, fnd, if_neg (h c (by simp)), List.nil_append]
      exact ih _ fun x hx => h x (by simp [hx])
  exact key _ s fun x hx => (stuff_plain a l x hx).1
/-- The bytes of a frame. -/
def frame (a : Nat) (u : List UInt8) : List UInt8 := [0x7e] ++ stuff a u ++ [0x7e]
/-- A text that is framed is found, and nothing else. -/
theorem frame_found (g : Gd) (a : Nat) (t v : List UInt8) (hv : v.length = g.k) (ht : 1 ≤ t.length) (hs : (t ++ v).length ≤ 304) (hg : g.good (t ++ v) = true) :
    finds g a ⟨false, false, false, []⟩ (frame a (t ++ v)) = [⟨1, t⟩] := by
  have e1 : run a ⟨false, false, false, []⟩ [0x7e] = ⟨true, false, false, []⟩ := by simp [run, nxt]
  unfold frame
  rw [finds_append, finds_append, finds_stuff, run_append, e1, run_stuff a (t ++ v) [] (by simpa using hs)]
  have f1 : finds g a ⟨false, false, false, []⟩ [0x7e] = [] := by simp [finds, fnd, endOf]
  rw [f1]
  simp only [List.nil_append, finds, fnd, if_true, List.append_nil, endOf, Bool.not_true, Bool.false_eq_true, if_false, hg]
  have hl : (t ++ v).length = t.length + g.k := by simp [hv]
  have hne : ¬ (t ++ v = []) := fun h => by rw [h] at hl; simp at hl; omega
  rw [if_neg (by simp [hne]), if_neg (by omega)]
  have : (t ++ v).take ((t ++ v).length - g.k) = t := by
    rw [hl]
    simp
  rw [this]
end Go.Proofs.YtillpfcldehfdaaDoor.Hd
