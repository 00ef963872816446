/- What is answered to options, as mathematics: kind by kind, one by one, and all; and the program's rule of each kind; no condition but those named. -/
import Derived.Test.YtkadbghglmlpkaaVerdOf
import Derived.Test.YtkadbghglmlpkaaOptRow
namespace Go.Proofs.Ytkadbghglmlpkaa
open Go.RowKit
/-- How many bytes an option of a kind has. -/
def sizeK (k : Int) : Option Nat := if k = 1 then some 2 else if k = 2 then some 4 else if k = 5 then some 4 else if k = 7 then some 0 else if k = 8 then some 0 else if k = 9 then some 1 else none
/-- The code of the answer to a number of a kind. -/
def codeK (a g : Nat) (p c d : Bool) (k : Int) (n : Nat) : Int :=
  if k = 1 then gc (within 64 300 n) 3 else if k = 2 then gc (((n ||| a : Nat) : Int) == (n : Int)) 3 else if k = 5 then gc ((n : Int) != 0 && (n : Int) != (g : Int)) 3 else if k = 7 then gc p 4 else if k = 8 then gc c 4 else gc ((n : Int) == 2 || ((n : Int) == 4 && d)) 3
/-- The bytes of the number that would be good. -/
def textK (m a g : Nat) (k : Int) (n : Nat) : ByteArray :=
  if k = 1 then put2 m else if k = 2 then put4 (n ||| a) else if k = 5 then put4 (magic g) else if k = 7 then ⟨#[]⟩ else if k = 8 then ⟨#[]⟩ else put1 2
/-- What is answered to one option: the code, and the option. -/
def one (m a g : Nat) (p c d : Bool) (o : Op.Opt) : Int × Op.Opt :=
  if sizeK o.kind = some o.data.size then (codeK a g p c d o.kind (numOf o.data.data.toList), ⟨o.kind, if codeK a g p c d o.kind (numOf o.data.data.toList) == 3 then textK m a g o.kind (numOf o.data.data.toList) else o.data⟩) else (4, o)
/-- Was a kind there. -/
def wasIn (k : Int) (l : List Op.Opt) : Bool := l.any fun x => x.kind == k
/-- What is answered to an option behind others. -/
def verd (m a g : Nat) (p c d : Bool) (l : List Op.Opt) (o : Op.Opt) : Int × Op.Opt := if wasIn o.kind l = true then (4, o) else one m a g p c d o
/-- What is answered to the option at a place. -/
def vdAt (m a g : Nat) (p c d : Bool) (l : List Op.Opt) (i : Nat) : Int × Op.Opt := match l[i]? with
  | some o => verd m a g p c d (l.take i) o
  | none => (4, ⟨0, ⟨#[]⟩⟩)
/-- What is answered to the first options. -/
def vdl (m a g : Nat) (p c d : Bool) (l : List Op.Opt) (n : Nat) : List (Int × Op.Opt) := (List.range n).map (vdAt m a g p c d l)
theorem vdl_succ (m a g : Nat) (p c d : Bool) (l : List Op.Opt) (n : Nat) : vdl m a g p c d l (n + 1) = vdl m a g p c d l n ++ [vdAt m a g p c d l n] := by
  unfold vdl
  rw [List.range_succ, List.map_append]
  rfl
theorem vdl_len (m a g : Nat) (p c d : Bool) (l : List Op.Opt) (n : Nat) : (vdl m a g p c d l n).length = n := by simp [vdl]
theorem vdAt_lt (m a g : Nat) (p c d : Bool) (l : List Op.Opt) (i : Nat) (h : i < l.length) : vdAt m a g p c d l i = verd m a g p c d (l.take i) l[i] := by
  unfold vdAt
  rw [List.getElem?_eq_getElem h]
/-- The cells of answers. -/
def vcells (l : List (Int × Op.Opt)) : List Value := l.flatMap fun v => [.int .i64 v.1, .int .i64 v.2.kind, .string v.2.data]
theorem vcells_len (l : List (Int × Op.Opt)) : (vcells l).length = l.length * 3 := by
  induction l with
  | nil => rfl
  | cons f fs ih => simp [vcells] at ih ⊢; omega
theorem vcells_append (l r : List (Int × Op.Opt)) : vcells (l ++ r) = vcells l ++ vcells r := by simp [vcells]
theorem vcells_get (l : List (Int × Op.Opt)) (i : Nat) (v : Int × Op.Opt) (h : l[i]? = some v) : (vcells l)[i * 3]? = some (.int .i64 v.1) ∧ (vcells l)[i * 3 + 1]? = some (.int .i64 v.2.kind) ∧ (vcells l)[i * 3 + 2]? = some (.string v.2.data) := by
  induction l generalizing i with
  | nil => simp at h
  | cons d fs ih =>
    cases i with
    | zero =>
      simp at h
      subst h
      exact ⟨rfl, rfl, rfl⟩
    | succ i =>
      have := ih i (by simpa using h)
      have e : vcells (d :: fs) = .int .i64 d.1 :: .int .i64 d.2.kind :: .string d.2.data :: vcells fs := rfl
      rw [e, show (i + 1) * 3 = i * 3 + 3 by omega]
      exact this
theorem gc_cases (b : Bool) (x : Int) : gc b x = 2 ∨ gc b x = x := by cases b <;> simp [gc]
theorem codeK_cases (a g : Nat) (p c d : Bool) (k : Int) (n : Nat) : codeK a g p c d k n = 2 ∨ codeK a g p c d k n = 3 ∨ codeK a g p c d k n = 4 := by
  have h := fun b x => gc_cases b x
  unfold codeK
  split
  · rcases h (within 64 300 n) 3 with h | h <;> simp [h]
  split
  · rcases h (((n ||| a : Nat) : Int) == (n : Int)) 3 with h | h <;> simp [h]
  split
  · rcases h ((n : Int) != 0 && (n : Int) != (g : Int)) 3 with h | h <;> simp [h]
  split
  · rcases h p 4 with h | h <;> simp [h]
  split
  · rcases h c 4 with h | h <;> simp [h]
  · rcases h ((n : Int) == 2 || ((n : Int) == 4 && d)) 3 with h | h <;> simp [h]
/-- The program's rule of a kind, or that there is none. -/
theorem jud_row (m a g : Nat) (p c d : Bool) (ha : a < 4294967296) (hg : g < 4294967296) (k : Int) :
    (∃ s f f2 f3 f4 f5 j bt, sizeK k = some s ∧ JudR m a g p c d k s f f2 f3 f4 f5 j (codeK a g p c d k) bt (textK m a g k)) ∨ (sizeK k = none ∧ Instr.findNow (.int .i64) (.int .i64 k) rules.toList 0 = some none) := by
  by_cases h1 : k = 1
  · subst h1
    exact Or.inl ⟨2, _, _, _, _, _, _, fun _ => m, rfl, ⟨rfl, cf_of (by kernel_rfl), fun n v _ => judge1 m a g p c d n v, fun n v => num2 m v⟩⟩
  by_cases h2 : k = 2
  · subst h2
    exact Or.inl ⟨4, _, _, _, _, _, _, fun n => n ||| a, rfl, ⟨rfl, cf_of (by kernel_rfl), fun n v hn => judge2 m a g p c d n v ha hn, fun n v => num4 (n ||| a) v⟩⟩
  by_cases h5 : k = 5
  · subst h5
    exact Or.inl ⟨4, _, _, _, _, _, _, fun _ => magic g, rfl, ⟨rfl, cf_of (by kernel_rfl), fun n v _ => judge5 m a g p c d n v hg, fun n v => num4 (magic g) v⟩⟩
  by_cases h7 : k = 7
  · subst h7
    exact Or.inl ⟨0, _, _, _, _, _, _, fun _ => 0, rfl, ⟨rfl, cf_of (by kernel_rfl), fun n v _ => judge7 m a g p c d n v, fun n v => num0 0 v⟩⟩
  by_cases h8 : k = 8
  · subst h8
    exact Or.inl ⟨0, _, _, _, _, _, _, fun _ => 0, rfl, ⟨rfl, cf_of (by kernel_rfl), fun n v _ => judge8 m a g p c d n v, fun n v => num0 0 v⟩⟩
  by_cases h9 : k = 9
  · subst h9
    exact Or.inl ⟨1, _, _, _, _, _, _, fun _ => 2, rfl, ⟨rfl, cf_of (by kernel_rfl), fun n v _ => judge9 m a g p c d n v, fun n v => num1 2 v⟩⟩
  · refine Or.inr ⟨by simp [sizeK, h1, h2, h5, h7, h8, h9], ?_⟩
    have e1 : (k == 1) = false := beq_eq_false_iff_ne.2 h1
    have e2 : (k == 2) = false := beq_eq_false_iff_ne.2 h2
    have e5 : (k == 5) = false := beq_eq_false_iff_ne.2 h5
    have e7 : (k == 7) = false := beq_eq_false_iff_ne.2 h7
    have e8 : (k == 8) = false := beq_eq_false_iff_ne.2 h8
    have e9 : (k == 9) = false := beq_eq_false_iff_ne.2 h9
    simp [Instr.findNow, rules, Instr.sameNow, e1, e2, e5, e7, e8, e9]
theorem sizeK_le {k : Int} {s : Nat} (h : sizeK k = some s) : s ≤ 4 := by
  unfold sizeK at h
  repeat' split at h
  all_goals first | (cases h; omega) | (cases h)
end Go.Proofs.Ytkadbghglmlpkaa
