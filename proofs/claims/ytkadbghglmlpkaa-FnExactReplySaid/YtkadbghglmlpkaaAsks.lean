/- What each rule asks of a Config; what lay in memory stands. -/
import Derived.Test.YtkadbghglmlpkaaRules
import Derived.Test.YtkadbghglmlpkaaNum
import Derived.Test.YtkadbghglmlpkaaOpt
import Derived.Deep.QuietTactic
import Derived.BigQuiet
namespace Go.Proofs.Ytkadbghglmlpkaa
open Go.RowKit
theorem below_drewN {n : Nat} {w W : World} (h : Below n w W) (k : Nat) : Below n w (W.drewN k) := ⟨h.os, h.tape, h.output, h.size, h.block⟩
/-- A Config as a value. -/
abbrev cfgV (m a g : Int) (p c d : Bool) : Value := .agg #[.int .i64 m, .int .i64 a, .int .i64 g, .bool p, .bool c, .bool d]
set_option maxHeartbeats 400000 in
theorem ask1 (m a g : Int) (p c d : Bool) (w : World) : Calls Try.prog 49 #[cfgV m a g p c d] w fun e w' => e = .returned (.tuple #[.int .i64 m, .bool (m != 300)]) ∧ Below w.heap.size w w' := by
  go_enter Try.func49, Try.ntmps49
  go_wp2_with fail
  go_quiet (fail)
  go_wp2
  go_ret2
  exact ⟨rfl, below_drewN ((Below.refl _ _).alloc (Nat.le_refl _) _) _⟩
set_option maxHeartbeats 400000 in
theorem ask2 (m a g : Int) (p c d : Bool) (w : World) : Calls Try.prog 55 #[cfgV m a g p c d] w fun e w' => e = .returned (.tuple #[.int .i64 a, .bool (a != 4294967295)]) ∧ Below w.heap.size w w' := by
  go_enter Try.func55, Try.ntmps55
  go_wp2_with fail
  go_quiet (fail)
  go_wp2
  go_ret2
  exact ⟨rfl, below_drewN ((Below.refl _ _).alloc (Nat.le_refl _) _) _⟩
set_option maxHeartbeats 400000 in
theorem ask5 (m a g : Int) (p c d : Bool) (w : World) : Calls Try.prog 60 #[cfgV m a g p c d] w fun e w' => e = .returned (.tuple #[.int .i64 g, .bool (g != 0)]) ∧ Below w.heap.size w w' := by
  go_enter Try.func60, Try.ntmps60
  go_wp2_with fail
  go_quiet (fail)
  go_wp2
  go_ret2
  exact ⟨rfl, below_drewN ((Below.refl _ _).alloc (Nat.le_refl _) _) _⟩
set_option maxHeartbeats 400000 in
theorem ask7 (m a g : Int) (p c d : Bool) (w : World) : Calls Try.prog 66 #[cfgV m a g p c d] w fun e w' => e = .returned (.tuple #[.int .i64 0, .bool p]) ∧ Below w.heap.size w w' := by
  go_enter Try.func66, Try.ntmps66
  go_wp2_with fail
  go_quiet (fail)
  go_wp2
  go_ret2
  exact ⟨rfl, below_drewN ((Below.refl _ _).alloc (Nat.le_refl _) _) _⟩
set_option maxHeartbeats 400000 in
theorem ask8 (m a g : Int) (p c d : Bool) (w : World) : Calls Try.prog 71 #[cfgV m a g p c d] w fun e w' => e = .returned (.tuple #[.int .i64 0, .bool c]) ∧ Below w.heap.size w w' := by
  go_enter Try.func71, Try.ntmps71
  go_wp2_with fail
  go_quiet (fail)
  go_wp2
  go_ret2
  exact ⟨rfl, below_drewN ((Below.refl _ _).alloc (Nat.le_refl _) _) _⟩
set_option maxHeartbeats 400000 in
theorem ask9 (m a g : Int) (p c d : Bool) (w : World) : Calls Try.prog 76 #[cfgV m a g p c d] w fun e w' => e = .returned (.tuple #[.int .i64 4, .bool d]) ∧ Below w.heap.size w w' := by
  go_enter Try.func76, Try.ntmps76
  go_wp2_with fail
  go_quiet (fail)
  go_wp2
  go_ret2
  exact ⟨rfl, below_drewN ((Below.refl _ _).alloc (Nat.le_refl _) _) _⟩
/-- The option that is asked for, if it is. -/
def askIf (b : Bool) (k : Int) (t : ByteArray) : List Op.Opt := if b then [⟨k, t⟩] else []
theorem askIf_yes (k : Int) (t : ByteArray) : askIf true k t = [⟨k, t⟩] := rfl
theorem askIf_no (k : Int) (t : ByteArray) : askIf false k t = [] := rfl
/-- What a Config asks for, kind by kind. -/
def askP (m a g : Nat) (p c d : Bool) : List (List Op.Opt) :=
  [askIf ((m : Int) != 300) 1 (put2 m), askIf ((a : Int) != 4294967295) 2 (put4 a), askIf ((g : Int) != 0) 5 (put4 g), askIf p 7 ⟨#[]⟩, askIf c 8 ⟨#[]⟩, askIf d 9 (put1 4)]
/-- What a Config asks for, of the first kinds. -/
def askL (m a g : Nat) (p c d : Bool) (i : Nat) : List Op.Opt := ((askP m a g p c d).take i).flatten
theorem askIf_len (b : Bool) (k : Int) (t : ByteArray) : (askIf b k t).length ≤ 1 := by unfold askIf; split <;> simp
theorem askL_len (m a g : Nat) (p c d : Bool) (i : Nat) : (askL m a g p c d i).length ≤ 6 := by
  have h : ∀ (n : Nat) (l : List (List Op.Opt)), l.length = n → (∀ x ∈ l, x.length ≤ 1) → l.flatten.length ≤ n := by
    intro n l hl hx
    induction l generalizing n with
    | nil => simp
    | cons x l ih =>
      have h1 := hx x (by simp)
      have h2 := ih _ rfl fun y hy => hx y (by simp [hy])
      rw [List.flatten_cons, List.length_append]
      rw [List.length_cons] at hl
      omega
  have hA : ∀ x ∈ askP m a g p c d, x.length ≤ 1 := by
    intro x hx
    simp only [askP, List.mem_cons, List.not_mem_nil, or_false] at hx
    rcases hx with rfl | rfl | rfl | rfl | rfl | rfl <;> exact askIf_len _ _ _
  have := h _ ((askP m a g p c d).take i) rfl fun x hx => hA x (List.mem_of_mem_take hx)
  have h6 : ((askP m a g p c d).take i).length ≤ 6 := by rw [List.length_take]; simp [askP]; omega
  unfold askL
  omega
/-- The kinds that Ask goes through, as a value. -/
abbrev kindsV : Value := .agg #[.int .i64 1, .int .i64 2, .int .i64 5, .int .i64 7, .int .i64 8, .int .i64 9]
/-- A call of a function that has a body goes into it. -/
theorem cf_of {f : Nat} (h : (Try.prog.funcs[f]?).map (fun fn => (fn.name == "runtime.NumGoroutine") || fn.body.isNone) = some false) (args : Array Value) (W : World) : (callFunc f args).run Try.prog W = .ok (.enter f args) W := by
  obtain ⟨fn, hf, h2⟩ := Option.map_eq_some_iff.1 h
  rw [Bool.or_eq_false_iff] at h2
  unfold callFunc
  have h3 : ¬ (fn.name = "runtime.NumGoroutine") := beq_eq_false_iff_ne.1 h2.1
  have h4 : ¬ (fn.body = none) := fun e => by rw [e] at h2; exact absurd h2.2 (by decide)
  simp [go_sem, hf, h3, h4]
/-- One kind's round: its rule, what it asks for, and the bytes of that. -/
structure AskR (m a g : Nat) (p c d : Bool) (i : Nat) (k s : Int) (f f2 f3 f4 f5 n j : Nat) (b : Bool) (t : ByteArray) : Prop where
  ix : ∀ W, (Instr.index 43 kindsV (.int .i64 i)).run Try.prog W = .ok (.int .i64 k) W
  fd : Instr.findNow (.int .i64) (.int .i64 k) rules.toList 0 = some (some (j, ruleV s f f2 f3 f4 f5))
  cf : ∀ args W, (callFunc f args).run Try.prog W = .ok (.enter f args) W
  ask : ∀ v, Calls Try.prog f #[cfgV m a g p c d] v fun e w' => e = .returned (.tuple #[.int .i64 n, .bool b]) ∧ Below v.heap.size v w'
  num : ∀ v, Calls Try.prog 22 #[.int .i64 n, .int .i64 s] v fun e w' => e = .returned (.string t) ∧ Below v.heap.size v w'
  lst : askL m a g p c d (i + 1) = askL m a g p c d i ++ askIf b k t
theorem ask_row (m a g : Nat) (p c d : Bool) (i : Nat) (hi : i < 6) : ∃ k s f f2 f3 f4 f5 n j b t, AskR m a g p c d i k s f f2 f3 f4 f5 n j b t := by
  match i, hi with
  | 0, _ => exact ⟨_, _, _, _, _, _, _, _, _, _, _, ⟨fun W => rfl, rfl, cf_of (by kernel_rfl), fun v => ask1 m a g p c d v, fun v => num2 m v, by simp [askL, askP]⟩⟩
  | 1, _ => exact ⟨_, _, _, _, _, _, _, _, _, _, _, ⟨fun W => rfl, rfl, cf_of (by kernel_rfl), fun v => ask2 m a g p c d v, fun v => num4 a v, by simp [askL, askP]⟩⟩
  | 2, _ => exact ⟨_, _, _, _, _, _, _, _, _, _, _, ⟨fun W => rfl, rfl, cf_of (by kernel_rfl), fun v => ask5 m a g p c d v, fun v => num4 g v, by simp [askL, askP]⟩⟩
  | 3, _ => exact ⟨_, _, _, _, _, _, _, 0, _, _, _, ⟨fun W => rfl, rfl, cf_of (by kernel_rfl), fun v => ask7 m a g p c d v, fun v => num0 0 v, by simp [askL, askP]⟩⟩
  | 4, _ => exact ⟨_, _, _, _, _, _, _, 0, _, _, _, ⟨fun W => rfl, rfl, cf_of (by kernel_rfl), fun v => ask8 m a g p c d v, fun v => num0 0 v, by simp [askL, askP]⟩⟩
  | 5, _ => exact ⟨_, _, _, _, _, _, _, 4, _, _, _, ⟨fun W => rfl, rfl, cf_of (by kernel_rfl), fun v => ask9 m a g p c d v, fun v => num1 4 v, by simp [askL, askP]⟩⟩
end Go.Proofs.Ytkadbghglmlpkaa
