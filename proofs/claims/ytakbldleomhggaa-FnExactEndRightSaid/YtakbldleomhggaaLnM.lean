/- How a line is by the options that were agreed to; what each rule of the program makes of a line; what lay in memory stands. -/
import Derived.Test.YtakbldleomhggaaAskC
import Derived.Test.YtakbldleomhggaaCfg
import Derived.Test.YtakbldleomhggaaRepNum
import Derived.Test.YtakbldleomhggaaSizeK
namespace Go.Proofs.Ytakbldleomhggaa
open Go.RowKit
/-- A line. -/
structure Ln where
  m : Nat
  a : Nat
  p : Bool
  c : Bool
  d : Bool
/-- A line's cells. -/
abbrev lnC (x : Ln) : Array Value := #[.int .i64 x.m, .int .i64 x.a, .bool x.p, .bool x.c, .bool x.d]
/-- What an option of a kind and a number makes of a line. -/
def lnK (k : Int) (x : Ln) (n : Nat) : Ln :=
  if k = 1 then (if within 64 300 (n : Int) = true then { x with m := n } else x) else if k = 2 then { x with a := n } else if k = 7 then { x with p := true } else if k = 8 then { x with c := true } else if k = 9 then { x with d := x.d || ((n : Int) == 4) } else x
/-- What an option makes of a line. -/
def lnOne (x : Ln) (o : Op.Opt) : Ln := if sizeK o.kind = some o.data.size then lnK o.kind x (numOf o.data.data.toList) else x
/-- The line of options. -/
def lineF (F : List Op.Opt) : Ln := F.foldl lnOne ⟨300, 4294967295, false, false, false⟩
def lineOf (F : List Op.Opt) : Ln := if Op.right F = true then lineF F else ⟨0, 0, false, false, false⟩
theorem lineF_snoc (F : List Op.Opt) (i : Nat) (hi : i < F.length) : lineF (F.take (i + 1)) = lnOne (lineF (F.take i)) F[i] := by
  unfold lineF
  rw [List.take_succ_eq_append_getElem hi, List.foldl_append]
  rfl
set_option maxHeartbeats 400000 in
theorem line1 (x : Ln) (n : Nat) (w : World) : Calls Try.prog 88 #[.agg (lnC x), .int .i64 n] w fun e w' => e = .returned (.agg (lnC (lnK 1 x n))) ∧ Below w.heap.size w w' := by
  have C := hide fun v => mruRight (n : Int) v
  obtain ⟨m, a, p, c, d⟩ := x
  unfold lnK
  rw [if_pos rfl]
  cases hq : within 64 300 (n : Int)
  · rw [if_neg (by decide)]
    rw [hq] at C
    unfold lnC
    dsimp only
    go_enter Try.func88, Try.ntmps88
    go_wp2_with (first | (go_at_call 66; refine (unhide C _).mono ?_; rintro e w1 ⟨rfl, rfl⟩))
    exact bodyPost_ret (v := .agg #[.int .i64 m, .int .i64 a, .bool p, .bool c, .bool d]) (by simp [results, Try.results88, go_sem]) rfl ⟨rfl, ((Below.refl _ _).alloc (Nat.le_refl _) _).alloc (by simp) _⟩
  · rw [if_pos rfl]
    rw [hq] at C
    unfold lnC
    dsimp only
    go_enter Try.func88, Try.ntmps88
    go_wp2_with (first | (go_at_call 66; refine (unhide C _).mono ?_; rintro e w1 ⟨rfl, rfl⟩))
    exact bodyPost_ret (v := .agg #[.int .i64 n, .int .i64 a, .bool p, .bool c, .bool d]) (by simp [results, Try.results88, go_sem]) rfl ⟨rfl, ((Below.refl _ _).alloc (Nat.le_refl _) _).alloc (by simp) _⟩
set_option maxHeartbeats 400000 in
theorem line2 (x : Ln) (n : Nat) (w : World) : Calls Try.prog 93 #[.agg (lnC x), .int .i64 n] w fun e w' => e = .returned (.agg (lnC (lnK 2 x n))) ∧ Below w.heap.size w w' := by
  obtain ⟨m, a, p, c, d⟩ := x
  show Calls Try.prog 93 #[.agg #[.int .i64 m, .int .i64 a, .bool p, .bool c, .bool d], .int .i64 n] w fun e w' => e = .returned (.agg #[.int .i64 m, .int .i64 n, .bool p, .bool c, .bool d]) ∧ Below w.heap.size w w'
  go_enter Try.func93, Try.ntmps93
  go_wp2
  exact bodyPost_ret (v := .agg #[.int .i64 m, .int .i64 n, .bool p, .bool c, .bool d]) (by simp [results, Try.results93, go_sem]) rfl ⟨rfl, ((Below.refl _ _).alloc (Nat.le_refl _) _).alloc (by simp) _⟩
set_option maxHeartbeats 400000 in
theorem line5 (x : Ln) (n : Nat) (w : World) : Calls Try.prog 99 #[.agg (lnC x), .int .i64 n] w fun e w' => e = .returned (.agg (lnC (lnK 5 x n))) ∧ Below w.heap.size w w' := by
  obtain ⟨m, a, p, c, d⟩ := x
  show Calls Try.prog 99 #[.agg #[.int .i64 m, .int .i64 a, .bool p, .bool c, .bool d], .int .i64 n] w fun e w' => e = .returned (.agg #[.int .i64 m, .int .i64 a, .bool p, .bool c, .bool d]) ∧ Below w.heap.size w w'
  go_enter Try.func99, Try.ntmps99
  go_wp2
  exact bodyPost_ret (v := .agg #[.int .i64 m, .int .i64 a, .bool p, .bool c, .bool d]) (by simp [results, Try.results99, go_sem]) rfl ⟨rfl, ((Below.refl _ _).alloc (Nat.le_refl _) _).alloc (by simp) _⟩
set_option maxHeartbeats 400000 in
theorem line7 (x : Ln) (n : Nat) (w : World) : Calls Try.prog 104 #[.agg (lnC x), .int .i64 n] w fun e w' => e = .returned (.agg (lnC (lnK 7 x n))) ∧ Below w.heap.size w w' := by
  obtain ⟨m, a, p, c, d⟩ := x
  show Calls Try.prog 104 #[.agg #[.int .i64 m, .int .i64 a, .bool p, .bool c, .bool d], .int .i64 n] w fun e w' => e = .returned (.agg #[.int .i64 m, .int .i64 a, .bool true, .bool c, .bool d]) ∧ Below w.heap.size w w'
  go_enter Try.func104, Try.ntmps104
  go_wp2
  exact bodyPost_ret (v := .agg #[.int .i64 m, .int .i64 a, .bool true, .bool c, .bool d]) (by simp [results, Try.results104, go_sem]) rfl ⟨rfl, ((Below.refl _ _).alloc (Nat.le_refl _) _).alloc (by simp) _⟩
set_option maxHeartbeats 400000 in
theorem line8 (x : Ln) (n : Nat) (w : World) : Calls Try.prog 109 #[.agg (lnC x), .int .i64 n] w fun e w' => e = .returned (.agg (lnC (lnK 8 x n))) ∧ Below w.heap.size w w' := by
  obtain ⟨m, a, p, c, d⟩ := x
  show Calls Try.prog 109 #[.agg #[.int .i64 m, .int .i64 a, .bool p, .bool c, .bool d], .int .i64 n] w fun e w' => e = .returned (.agg #[.int .i64 m, .int .i64 a, .bool p, .bool true, .bool d]) ∧ Below w.heap.size w w'
  go_enter Try.func109, Try.ntmps109
  go_wp2
  exact bodyPost_ret (v := .agg #[.int .i64 m, .int .i64 a, .bool p, .bool true, .bool d]) (by simp [results, Try.results109, go_sem]) rfl ⟨rfl, ((Below.refl _ _).alloc (Nat.le_refl _) _).alloc (by simp) _⟩
set_option maxHeartbeats 400000 in
theorem line9 (x : Ln) (n : Nat) (w : World) : Calls Try.prog 114 #[.agg (lnC x), .int .i64 n] w fun e w' => e = .returned (.agg (lnC (lnK 9 x n))) ∧ Below w.heap.size w w' := by
  obtain ⟨m, a, p, c, d⟩ := x
  cases d
  · show Calls Try.prog 114 #[.agg #[.int .i64 m, .int .i64 a, .bool p, .bool c, .bool false], .int .i64 n] w fun e w' => e = .returned (.agg #[.int .i64 m, .int .i64 a, .bool p, .bool c, .bool ((n : Int) == 4)]) ∧ Below w.heap.size w w'
    go_enter Try.func114, Try.ntmps114
    go_wp2
    exact bodyPost_ret (v := .agg #[.int .i64 m, .int .i64 a, .bool p, .bool c, .bool ((n : Int) == 4)]) (by simp [results, Try.results114, go_sem]) rfl ⟨rfl, ((Below.refl _ _).alloc (Nat.le_refl _) _).alloc (by simp) _⟩
  · show Calls Try.prog 114 #[.agg #[.int .i64 m, .int .i64 a, .bool p, .bool c, .bool true], .int .i64 n] w fun e w' => e = .returned (.agg #[.int .i64 m, .int .i64 a, .bool p, .bool c, .bool true]) ∧ Below w.heap.size w w'
    go_enter Try.func114, Try.ntmps114
    go_wp2
    exact bodyPost_ret (v := .agg #[.int .i64 m, .int .i64 a, .bool p, .bool c, .bool true]) (by simp [results, Try.results114, go_sem]) rfl ⟨rfl, ((Below.refl _ _).alloc (Nat.le_refl _) _).alloc (by simp) _⟩
/-- One kind's rule of lines. -/
structure LnR (k : Int) (s f f2 f3 f4 f5 j : Nat) : Prop where
  fd : Instr.findNow (.int .i64) (.int .i64 k) rules.toList 0 = some (some (j, ruleV s f f2 f3 f4 f5))
  cf : ∀ args W, (callFunc f5 args).run Try.prog W = .ok (.enter f5 args) W
  ln : ∀ (x : Ln) (n : Nat) v, Calls Try.prog f5 #[.agg (lnC x), .int .i64 n] v fun e w' => e = .returned (.agg (lnC (lnK k x n))) ∧ Below v.heap.size v w'
set_option maxRecDepth 100000 in
theorem ln_row (k : Int) : (∃ s f f2 f3 f4 f5 j, sizeK k = some s ∧ LnR k s f f2 f3 f4 f5 j) ∨ (sizeK k = none ∧ Instr.findNow (.int .i64) (.int .i64 k) rules.toList 0 = some none) := by
  by_cases h1 : k = 1
  · subst h1
    exact Or.inl ⟨2, _, _, _, _, _, _, rfl, ⟨rfl, cf_of (by kernel_rfl), fun x n v => line1 x n v⟩⟩
  by_cases h2 : k = 2
  · subst h2
    exact Or.inl ⟨4, _, _, _, _, _, _, rfl, ⟨rfl, cf_of (by kernel_rfl), fun x n v => line2 x n v⟩⟩
  by_cases h5 : k = 5
  · subst h5
    exact Or.inl ⟨4, _, _, _, _, _, _, rfl, ⟨rfl, cf_of (by kernel_rfl), fun x n v => line5 x n v⟩⟩
  by_cases h7 : k = 7
  · subst h7
    exact Or.inl ⟨0, _, _, _, _, _, _, rfl, ⟨rfl, cf_of (by kernel_rfl), fun x n v => line7 x n v⟩⟩
  by_cases h8 : k = 8
  · subst h8
    exact Or.inl ⟨0, _, _, _, _, _, _, rfl, ⟨rfl, cf_of (by kernel_rfl), fun x n v => line8 x n v⟩⟩
  by_cases h9 : k = 9
  · subst h9
    exact Or.inl ⟨1, _, _, _, _, _, _, rfl, ⟨rfl, cf_of (by kernel_rfl), fun x n v => line9 x n v⟩⟩
  · refine Or.inr ⟨by simp [sizeK, h1, h2, h5, h7, h8, h9], ?_⟩
    have e1 : (k == 1) = false := beq_eq_false_iff_ne.2 h1
    have e2 : (k == 2) = false := beq_eq_false_iff_ne.2 h2
    have e5 : (k == 5) = false := beq_eq_false_iff_ne.2 h5
    have e7 : (k == 7) = false := beq_eq_false_iff_ne.2 h7
    have e8 : (k == 8) = false := beq_eq_false_iff_ne.2 h8
    have e9 : (k == 9) = false := beq_eq_false_iff_ne.2 h9
    simp [Instr.findNow, rules, Instr.sameNow, e1, e2, e5, e7, e8, e9]
end Go.Proofs.Ytakbldleomhggaa
