/- What each rule of the program makes of a Config, when its option is naked or rejected; what lay in memory stands. What EndHear answers, in plain words; what is right while it hears; plain mathematics. What came, its options and the answer laid in an end at work; what lay in memory stands. The program's end at work takes an ack; what lay in memory stands. The program's copy of options, and its first step: an end at work with rows of its own; what lay in memory stands. -/
import Derived.Test.YtahpjlbaagkdoaaGreatDoorS11
import Derived.Test.YtahpjlbaagkdoaaGreatDoorS05
import Derived.Test.YtahpjlbaagkdoaaGreatDoorS06
import Derived.Test.YtahpjlbaagkdoaaGreatDoorS13
import Derived.Test.YtahpjlbaagkdoaaGreatDoorS29
import Derived.Test.YtahpjlbaagkdoaaGreatDoorS33
import Derived.Test.YtahpjlbaagkdoaaGreatDoorS34
import Derived.Test.YtahpjlbaagkdoaaGreatDoorS10
import Derived.Deep.DeepCutAuto
import Derived.Deep.RegionHeld3
import Derived.Test.YtahpjlbaagkdoaaGreatDoorS18
import Derived.Test.YtahpjlbaagkdoaaGreatDoorS19
import Derived.Test.YtahpjlbaagkdoaaGreatDoorS12
import Derived.Test.YtahpjlbaagkdoaaGreatDoorS24
import Derived.Test.YtahpjlbaagkdoaaGreatDoorShW
namespace Go.Proofs.YtahpjlbaagkdoaaGreatDoor
open Go.RowKit
structure Cf where
 m : Nat
 a : Nat
 g : Nat
 p : Bool
 c : Bool
 d : Bool
abbrev cfC (x : Cf) : Array Value := #[.int .i64 x.m, .int .i64 x.a, .int .i64 x.g, .bool x.p, .bool x.c, .bool x.d]
def okC (x : Cf) : Bool := cfgOk x.m x.a x.g
def lessK (k : Int) (x : Cf) (n : Nat) : Cf :=
 if k = 1 then { x with m := n } else if k = 2 then { x with a := n } else if k = 5 then { x with g := n } else if k = 9 then { x with d := x.d && ((n : Int) != 2) } else x
def woK (k : Int) (x : Cf) : Cf :=
 if k = 1 then { x with m := 300 } else if k = 2 then { x with a := 4294967295 } else if k = 5 then { x with g := 0 } else if k = 7 then { x with p := false } else if k = 8 then { x with c := false } else if k = 9 then { x with d := false } else x
def rightOrF (y x : Cf) : Cf := if okC y = true then y else x
def lessOne (x : Cf) (o : Op.Opt) : Cf := if sizeK o.kind = some o.data.size then rightOrF (lessK o.kind x (numOf o.data.data.toList)) x else x
def lessF (x : Cf) (F : List Op.Opt) : Cf := F.foldl lessOne x
def woF (x : Cf) (F : List Op.Opt) : Cf := F.foldl (fun x o => woK o.kind x) x
theorem lessF_snoc (x : Cf) (F : List Op.Opt) (i : Nat) (hi : i < F.length) : lessF x (F.take (i + 1)) = lessOne (lessF x (F.take i)) F[i] := by
 unfold lessF
 rw [List.take_succ_eq_append_getElem hi, List.foldl_append]
 rfl
theorem woF_snoc (x : Cf) (F : List Op.Opt) (i : Nat) (hi : i < F.length) : woF x (F.take (i + 1)) = woK F[i].kind (woF x (F.take i)) := by
 unfold woF
 rw [List.take_succ_eq_append_getElem hi, List.foldl_append]
 rfl
set_option maxHeartbeats 400000 in
theorem less1 (x : Cf) (n : Nat) (w : World) : Calls Tryz.prog 166 #[.agg (cfC x), .int .i64 n] w fun e w' => e = .returned (.agg (cfC (lessK 1 x n))) ∧ Below w.heap.size w w' := by
 obtain ⟨m, a, g, p, c, d⟩ := x
 show Calls Tryz.prog 166 #[.agg #[.int .i64 m, .int .i64 a, .int .i64 g, .bool p, .bool c, .bool d], .int .i64 n] w fun e w' => e = .returned (.agg #[.int .i64 n, .int .i64 a, .int .i64 g, .bool p, .bool c, .bool d]) ∧ Below w.heap.size w w'
 go_enter Tryz.func166, Tryz.ntmps166
 go_wp2
 exact bodyPost_ret (v := .agg #[.int .i64 n, .int .i64 a, .int .i64 g, .bool p, .bool c, .bool d]) (by simp [results, Tryz.results166, go_sem]) rfl ⟨rfl, ((Below.refl _ _).alloc (Nat.le_refl _) _).alloc (by simp) _⟩
set_option maxHeartbeats 400000 in
theorem less2 (x : Cf) (n : Nat) (w : World) : Calls Tryz.prog 171 #[.agg (cfC x), .int .i64 n] w fun e w' => e = .returned (.agg (cfC (lessK 2 x n))) ∧ Below w.heap.size w w' := by
 obtain ⟨m, a, g, p, c, d⟩ := x
 show Calls Tryz.prog 171 #[.agg #[.int .i64 m, .int .i64 a, .int .i64 g, .bool p, .bool c, .bool d], .int .i64 n] w fun e w' => e = .returned (.agg #[.int .i64 m, .int .i64 n, .int .i64 g, .bool p, .bool c, .bool d]) ∧ Below w.heap.size w w'
 go_enter Tryz.func171, Tryz.ntmps171
 go_wp2
 exact bodyPost_ret (v := .agg #[.int .i64 m, .int .i64 n, .int .i64 g, .bool p, .bool c, .bool d]) (by simp [results, Tryz.results171, go_sem]) rfl ⟨rfl, ((Below.refl _ _).alloc (Nat.le_refl _) _).alloc (by simp) _⟩
set_option maxHeartbeats 400000 in
theorem less5 (x : Cf) (n : Nat) (w : World) : Calls Tryz.prog 177 #[.agg (cfC x), .int .i64 n] w fun e w' => e = .returned (.agg (cfC (lessK 5 x n))) ∧ Below w.heap.size w w' := by
 obtain ⟨m, a, g, p, c, d⟩ := x
 show Calls Tryz.prog 177 #[.agg #[.int .i64 m, .int .i64 a, .int .i64 g, .bool p, .bool c, .bool d], .int .i64 n] w fun e w' => e = .returned (.agg #[.int .i64 m, .int .i64 a, .int .i64 n, .bool p, .bool c, .bool d]) ∧ Below w.heap.size w w'
 go_enter Tryz.func177, Tryz.ntmps177
 go_wp2
 exact bodyPost_ret (v := .agg #[.int .i64 m, .int .i64 a, .int .i64 n, .bool p, .bool c, .bool d]) (by simp [results, Tryz.results177, go_sem]) rfl ⟨rfl, ((Below.refl _ _).alloc (Nat.le_refl _) _).alloc (by simp) _⟩
set_option maxHeartbeats 400000 in
theorem less7 (x : Cf) (n : Nat) (w : World) : Calls Tryz.prog 182 #[.agg (cfC x), .int .i64 n] w fun e w' => e = .returned (.agg (cfC (lessK 7 x n))) ∧ Below w.heap.size w w' := by
 obtain ⟨m, a, g, p, c, d⟩ := x
 show Calls Tryz.prog 182 #[.agg #[.int .i64 m, .int .i64 a, .int .i64 g, .bool p, .bool c, .bool d], .int .i64 n] w fun e w' => e = .returned (.agg #[.int .i64 m, .int .i64 a, .int .i64 g, .bool p, .bool c, .bool d]) ∧ Below w.heap.size w w'
 go_enter Tryz.func182, Tryz.ntmps182
 go_wp2
 exact bodyPost_ret (v := .agg #[.int .i64 m, .int .i64 a, .int .i64 g, .bool p, .bool c, .bool d]) (by simp [results, Tryz.results182, go_sem]) rfl ⟨rfl, ((Below.refl _ _).alloc (Nat.le_refl _) _).alloc (by simp) _⟩
set_option maxHeartbeats 400000 in
theorem less8 (x : Cf) (n : Nat) (w : World) : Calls Tryz.prog 187 #[.agg (cfC x), .int .i64 n] w fun e w' => e = .returned (.agg (cfC (lessK 8 x n))) ∧ Below w.heap.size w w' := by
 obtain ⟨m, a, g, p, c, d⟩ := x
 show Calls Tryz.prog 187 #[.agg #[.int .i64 m, .int .i64 a, .int .i64 g, .bool p, .bool c, .bool d], .int .i64 n] w fun e w' => e = .returned (.agg #[.int .i64 m, .int .i64 a, .int .i64 g, .bool p, .bool c, .bool d]) ∧ Below w.heap.size w w'
 go_enter Tryz.func187, Tryz.ntmps187
 go_wp2
 exact bodyPost_ret (v := .agg #[.int .i64 m, .int .i64 a, .int .i64 g, .bool p, .bool c, .bool d]) (by simp [results, Tryz.results187, go_sem]) rfl ⟨rfl, ((Below.refl _ _).alloc (Nat.le_refl _) _).alloc (by simp) _⟩
set_option maxHeartbeats 400000 in
theorem less9 (x : Cf) (n : Nat) (w : World) : Calls Tryz.prog 192 #[.agg (cfC x), .int .i64 n] w fun e w' => e = .returned (.agg (cfC (lessK 9 x n))) ∧ Below w.heap.size w w' := by
 obtain ⟨m, a, g, p, c, d⟩ := x
 cases d
 ·show Calls Tryz.prog 192 #[.agg #[.int .i64 m, .int .i64 a, .int .i64 g, .bool p, .bool c, .bool false], .int .i64 n] w fun e w' => e = .returned (.agg #[.int .i64 m, .int .i64 a, .int .i64 g, .bool p, .bool c, .bool false]) ∧ Below w.heap.size w w'
  go_enter Tryz.func192, Tryz.ntmps192
  go_wp2
  exact bodyPost_ret (v := .agg #[.int .i64 m, .int .i64 a, .int .i64 g, .bool p, .bool c, .bool false]) (by simp [results, Tryz.results192, go_sem]) rfl ⟨rfl, ((Below.refl _ _).alloc (Nat.le_refl _) _).alloc (by simp) _⟩
 ·show Calls Tryz.prog 192 #[.agg #[.int .i64 m, .int .i64 a, .int .i64 g, .bool p, .bool c, .bool true], .int .i64 n] w fun e w' => e = .returned (.agg #[.int .i64 m, .int .i64 a, .int .i64 g, .bool p, .bool c, .bool ((n : Int) != 2)]) ∧ Below w.heap.size w w'
  go_enter Tryz.func192, Tryz.ntmps192
  go_wp2
  exact bodyPost_ret (v := .agg #[.int .i64 m, .int .i64 a, .int .i64 g, .bool p, .bool c, .bool ((n : Int) != 2)]) (by simp [results, Tryz.results192, go_sem]) rfl ⟨rfl, ((Below.refl _ _).alloc (Nat.le_refl _) _).alloc (by simp) _⟩
set_option maxHeartbeats 400000 in
theorem wo1 (x : Cf) (w : World) : Calls Tryz.prog 167 #[.agg (cfC x)] w fun e w' => e = .returned (.agg (cfC (woK 1 x))) ∧ Below w.heap.size w w' := by
 obtain ⟨m, a, g, p, c, d⟩ := x
 show Calls Tryz.prog 167 #[.agg #[.int .i64 m, .int .i64 a, .int .i64 g, .bool p, .bool c, .bool d]] w fun e w' => e = .returned (.agg #[.int .i64 300, .int .i64 a, .int .i64 g, .bool p, .bool c, .bool d]) ∧ Below w.heap.size w w'
 go_enter Tryz.func167, Tryz.ntmps167
 go_wp2
 exact bodyPost_ret (v := .agg #[.int .i64 300, .int .i64 a, .int .i64 g, .bool p, .bool c, .bool d]) (by simp [results, Tryz.results167, go_sem]) rfl ⟨rfl, ((Below.refl _ _).alloc (Nat.le_refl _) _).alloc (by simp) _⟩
set_option maxHeartbeats 400000 in
theorem wo2 (x : Cf) (w : World) : Calls Tryz.prog 172 #[.agg (cfC x)] w fun e w' => e = .returned (.agg (cfC (woK 2 x))) ∧ Below w.heap.size w w' := by
 obtain ⟨m, a, g, p, c, d⟩ := x
 show Calls Tryz.prog 172 #[.agg #[.int .i64 m, .int .i64 a, .int .i64 g, .bool p, .bool c, .bool d]] w fun e w' => e = .returned (.agg #[.int .i64 m, .int .i64 4294967295, .int .i64 g, .bool p, .bool c, .bool d]) ∧ Below w.heap.size w w'
 go_enter Tryz.func172, Tryz.ntmps172
 go_wp2
 exact bodyPost_ret (v := .agg #[.int .i64 m, .int .i64 4294967295, .int .i64 g, .bool p, .bool c, .bool d]) (by simp [results, Tryz.results172, go_sem]) rfl ⟨rfl, ((Below.refl _ _).alloc (Nat.le_refl _) _).alloc (by simp) _⟩
set_option maxHeartbeats 400000 in
theorem wo5 (x : Cf) (w : World) : Calls Tryz.prog 178 #[.agg (cfC x)] w fun e w' => e = .returned (.agg (cfC (woK 5 x))) ∧ Below w.heap.size w w' := by
 obtain ⟨m, a, g, p, c, d⟩ := x
 show Calls Tryz.prog 178 #[.agg #[.int .i64 m, .int .i64 a, .int .i64 g, .bool p, .bool c, .bool d]] w fun e w' => e = .returned (.agg #[.int .i64 m, .int .i64 a, .int .i64 0, .bool p, .bool c, .bool d]) ∧ Below w.heap.size w w'
 go_enter Tryz.func178, Tryz.ntmps178
 go_wp2
 exact bodyPost_ret (v := .agg #[.int .i64 m, .int .i64 a, .int .i64 0, .bool p, .bool c, .bool d]) (by simp [results, Tryz.results178, go_sem]) rfl ⟨rfl, ((Below.refl _ _).alloc (Nat.le_refl _) _).alloc (by simp) _⟩
set_option maxHeartbeats 400000 in
theorem wo7 (x : Cf) (w : World) : Calls Tryz.prog 183 #[.agg (cfC x)] w fun e w' => e = .returned (.agg (cfC (woK 7 x))) ∧ Below w.heap.size w w' := by
 obtain ⟨m, a, g, p, c, d⟩ := x
 show Calls Tryz.prog 183 #[.agg #[.int .i64 m, .int .i64 a, .int .i64 g, .bool p, .bool c, .bool d]] w fun e w' => e = .returned (.agg #[.int .i64 m, .int .i64 a, .int .i64 g, .bool false, .bool c, .bool d]) ∧ Below w.heap.size w w'
 go_enter Tryz.func183, Tryz.ntmps183
 go_wp2
 exact bodyPost_ret (v := .agg #[.int .i64 m, .int .i64 a, .int .i64 g, .bool false, .bool c, .bool d]) (by simp [results, Tryz.results183, go_sem]) rfl ⟨rfl, ((Below.refl _ _).alloc (Nat.le_refl _) _).alloc (by simp) _⟩
set_option maxHeartbeats 400000 in
theorem wo8 (x : Cf) (w : World) : Calls Tryz.prog 188 #[.agg (cfC x)] w fun e w' => e = .returned (.agg (cfC (woK 8 x))) ∧ Below w.heap.size w w' := by
 obtain ⟨m, a, g, p, c, d⟩ := x
 show Calls Tryz.prog 188 #[.agg #[.int .i64 m, .int .i64 a, .int .i64 g, .bool p, .bool c, .bool d]] w fun e w' => e = .returned (.agg #[.int .i64 m, .int .i64 a, .int .i64 g, .bool p, .bool false, .bool d]) ∧ Below w.heap.size w w'
 go_enter Tryz.func188, Tryz.ntmps188
 go_wp2
 exact bodyPost_ret (v := .agg #[.int .i64 m, .int .i64 a, .int .i64 g, .bool p, .bool false, .bool d]) (by simp [results, Tryz.results188, go_sem]) rfl ⟨rfl, ((Below.refl _ _).alloc (Nat.le_refl _) _).alloc (by simp) _⟩
set_option maxHeartbeats 400000 in
theorem wo9 (x : Cf) (w : World) : Calls Tryz.prog 193 #[.agg (cfC x)] w fun e w' => e = .returned (.agg (cfC (woK 9 x))) ∧ Below w.heap.size w w' := by
 obtain ⟨m, a, g, p, c, d⟩ := x
 show Calls Tryz.prog 193 #[.agg #[.int .i64 m, .int .i64 a, .int .i64 g, .bool p, .bool c, .bool d]] w fun e w' => e = .returned (.agg #[.int .i64 m, .int .i64 a, .int .i64 g, .bool p, .bool c, .bool false]) ∧ Below w.heap.size w w'
 go_enter Tryz.func193, Tryz.ntmps193
 go_wp2
 exact bodyPost_ret (v := .agg #[.int .i64 m, .int .i64 a, .int .i64 g, .bool p, .bool c, .bool false]) (by simp [results, Tryz.results193, go_sem]) rfl ⟨rfl, ((Below.refl _ _).alloc (Nat.le_refl _) _).alloc (by simp) _⟩
structure CfR (k : Int) (s f f2 f3 f4 f5 j : Nat) : Prop where
 fd : Instr.findNow (.int .i64) (.int .i64 k) rules.toList 0 = some (some (j, ruleV s f f2 f3 f4 f5))
 cf3 : ∀ args W, (callFunc f3 args).run Tryz.prog W = .ok (.enter f3 args) W
 cf4 : ∀ args W, (callFunc f4 args).run Tryz.prog W = .ok (.enter f4 args) W
 ls : ∀ (x : Cf) (n : Nat) v, Calls Tryz.prog f3 #[.agg (cfC x), .int .i64 n] v fun e w' => e = .returned (.agg (cfC (lessK k x n))) ∧ Below v.heap.size v w'
 wo : ∀ (x : Cf) v, Calls Tryz.prog f4 #[.agg (cfC x)] v fun e w' => e = .returned (.agg (cfC (woK k x))) ∧ Below v.heap.size v w'
set_option maxRecDepth 100000 in
theorem cf_row (k : Int) : (∃ s f f2 f3 f4 f5 j, sizeK k = some s ∧ CfR k s f f2 f3 f4 f5 j) ∨ (sizeK k = none ∧ (∀ x, woK k x = x) ∧ Instr.findNow (.int .i64) (.int .i64 k) rules.toList 0 = some none) := by
 by_cases h1 : k = 1
 ·subst h1
  exact Or.inl ⟨2, _, _, _, _, _, _, rfl, ⟨rfl, cf_of (by kernel_rfl), cf_of (by kernel_rfl), fun x n v => less1 x n v, fun x v => wo1 x v⟩⟩
 by_cases h2 : k = 2
 ·subst h2
  exact Or.inl ⟨4, _, _, _, _, _, _, rfl, ⟨rfl, cf_of (by kernel_rfl), cf_of (by kernel_rfl), fun x n v => less2 x n v, fun x v => wo2 x v⟩⟩
 by_cases h5 : k = 5
 ·subst h5
  exact Or.inl ⟨4, _, _, _, _, _, _, rfl, ⟨rfl, cf_of (by kernel_rfl), cf_of (by kernel_rfl), fun x n v => less5 x n v, fun x v => wo5 x v⟩⟩
 by_cases h7 : k = 7
 ·subst h7
  exact Or.inl ⟨0, _, _, _, _, _, _, rfl, ⟨rfl, cf_of (by kernel_rfl), cf_of (by kernel_rfl), fun x n v => less7 x n v, fun x v => wo7 x v⟩⟩
 by_cases h8 : k = 8
 ·subst h8
  exact Or.inl ⟨0, _, _, _, _, _, _, rfl, ⟨rfl, cf_of (by kernel_rfl), cf_of (by kernel_rfl), fun x n v => less8 x n v, fun x v => wo8 x v⟩⟩
 by_cases h9 : k = 9
 ·subst h9
  exact Or.inl ⟨1, _, _, _, _, _, _, rfl, ⟨rfl, cf_of (by kernel_rfl), cf_of (by kernel_rfl), fun x n v => less9 x n v, fun x v => wo9 x v⟩⟩
 ·refine Or.inr ⟨by simp [sizeK, h1, h2, h5, h7, h8, h9], fun x => by simp [woK, h1, h2, h5, h7, h8, h9], ?_⟩
  have e1 : (k == 1) = false := beq_eq_false_iff_ne.2 h1
  have e2 : (k == 2) = false := beq_eq_false_iff_ne.2 h2
  have e5 : (k == 5) = false := beq_eq_false_iff_ne.2 h5
  have e7 : (k == 7) = false := beq_eq_false_iff_ne.2 h7
  have e8 : (k == 8) = false := beq_eq_false_iff_ne.2 h8
  have e9 : (k == 9) = false := beq_eq_false_iff_ne.2 h9
  simp [Instr.findNow, rules, Instr.sameNow, e1, e2, e5, e7, e8, e9]
theorem infoC : (Tryz.prog.info? 24).map (·.size) = some 6 := by kernel_rfl
theorem loadC {W : World} {E : Nat} {x0 x1 x2 x3 x4 x5 : Value} (h : W.heap[E]? = some (.cells #[x0, x1, x2, x3, x4, x5] 24)) : (loadVar 24 ⟨E, 0, none⟩).run Tryz.prog W = .ok (.agg #[x0, x1, x2, x3, x4, x5]) W :=
 run_loadVar_row (P := Tryz.prog) _ _ 24 24 #[x0, x1, x2, x3, x4, x5] (0, 0) _ h Tryz.underlying24 rfl infoC
theorem start3c (w : World) (a b c : Obj) : (((w.alloc a).alloc b).alloc c).heap[w.heap.size]? = some a ∧ (((w.alloc a).alloc b).alloc c).heap[w.heap.size + 1]? = some b ∧ (((w.alloc a).alloc b).alloc c).heap[w.heap.size + 1 + 1]? = some c ∧ Below w.heap.size w (((w.alloc a).alloc b).alloc c) := by
 have s1 : (w.alloc a).heap.size = w.heap.size + 1 := by simp
 have s2 : ((w.alloc a).alloc b).heap.size = w.heap.size + 1 + 1 := by simp
 have e2 := heap_alloc_new (w.alloc a) b
 have e3 := heap_alloc_new ((w.alloc a).alloc b) c
 rw [s1] at e2
 rw [s2] at e3
 refine ⟨?_, ?_, e3, (((Below.refl _ _).alloc (Nat.le_refl _) _).alloc (by omega) _).alloc (by omega) _⟩
 ·rw [Below.heap_alloc _ _ _ (by omega), Below.heap_alloc _ _ _ (by omega)]; exact heap_alloc_new w a
 ·rw [Below.heap_alloc _ _ _ (by omega)]; exact e2
set_option maxHeartbeats 1000000 in
theorem rightOr (y x : Cf) (w : World) : Calls Tryz.prog 144 #[.agg (cfC y), .agg (cfC x)] w fun e w' => e = .returned (.agg (cfC (rightOrF y x))) ∧ Below w.heap.size w w' := by
 unfold rightOrF okC
 obtain ⟨m, a, g, p, c, d⟩ := y
 obtain ⟨m', a', g', p', c', d'⟩ := x
 have C := hide fun v => implCfg (m : Int) a g p c d v
 obtain ⟨h1, h2, h3, h4⟩ := start3c w (.cells #[.int .i64 m, .int .i64 a, .int .i64 g, .bool p, .bool c, .bool d] 24) (.cells #[.int .i64 m', .int .i64 a', .int .i64 g', .bool p', .bool c', .bool d'] 24) (.cells #[.int .i64 0, .int .i64 0, .int .i64 0, .bool false, .bool false, .bool false] 24)
 have H0 := hide (And.intro h1 (And.intro h2 (And.intro h3 h4)))
 clear h1 h2 h3 h4
 dsimp only
 cases hq : cfgOk (m : Int) a g
 ·rw [if_neg (by decide)]
  rw [hq] at C
  show Calls Tryz.prog 144 #[.agg #[.int .i64 m, .int .i64 a, .int .i64 g, .bool p, .bool c, .bool d], .agg #[.int .i64 m', .int .i64 a', .int .i64 g', .bool p', .bool c', .bool d']] w fun e w' => e = .returned (.agg #[.int .i64 m', .int .i64 a', .int .i64 g', .bool p', .bool c', .bool d']) ∧ Below w.heap.size w w'
  go_enter Tryz.func144, Tryz.ntmps144
  go_wp2_with fail
  refine (unhide C _).mono ?_
  rintro e w1 ⟨rfl, hb1⟩
  obtain ⟨h1, h2, h3, h4⟩ := unhide H0
  have hS1 := (hb1.block (w.heap.size + 1) (by simp)).trans h2
  have hR1 := (hb1.block (w.heap.size + 1 + 1) (by simp)).trans h3
  have hB1 := h4.trans (hb1.mono h4.size)
  obtain ⟨c0, c1, c2, c3, c4, c5⟩ := row6 hS1
  obtain ⟨r0, r1, r2, r3, r4, r5⟩ := row6 hR1
  have f0 := frz hR1 0
  have f1 := frz hR1 1
  have f2 := frz hR1 2
  have f3 := frz hR1 3
  have f4 := frz hR1 4
  have f5 := frz hR1 5
  have H1 := hide (And.intro hR1 hB1)
  clear hS1 hR1 hB1 hb1 h1 h2 h3 h4 H0 C
  go_wp2
  exact bodyPost_ret (v := .agg #[.int .i64 m', .int .i64 a', .int .i64 g', .bool p', .bool c', .bool d']) (by simp [results, Tryz.results144, asAddr, loadC (set6_at (unhide H1).1 (.int .i64 m') (.int .i64 a') (.int .i64 g') (.bool p') (.bool c') (.bool d'))]) rfl ⟨rfl, set6_below (unhide H1).2 (by omega) _ _ _ _ _ _⟩
 ·rw [if_pos rfl]
  rw [hq] at C
  show Calls Tryz.prog 144 #[.agg #[.int .i64 m, .int .i64 a, .int .i64 g, .bool p, .bool c, .bool d], .agg #[.int .i64 m', .int .i64 a', .int .i64 g', .bool p', .bool c', .bool d']] w fun e w' => e = .returned (.agg #[.int .i64 m, .int .i64 a, .int .i64 g, .bool p, .bool c, .bool d]) ∧ Below w.heap.size w w'
  go_enter Tryz.func144, Tryz.ntmps144
  go_wp2_with fail
  refine (unhide C _).mono ?_
  rintro e w1 ⟨rfl, hb1⟩
  obtain ⟨h1, h2, h3, h4⟩ := unhide H0
  have hS1 := (hb1.block (w.heap.size) (by simp; omega)).trans h1
  have hR1 := (hb1.block (w.heap.size + 1 + 1) (by simp)).trans h3
  have hB1 := h4.trans (hb1.mono h4.size)
  obtain ⟨c0, c1, c2, c3, c4, c5⟩ := row6 hS1
  obtain ⟨r0, r1, r2, r3, r4, r5⟩ := row6 hR1
  have f0 := frz hR1 0
  have f1 := frz hR1 1
  have f2 := frz hR1 2
  have f3 := frz hR1 3
  have f4 := frz hR1 4
  have f5 := frz hR1 5
  have H1 := hide (And.intro hR1 hB1)
  clear hS1 hR1 hB1 hb1 h1 h2 h3 h4 H0 C
  go_wp2
  exact bodyPost_ret (v := .agg #[.int .i64 m, .int .i64 a, .int .i64 g, .bool p, .bool c, .bool d]) (by simp [results, Tryz.results144, asAddr, loadC (set6_at (unhide H1).1 (.int .i64 m) (.int .i64 a) (.int .i64 g) (.bool p) (.bool c) (.bool d))]) rfl ⟨rfl, set6_below (unhide H1).2 (by omega) _ _ _ _ _ _⟩
def ansF (e : En) (L : List Op.Opt) : Int × List Op.Opt :=
 if (repF e.m1 e.a1 e.g2 e.p1 e.c1 e.d1 L).1 = 3 ∧ e.fl = 3 then (4, ofKs L (repF e.m1 e.a1 e.g2 e.p1 e.c1 e.d1 L).2) else repF e.m1 e.a1 e.g2 e.p1 e.c1 e.d1 L
def cxP (now : Int) (p : Op.Pk) (H : List Op.Opt) (A : Int × List Op.Opt) (vh va : Value) : Cx := ⟨now, p.code, p.id, p.data, H, A.1, A.2, vh, va⟩
def cfA (e : En) : Cf := ⟨e.m2.toNat, e.a2.toNat, e.g2.toNat, e.p2, e.c2, e.d2⟩
def setA (e : En) (x : Cf) : En := { e with m2 := x.m, a2 := x.a, g2 := x.g, p2 := x.p, c2 := x.c, d2 := x.d }
def evT (i : Nat) : ByteArray := evTexts.getD i ⟨#[]⟩
abbrev nilS : Value := .slice none 0 0
def hardB (t : ByteArray) : Bool := match t.data.toList with
 | [] => false
 | b :: _ => decide (1 ≤ b.toNat ∧ b.toNat ≤ 7)
def hearP (now : Int) (p : Op.Pk) (e : En) (F1 F2 : List Op.Opt) : EO :=
 if p.code = 1 then
  if (oread p.data).2 = 0 then evF (cxP now p (oread p.data).1 (ansF e (oread p.data).1) nilS nilS) ⟨e, F1, F2, [], []⟩ (evT (if (ansF e (oread p.data).1).1 = 2 then 6 else 7)) else eoErr (oread p.data).2
 else if p.code = 2 then
  if p.id = e.id ∧ p.data = txt (Op.bytes F1) then evF (cxP now p [] (0, []) nilS nilS) ⟨e, F1, F2, [], []⟩ (evT 8) else eoErr 8
 else if p.code = 3 ∨ p.code = 4 then
  if p.id = e.id then
   if (oread p.data).2 = 0 then evF (cxP now p [] (0, []) nilS nilS) ⟨setA e (if p.code = 3 then lessF (cfA e) (oread p.data).1 else woF (cfA e) (oread p.data).1), F1, F2, [], []⟩ (evT 9) else eoErr (oread p.data).2
  else eoErr 8
 else if p.code = 7 ∧ p.data.size = 0 then eoErr 4
 else evF (cxP now p [] (0, []) nilS nilS) ⟨e, F1, F2, [], []⟩ (evT (if p.code = 5 then 10 else if p.code = 6 then 11 else if p.code = 7 then (if hardB p.data = true then 14 else 13) else if p.code = 9 ∨ p.code = 10 ∨ p.code = 11 then 15 else 12))
def hearF (e : En) (F1 F2 : List Op.Opt) (p : Op.Pk) (now : Int) : EO :=
 if (enOk e F1 F2 && within 0 1000000000 now) = true ∧ Op.pok p = true then (if e.st ≤ 1 then eoErr 8 else hearP now p e F1 F2) else eoErr 1
theorem oread_ok {t : ByteArray} (ht : t.size ≤ 250) : opOk (oread t).1 = true := by
 have h8 : ¬ 8000 < t.size := by omega
 unfold opOk
 rw [oread_right, Bool.true_and]
 cases ha : Op.acc [] t.data.toList with
 | none => rw [oread_none h8 ha]; rfl
 | some L =>
  have h1 := Op.bytes_acc ha
  have h2 := oread_right t
  rw [oread_some h8 ha] at h2 ⊢
  unfold Op.told at h1
  rw [if_pos h2] at h1
  refine decide_eq_true ?_
  rw [h1]
  exact ht
theorem repF_ok (m a g : Int) (p c d : Bool) {L : List Op.Opt} (h : opOk L = true) : opOk (repF m a g p c d L).2 = true := by
 unfold repF
 split
 ·exact repV_ok _ _ _ _ _ _ h _
 ·rfl
theorem ansF_ok (e : En) {L : List Op.Opt} (h : opOk L = true) : opOk (ansF e L).2 = true := by
 unfold ansF
 split
 ·exact ofKs_ok h _
 ·exact repF_ok _ _ _ _ _ _ h
theorem ansF_model (e : En) (L : List Op.Opt) : ansF e L = if (repF e.m1 e.a1 e.g2 e.p1 e.c1 e.d1 L).1 = 3 ∧ e.fl = 3 then (4, nakL L (repF e.m1 e.a1 e.g2 e.p1 e.c1 e.d1 L).2) else repF e.m1 e.a1 e.g2 e.p1 e.c1 e.d1 L := by
 unfold ansF
 split
 ·next h =>
  rw [nakL_of]
  have h3 := h.1
  unfold repF at h3 ⊢
  split
  ·next hc =>
   rw [if_pos hc] at h3
   exact fl_one _ _ _ _ _ _ _ h3 _
  ·exact List.Pairwise.nil
 ·rfl
theorem Fit.came {n : Nat} {now : Int} {s : St} (h : Fit n (cx0 now) s) (p : Op.Pk) (hp : Op.pok p = true) {H : List Op.Opt} {A : Int × List Op.Opt} (hH : opOk H = true) (hA : opOk A.2 = true) (vh va : Value) : Fit n (cxP now p H A vh va) s := by
 unfold Op.pok at hp
 have := of_decide_eq_true hp
 exact ⟨h.cf, h.ask, h.id, h.tr, h.fl, h.now, h.f1, h.f2, h.sn, h.tl, hH, hA, this.2.2.2.2, h.du⟩
theorem Fit.asks {n : Nat} {c : Cx} {e : En} {F1 F2 : List Op.Opt} {sn : List Op.Pk} {tl : List ByteArray} (h : Fit n c ⟨e, F1, F2, sn, tl⟩) {x : Cf} (hx : okC x = true) : Fit n c ⟨setA e x, F1, F2, sn, tl⟩ :=
 ⟨h.cf, hx, h.id, h.tr, h.fl, h.now, h.f1, h.f2, h.sn, h.tl, h.hd, h.ao, h.cd, h.du⟩
theorem evT_at {i : Nat} (h : i < 16) : evTexts[i]? = some (evT i) := by
 have hl : evTexts.length = 16 := by kernel_rfl
 unfold evT
 rw [List.getD_eq_getElem?_getD, List.getElem?_eq_getElem (by omega)]
 rfl
end Go.Proofs.YtahpjlbaagkdoaaGreatDoor
namespace Go.Proofs.YtahpjlbaagkdoaaGreatDoor
open Go.RowKit
variable {T : TypeId} {w0 w1 : World} {B : Nat} {c : Cx} {s : St} {v1 v2 vs vt : Value} {q q' : World}
theorem Lay.setCx (h : Lay T w0 w1 B c s v1 v2 vs vt q) (i : Nat) (v : Value) (c' : Cx) (hc : (wkC c s.e v1 v2 vs vt).set i v = wkC c' s.e v1 v2 vs vt) (e1 : c'.vh = c.vh) (e2 : c'.hd = c.hd) (e3 : c'.va = c.va) (e4 : c'.ao = c.ao) : Lay T w0 w1 B c' s v1 v2 vs vt (q.setCell ⟨B, i, none⟩ v) := by
 have hr := heap_setCell_same q B i _ _ v h.row
 rw [List.setIfInBounds_toArray, hc] at hr
 have hk : ∀ k, k ≠ B → (q.setCell ⟨B, i, none⟩ v).heap[k]? = q.heap[k]? := fun k hk => heap_setCell_other q _ _ _ hk
 refine ⟨hr, own_other h.o1 fun g hg => hk g fun e => own_ty h.o1 h.row h.tt.1 (e ▸ hg), own_other h.o2 fun g hg => hk g fun e => own_ty h.o2 h.row h.tt.1 (e ▸ hg), own_other h.os fun g hg => hk g fun e => own_ty h.os h.row h.tt.2.1 (e ▸ hg), own_other h.ot fun g hg => hk g fun e => own_ty h.ot h.row h.tt.2.2 (e ▸ hg), ?_, ?_, h.hB, h.tt, h.ap, ?_, h.lo, h.nr.setCell i v⟩
 ·rw [e1, e2]
  exact own_other h.oh fun g hg => hk g fun e => own_ty h.oh h.row h.tt.1 (e ▸ hg)
 ·rw [e3, e4]
  exact hold_ty h.ha h.row h.tt.1 fun k _ => hk k
 ·rw [e1]
  exact h.aph
theorem Lay.cameP (h : Lay T w0 w1 B c s v1 v2 vs vt q) (x y : Int) (t : ByteArray) : Lay T w0 w1 B { c with cc := x, ci := y, cd := t } s v1 v2 vs vt (((q.setCell ⟨B, 31, none⟩ (.int .i64 x)).setCell ⟨B, 32, none⟩ (.int .i64 y)).setCell ⟨B, 33, none⟩ (.string t)) :=
 ((h.setCx 31 (.int .i64 x) { c with cc := x } rfl rfl rfl rfl rfl).setCx 32 (.int .i64 y) { c with cc := x, ci := y } rfl rfl rfl rfl rfl).setCx 33 (.string t) { c with cc := x, ci := y, cd := t } rfl rfl rfl rfl rfl
theorem Lay.had9 (h : Lay T w0 w1 B c s v1 v2 vs vt q) (hb : Below q.heap.size q q') (v : Value) (F : List Op.Opt) (ho : q'.ownsRow q.heap.size 116 2 v F.length (ocells F)) : Lay T w0 w1 B { c with hd := F, vh := v } s v1 v2 vs vt (q'.setCell ⟨B, 34, none⟩ v) := by
 have h' := h.step hb
 have hr := heap_setCell_same q' B 34 _ _ v h'.row
 rw [List.setIfInBounds_toArray] at hr
 have hk : ∀ k, k ≠ B → (q'.setCell ⟨B, 34, none⟩ v).heap[k]? = q'.heap[k]? := fun k hk => heap_setCell_other q' _ _ _ hk
 have hs := h.low.size
 refine ⟨hr, own_other h'.o1 fun g hg => hk g fun e => own_ty h'.o1 h'.row h.tt.1 (e ▸ hg), own_other h'.o2 fun g hg => hk g fun e => own_ty h'.o2 h'.row h.tt.1 (e ▸ hg), own_other h'.os fun g hg => hk g fun e => own_ty h'.os h'.row h.tt.2.1 (e ▸ hg), own_other h'.ot fun g hg => hk g fun e => own_ty h'.ot h'.row h.tt.2.2 (e ▸ hg), own_other (own_mono ho hs) fun g hg => hk g fun e => own_ty ho h'.row h.tt.1 (e ▸ hg), hold_ty h'.ha h'.row h.tt.1 fun k _ => hk k, h.hB, h.tt, h.ap, fun g hg e => ?_, h.lo, h'.nr.setCell 34 v⟩
 have h1 := (ho.lt g e).1
 have h2 := (h.o1.lt g hg).2
 omega
theorem Lay.ans9 (h : Lay T w0 w1 B c s v1 v2 vs vt q) (x : Int) (v : Value) (F : List Op.Opt) (hv : HoldsO q v F) : Lay T w0 w1 B { c with ac := x, ao := F, va := v } s v1 v2 vs vt ((q.setCell ⟨B, 35, none⟩ (.int .i64 x)).setCell ⟨B, 36, none⟩ v) := by
 have h' := h.setCx 35 (.int .i64 x) { c with ac := x } rfl rfl rfl rfl rfl
 have hv' : HoldsO (q.setCell ⟨B, 35, none⟩ (.int .i64 x)) v F := hold_ty hv h.row h.tt.1 fun k _ hk => heap_setCell_other q _ _ _ hk
 generalize q.setCell ⟨B, 35, none⟩ (.int .i64 x) = z at *
 have hr := heap_setCell_same z B 36 _ _ v h'.row
 rw [List.setIfInBounds_toArray] at hr
 have hk : ∀ k, k ≠ B → (z.setCell ⟨B, 36, none⟩ v).heap[k]? = z.heap[k]? := fun k hk => heap_setCell_other z _ _ _ hk
 exact ⟨hr, own_other h'.o1 fun g hg => hk g fun e => own_ty h'.o1 h'.row h.tt.1 (e ▸ hg), own_other h'.o2 fun g hg => hk g fun e => own_ty h'.o2 h'.row h.tt.1 (e ▸ hg), own_other h'.os fun g hg => hk g fun e => own_ty h'.os h'.row h.tt.2.1 (e ▸ hg), own_other h'.ot fun g hg => hk g fun e => own_ty h'.ot h'.row h.tt.2.2 (e ▸ hg), own_other h'.oh fun g hg => hk g fun e => own_ty h'.oh h'.row h.tt.1 (e ▸ hg), hold_ty hv' h'.row h.tt.1 fun k _ => hk k, h.hB, h.tt, h.ap, h.aph, h.lo, h'.nr.setCell 36 v⟩
theorem Lay.asks9 (h : Lay T w0 w1 B c s v1 v2 vs vt q) (x : Cf) : Lay T w0 w1 B c { s with e := setA s.e x } v1 v2 vs vt ((((((q.setCell ⟨B, 6, none⟩ (.int .i64 x.m)).setCell ⟨B, 7, none⟩ (.int .i64 x.a)).setCell ⟨B, 8, none⟩ (.int .i64 x.g)).setCell ⟨B, 9, none⟩ (.bool x.p)).setCell ⟨B, 10, none⟩ (.bool x.c)).setCell ⟨B, 11, none⟩ (.bool x.d)) :=
 (((((h.setRaw 6 (.int .i64 x.m) { s.e with m2 := x.m } rfl).setRaw 7 (.int .i64 x.a) { s.e with m2 := x.m, a2 := x.a } rfl).setRaw 8 (.int .i64 x.g) { s.e with m2 := x.m, a2 := x.a, g2 := x.g } rfl).setRaw 9 (.bool x.p) { s.e with m2 := x.m, a2 := x.a, g2 := x.g, p2 := x.p } rfl).setRaw 10 (.bool x.c) { s.e with m2 := x.m, a2 := x.a, g2 := x.g, p2 := x.p, c2 := x.c } rfl).setRaw 11 (.bool x.d) (setA s.e x) rfl
end Go.Proofs.YtahpjlbaagkdoaaGreatDoor
namespace Go.Proofs.YtahpjlbaagkdoaaGreatDoor
open Go.RowKit
theorem of_toList9 {t u : ByteArray} (h : t.toList = u.toList) : t = u := by
 rw [ByteArray.toList_eq, ByteArray.toList_eq] at h
 exact ByteArray.ext (Array.ext' h)
set_option linter.unusedSimpArgs false in
set_option maxHeartbeats 4000000 in
set_option maxRecDepth 100000 in
theorem iTakeAck {w0 w1 : World} {B n : Nat} {c : Cx} {s : St} {v1 v2 vs vt : Value} {q : World} (h : Lay 83 w0 w1 B c s v1 v2 vs vt q) (hf : Fit n c s) :
  Calls Tryz.prog 92 #[.pointer (some ⟨B, 0, none⟩)] q fun r q' => Lay 83 w0 w1 B c s v1 v2 vs vt q' ∧ r = .returned (.tuple #[.int .i64 (if c.ci = s.e.id ∧ c.cd = txt (Op.bytes s.F1) then 8 else 0), .int .i64 (if c.ci = s.e.id ∧ c.cd = txt (Op.bytes s.F1) then 0 else 8)]) := by
 have hm : s.F1.length ≤ maxLen := by have := Op.right_len (opOk_right hf.f1); unfold maxLen; omega
 have CB : Hid (∀ z, Lay 83 w0 w1 B c s v1 v2 vs vt z → Calls Tryz.prog 113 #[v1] z fun e w' => e = .returned (.string (otV s.F1)) ∧ Below z.heap.size z w') := hide fun z hz => implBytesAll v1 s.F1 z hm (HoldsO.own hz.o1)
 have HE : Hid (∀ z, Lay 83 w0 w1 B c s v1 v2 vs vt z → z.cell? ⟨B, 32, none⟩ = some (.int .i64 c.ci) ∧ z.cell? ⟨B, 15, none⟩ = some (.int .i64 s.e.id) ∧ z.cell? ⟨B, 33, none⟩ = some (.string c.cd) ∧ z.cell? ⟨B, 17, none⟩ = some v1) := hide fun z h3 => And.intro (h3.cell (i := 32) rfl) (And.intro (h3.cell (i := 15) rfl) (And.intro (h3.cell (i := 33) rfl) (h3.cell (i := 17) rfl)))
 have ho : otV s.F1 = txt (Op.bytes s.F1) := by unfold otV Op.told; rw [if_pos (opOk_right hf.f1)]
 rw [ho] at CB
 have HL := hide h
 clear h hm hf ho
 generalize txt (Op.bytes s.F1) = u at *
 generalize c.ci = x at *
 generalize s.e.id = y at *
 generalize c.cd = t at *
 by_cases hi : x = y
 ·subst hi
  by_cases hu : t = u
  ·subst hu
   rw [if_pos ⟨rfl, rfl⟩, if_pos ⟨rfl, rfl⟩]
   go_enter Tryz.func92, Tryz.ntmps92
   go_upto_region 1 with fail
   have E1 := hide ((unhide HL).step (Below.refl _ _).drew)
   refine wp_region_held_drew (S := fun y9 => y9.cell? ⟨B, 32, none⟩ = some (.int .i64 x) ∧ y9.cell? ⟨B, 15, none⟩ = some (.int .i64 x) ∧ y9.cell? ⟨B, 33, none⟩ = some (.string t) ∧ y9.cell? ⟨B, 17, none⟩ = some v1) (by kernel_rfl) (unhide HE _ (unhide E1)) (fun hHeld => ?_)
   generalize q.drew = yy at E1 hHeld ⊢
   clear HL
   refine tk 0 (v := ?va1_0) rfl ?hya1_0 ?_
   case hya1_0 => intro w hSw; (try dsimp only at hSw); go_simp; try with_reducible rfl
   try simp only [Act.put, sA, sZ, sS, gA, gZ]
   refine tk 1 (v := ?va2_1) rfl ?hya2_1 ?_
   case hya2_1 => intro w hSw; (try dsimp only at hSw); go_simp; try with_reducible rfl
   try simp only [Act.put, sA, sZ, sS, gA, gZ, gS]
   refine tk 2 (v := ?va3_2) rfl ?hya3_2 ?_
   case hya3_2 => intro w hSw; (try dsimp only at hSw); go_simp; try with_reducible rfl
   try simp only [Act.put, sA, sZ, sS, gA, gZ, gS]
   refine tk 3 (v := ?va4_3) rfl ?hya4_3 ?_
   case hya4_3 => intro w hSw; (try dsimp only at hSw); go_simp; try with_reducible rfl
   try simp only [Act.put, sA, sZ, sS, gA, gZ, gS]
   refine tk 4 (v := ?va5_4) rfl ?hya5_4 ?_
   case hya5_4 => intro w hSw; (try dsimp only at hSw); go_simp; try with_reducible rfl
   try simp only [Act.put, sA, sZ, sS, gA, gZ, gS]
   refine tk 5 (v := ?va6_5) rfl ?hya6_5 ?_
   case hya6_5 => intro w hSw; (try dsimp only at hSw); go_simp; try with_reducible rfl
   try simp only [Act.put, sA, sZ, sS, gA, gZ, gS]
   refine tk 6 (v := ?va7_6) rfl ?hya7_6 ?_
   case hya7_6 => intro w hSw; (try dsimp only at hSw); go_simp; try with_reducible rfl
   try simp only [Act.put, sA, sZ, sS, gA, gZ, gS]
   refine tk 7 (v := ?va8_7) rfl ?hya8_7 ?_
   case hya8_7 => intro w hSw; (try dsimp only at hSw); go_simp; try with_reducible rfl
   try simp only [Act.put, sA, sZ, sS, gA, gZ, gS]
   refine tk 8 (v := ?va9_8) rfl ?hya9_8 ?_
   case hya9_8 => intro w hSw; (try dsimp only at hSw); go_simp; try with_reducible rfl
   try simp only [Act.put, sA, sZ, sS, gA, gZ, gS]
   refine tk 9 (v := ?va10_9) rfl ?hya10_9 ?_
   case hya10_9 => intro w hSw; (try dsimp only at hSw); go_simp; try with_reducible rfl
   try simp only [Act.put, sA, sZ, sS, gA, gZ, gS]
   refine tk 10 (v := ?va11_10) rfl ?hya11_10 ?_
   case hya11_10 => intro w hSw; (try dsimp only at hSw); go_simp; try with_reducible rfl
   try simp only [Act.put, sA, sZ, sS, gA, gZ, gS]
   refine tk 11 (v := ?va12_11) rfl ?hya12_11 ?_
   case hya12_11 => intro w hSw; (try dsimp only at hSw); go_simp; try with_reducible rfl
   try simp only [Act.put, sA, sZ, sS, gA, gZ, gS]
   refine tk 12 (v := ?va13_12) rfl ?hya13_12 ?_
   case hya13_12 => intro w hSw; (try dsimp only at hSw); go_simp; try with_reducible rfl
   try simp only [Act.put, sA, sZ, sS, gA, gZ, gS]
   refine tk 13 (v := ?va14_13) rfl ?hya14_13 ?_
   case hya14_13 => intro w hSw; (try dsimp only at hSw); go_simp; try with_reducible rfl
   try simp only [Act.put, sA, sZ, sS, gA, gZ, gS]
   refine tk 14 (v := ?va15_14) rfl ?hya15_14 ?_
   case hya15_14 => intro w hSw; (try dsimp only at hSw); go_simp; try with_reducible rfl
   try simp only [Act.put, sA, sZ, sS, gA, gZ, gS]
   refine tk 15 (v := ?va16_15) rfl ?hya16_15 ?_
   case hya16_15 => intro w hSw; (try dsimp only at hSw); go_simp; try with_reducible rfl
   try simp only [Act.put, sA, sZ, sS, gA, gZ, gS]
   refine tk 16 (v := ?va17_16) rfl ?hya17_16 ?_
   case hya17_16 => intro w hSw; (try dsimp only at hSw); go_simp; try with_reducible rfl
   try simp only [Act.put, sA, sZ, sS, gA, gZ, gS]
   refine tk 17 (v := ?va18_17) rfl ?hya18_17 ?_
   case hya18_17 => intro w hSw; (try dsimp only at hSw); go_simp; try with_reducible rfl
   try simp only [Act.put, sA, sZ, sS, gA, gZ, gS]
   refine tk 18 (v := ?va19_18) rfl ?hya19_18 ?_
   case hya19_18 => intro w hSw; (try dsimp only at hSw); go_simp; try with_reducible rfl
   try simp only [Act.put, sA, sZ, sS, gA, gZ, gS]
   refine tk 19 (v := ?va20_19) rfl ?hya20_19 ?_
   case hya20_19 => intro w hSw; (try dsimp only at hSw); go_simp; try with_reducible rfl
   try simp only [Act.put, sA, sZ, sS, gA, gZ, gS]
   refine tk 20 (v := ?va21_20) rfl ?hya21_20 ?_
   case hya21_20 => intro w hSw; (try dsimp only at hSw); go_simp; try with_reducible rfl
   try simp only [Act.put, sA, sZ, sS, gA, gZ, gS]
   refine tk 21 (v := ?va22_21) rfl ?hya22_21 ?_
   case hya22_21 => intro w hSw; (try dsimp only at hSw); go_simp; try with_reducible rfl
   try simp only [Act.put, sA, sZ, sS, gA, gZ, gS]
   refine r1 22 rfl (fun K hK => ?_)
   go_simp
   refine (unhide CB _ (unhide E1)).mono ?_
   rintro e z3 ⟨rfl, hb3⟩
   have E3 := hide ((unhide E1).step hb3)
   clear hb3
   go_wp2_with fail
   refine hK.out _ _ (unhide HE _ (unhide E3)) (fun _ => ?_)
   clear hK K
   try simp only [Act.put, sA, sZ, sS, gA, gZ, gS]
   refine tk 23 (v := ?va23_23) rfl ?hya23_23 ?_
   case hya23_23 => intro w hSw; (try dsimp only at hSw); go_simp; try with_reducible rfl
   try simp only [Act.put, sA, sZ, sS, gA, gZ, gS]
   refine tk 24 (v := ?va24_24) rfl ?hya24_24 ?_
   case hya24_24 => intro w hSw; (try dsimp only at hSw); go_simp; try with_reducible rfl
   try simp only [Act.put, sA, sZ, sS, gA, gZ, gS]
   refine wpAnyH_done (by kernel_rfl) ?_ _
   go_wp2
   refine bodyPost_ret (v := .tuple #[.int .i64 8, .int .i64 0]) (by simp [results, Tryz.results92, go_sem]) rfl ⟨unhide E3, rfl⟩
  ·rw [if_neg fun h => hu h.2, if_neg fun h => hu h.2]
   have hu2 : (t.toList != u.toList) = true := by
    rw [bne_iff_ne]
    intro e
    exact hu (of_toList9 e)
   have hu3 : (t.toList == u.toList) = false := by
    rw [beq_eq_false_iff_ne]
    intro e
    exact hu (of_toList9 e)
   go_enter Tryz.func92, Tryz.ntmps92
   go_upto_region 1 with fail
   have E1 := hide ((unhide HL).step (Below.refl _ _).drew)
   refine wp_region_held_drew (S := fun y9 => y9.cell? ⟨B, 32, none⟩ = some (.int .i64 x) ∧ y9.cell? ⟨B, 15, none⟩ = some (.int .i64 x) ∧ y9.cell? ⟨B, 33, none⟩ = some (.string t) ∧ y9.cell? ⟨B, 17, none⟩ = some v1) (by kernel_rfl) (unhide HE _ (unhide E1)) (fun hHeld => ?_)
   generalize q.drew = yy at E1 hHeld ⊢
   clear HL
   refine tk 0 (v := ?vb1_0) rfl ?hyb1_0 ?_
   case hyb1_0 => intro w hSw; (try dsimp only at hSw); go_simp; try with_reducible rfl
   try simp only [Act.put, sA, sZ, sS, gA, gZ]
   refine tk 1 (v := ?vb2_1) rfl ?hyb2_1 ?_
   case hyb2_1 => intro w hSw; (try dsimp only at hSw); go_simp; try with_reducible rfl
   try simp only [Act.put, sA, sZ, sS, gA, gZ, gS]
   refine tk 2 (v := ?vb3_2) rfl ?hyb3_2 ?_
   case hyb3_2 => intro w hSw; (try dsimp only at hSw); go_simp; try with_reducible rfl
   try simp only [Act.put, sA, sZ, sS, gA, gZ, gS]
   refine tk 3 (v := ?vb4_3) rfl ?hyb4_3 ?_
   case hyb4_3 => intro w hSw; (try dsimp only at hSw); go_simp; try with_reducible rfl
   try simp only [Act.put, sA, sZ, sS, gA, gZ, gS]
   refine tk 4 (v := ?vb5_4) rfl ?hyb5_4 ?_
   case hyb5_4 => intro w hSw; (try dsimp only at hSw); go_simp; try with_reducible rfl
   try simp only [Act.put, sA, sZ, sS, gA, gZ, gS]
   refine tk 5 (v := ?vb6_5) rfl ?hyb6_5 ?_
   case hyb6_5 => intro w hSw; (try dsimp only at hSw); go_simp; try with_reducible rfl
   try simp only [Act.put, sA, sZ, sS, gA, gZ, gS]
   refine tk 6 (v := ?vb7_6) rfl ?hyb7_6 ?_
   case hyb7_6 => intro w hSw; (try dsimp only at hSw); go_simp; try with_reducible rfl
   try simp only [Act.put, sA, sZ, sS, gA, gZ, gS]
   refine tk 7 (v := ?vb8_7) rfl ?hyb8_7 ?_
   case hyb8_7 => intro w hSw; (try dsimp only at hSw); go_simp; try with_reducible rfl
   try simp only [Act.put, sA, sZ, sS, gA, gZ, gS]
   refine tk 8 (v := ?vb9_8) rfl ?hyb9_8 ?_
   case hyb9_8 => intro w hSw; (try dsimp only at hSw); go_simp; try with_reducible rfl
   try simp only [Act.put, sA, sZ, sS, gA, gZ, gS]
   refine tk 9 (v := ?vb10_9) rfl ?hyb10_9 ?_
   case hyb10_9 => intro w hSw; (try dsimp only at hSw); go_simp; try with_reducible rfl
   try simp only [Act.put, sA, sZ, sS, gA, gZ, gS]
   refine tk 10 (v := ?vb11_10) rfl ?hyb11_10 ?_
   case hyb11_10 => intro w hSw; (try dsimp only at hSw); go_simp; try with_reducible rfl
   try simp only [Act.put, sA, sZ, sS, gA, gZ, gS]
   refine tk 11 (v := ?vb12_11) rfl ?hyb12_11 ?_
   case hyb12_11 => intro w hSw; (try dsimp only at hSw); go_simp; try with_reducible rfl
   try simp only [Act.put, sA, sZ, sS, gA, gZ, gS]
   refine tk 12 (v := ?vb13_12) rfl ?hyb13_12 ?_
   case hyb13_12 => intro w hSw; (try dsimp only at hSw); go_simp; try with_reducible rfl
   try simp only [Act.put, sA, sZ, sS, gA, gZ, gS]
   refine tk 13 (v := ?vb14_13) rfl ?hyb14_13 ?_
   case hyb14_13 => intro w hSw; (try dsimp only at hSw); go_simp; try with_reducible rfl
   try simp only [Act.put, sA, sZ, sS, gA, gZ, gS]
   refine tk 14 (v := ?vb15_14) rfl ?hyb15_14 ?_
   case hyb15_14 => intro w hSw; (try dsimp only at hSw); go_simp; try with_reducible rfl
   try simp only [Act.put, sA, sZ, sS, gA, gZ, gS]
   refine tk 15 (v := ?vb16_15) rfl ?hyb16_15 ?_
   case hyb16_15 => intro w hSw; (try dsimp only at hSw); go_simp; try with_reducible rfl
   try simp only [Act.put, sA, sZ, sS, gA, gZ, gS]
   refine tk 16 (v := ?vb17_16) rfl ?hyb17_16 ?_
   case hyb17_16 => intro w hSw; (try dsimp only at hSw); go_simp; try with_reducible rfl
   try simp only [Act.put, sA, sZ, sS, gA, gZ, gS]
   refine tk 17 (v := ?vb18_17) rfl ?hyb18_17 ?_
   case hyb18_17 => intro w hSw; (try dsimp only at hSw); go_simp; try with_reducible rfl
   try simp only [Act.put, sA, sZ, sS, gA, gZ, gS]
   refine tk 18 (v := ?vb19_18) rfl ?hyb19_18 ?_
   case hyb19_18 => intro w hSw; (try dsimp only at hSw); go_simp; try with_reducible rfl
   try simp only [Act.put, sA, sZ, sS, gA, gZ, gS]
   refine tk 19 (v := ?vb20_19) rfl ?hyb20_19 ?_
   case hyb20_19 => intro w hSw; (try dsimp only at hSw); go_simp; try with_reducible rfl
   try simp only [Act.put, sA, sZ, sS, gA, gZ, gS]
   refine tk 20 (v := ?vb21_20) rfl ?hyb21_20 ?_
   case hyb21_20 => intro w hSw; (try dsimp only at hSw); go_simp; try with_reducible rfl
   try simp only [Act.put, sA, sZ, sS, gA, gZ, gS]
   refine tk 21 (v := ?vb22_21) rfl ?hyb22_21 ?_
   case hyb22_21 => intro w hSw; (try dsimp only at hSw); go_simp; try with_reducible rfl
   try simp only [Act.put, sA, sZ, sS, gA, gZ, gS]
   refine r1 22 rfl (fun K hK => ?_)
   go_simp
   refine (unhide CB _ (unhide E1)).mono ?_
   rintro e z3 ⟨rfl, hb3⟩
   have E3 := hide ((unhide E1).step hb3)
   clear hb3
   go_wp2_with fail
   refine hK.out _ _ (unhide HE _ (unhide E3)) (fun _ => ?_)
   clear hK K
   try simp only [Act.put, sA, sZ, sS, gA, gZ, gS]
   refine tk 23 (v := ?vb23_23) rfl ?hyb23_23 ?_
   case hyb23_23 => intro w hSw; (try dsimp only at hSw); go_simp; try with_reducible rfl
   try simp only [Act.put, sA, sZ, sS, gA, gZ, gS]
   refine tk 24 (v := ?vb24_24) rfl ?hyb24_24 ?_
   case hyb24_24 => intro w hSw; (try dsimp only at hSw); go_simp; try with_reducible rfl
   try simp only [Act.put, sA, sZ, sS, gA, gZ, gS]
   refine wpAnyH_done (by kernel_rfl) ?_ _
   go_wp2
   refine bodyPost_ret (v := .tuple #[.int .i64 0, .int .i64 8]) (by simp [results, Tryz.results92, go_sem]) rfl ⟨unhide E3, rfl⟩
 ·rw [if_neg fun h => hi h.1, if_neg fun h => hi h.1]
  have hi2 : (x != y) = true := by simpa using hi
  have hi3 : (x == y) = false := by simpa using hi
  go_enter Tryz.func92, Tryz.ntmps92
  go_upto_region 1 with fail
  have E1 := hide ((unhide HL).step (Below.refl _ _).drew)
  refine wp_region_held_drew (S := fun y9 => y9.cell? ⟨B, 32, none⟩ = some (.int .i64 x) ∧ y9.cell? ⟨B, 15, none⟩ = some (.int .i64 y) ∧ y9.cell? ⟨B, 33, none⟩ = some (.string t) ∧ y9.cell? ⟨B, 17, none⟩ = some v1) (by kernel_rfl) (unhide HE _ (unhide E1)) (fun hHeld => ?_)
  generalize q.drew = yy at E1 hHeld ⊢
  clear HL
  refine tk 0 (v := ?vc1_0) rfl ?hyc1_0 ?_
  case hyc1_0 => intro w hSw; (try dsimp only at hSw); go_simp; try with_reducible rfl
  try simp only [Act.put, sA, sZ, sS, gA, gZ]
  refine tk 1 (v := ?vc2_1) rfl ?hyc2_1 ?_
  case hyc2_1 => intro w hSw; (try dsimp only at hSw); go_simp; try with_reducible rfl
  try simp only [Act.put, sA, sZ, sS, gA, gZ, gS]
  refine tk 2 (v := ?vc3_2) rfl ?hyc3_2 ?_
  case hyc3_2 => intro w hSw; (try dsimp only at hSw); go_simp; try with_reducible rfl
  try simp only [Act.put, sA, sZ, sS, gA, gZ, gS]
  refine tk 3 (v := ?vc4_3) rfl ?hyc4_3 ?_
  case hyc4_3 => intro w hSw; (try dsimp only at hSw); go_simp; try with_reducible rfl
  try simp only [Act.put, sA, sZ, sS, gA, gZ, gS]
  refine tk 4 (v := ?vc5_4) rfl ?hyc5_4 ?_
  case hyc5_4 => intro w hSw; (try dsimp only at hSw); go_simp; try with_reducible rfl
  try simp only [Act.put, sA, sZ, sS, gA, gZ, gS]
  refine tk 5 (v := ?vc6_5) rfl ?hyc6_5 ?_
  case hyc6_5 => intro w hSw; (try dsimp only at hSw); go_simp; try with_reducible rfl
  try simp only [Act.put, sA, sZ, sS, gA, gZ, gS]
  refine tk 6 (v := ?vc7_6) rfl ?hyc7_6 ?_
  case hyc7_6 => intro w hSw; (try dsimp only at hSw); go_simp; try with_reducible rfl
  try simp only [Act.put, sA, sZ, sS, gA, gZ, gS]
  refine tk 7 (v := ?vc8_7) rfl ?hyc8_7 ?_
  case hyc8_7 => intro w hSw; (try dsimp only at hSw); go_simp; try with_reducible rfl
  try simp only [Act.put, sA, sZ, sS, gA, gZ, gS]
  refine tk 8 (v := ?vc9_8) rfl ?hyc9_8 ?_
  case hyc9_8 => intro w hSw; (try dsimp only at hSw); go_simp; try with_reducible rfl
  try simp only [Act.put, sA, sZ, sS, gA, gZ, gS]
  refine tk 9 (v := ?vc10_9) rfl ?hyc10_9 ?_
  case hyc10_9 => intro w hSw; (try dsimp only at hSw); go_simp; try with_reducible rfl
  try simp only [Act.put, sA, sZ, sS, gA, gZ, gS]
  refine tk 10 (v := ?vc11_10) rfl ?hyc11_10 ?_
  case hyc11_10 => intro w hSw; (try dsimp only at hSw); go_simp; try with_reducible rfl
  try simp only [Act.put, sA, sZ, sS, gA, gZ, gS]
  refine tk 11 (v := ?vc12_11) rfl ?hyc12_11 ?_
  case hyc12_11 => intro w hSw; (try dsimp only at hSw); go_simp; try with_reducible rfl
  try simp only [Act.put, sA, sZ, sS, gA, gZ, gS]
  refine wpAnyH_take (i := 12) (v := undef) rfl (by kernel_rfl) (by kernel_rfl) (by kernel_rfl) (fun _ _ _ h => h) (Or.inr ⟨by rfl, rfl⟩) (by assumption) ?_
  try simp only [Act.put, sA, sZ, sS, gA, gZ, gS]
  refine wpAnyH_take (i := 13) (v := undef) rfl (by kernel_rfl) (by kernel_rfl) (by kernel_rfl) (fun _ _ _ h => h) (Or.inr ⟨by rfl, rfl⟩) (by assumption) ?_
  try simp only [Act.put, sA, sZ, sS, gA, gZ, gS]
  refine wpAnyH_take (i := 14) (v := undef) rfl (by kernel_rfl) (by kernel_rfl) (by kernel_rfl) (fun _ _ _ h => h) (Or.inr ⟨by rfl, rfl⟩) (by assumption) ?_
  try simp only [Act.put, sA, sZ, sS, gA, gZ, gS]
  refine wpAnyH_take (i := 15) (v := undef) rfl (by kernel_rfl) (by kernel_rfl) (by kernel_rfl) (fun _ _ _ h => h) (Or.inr ⟨by rfl, rfl⟩) (by assumption) ?_
  try simp only [Act.put, sA, sZ, sS, gA, gZ, gS]
  refine wpAnyH_take (i := 16) (v := undef) rfl (by kernel_rfl) (by kernel_rfl) (by kernel_rfl) (fun _ _ _ h => h) (Or.inr ⟨by rfl, rfl⟩) (by assumption) ?_
  try simp only [Act.put, sA, sZ, sS, gA, gZ, gS]
  refine wpAnyH_take (i := 17) (v := undef) rfl (by kernel_rfl) (by kernel_rfl) (by kernel_rfl) (fun _ _ _ h => h) (Or.inr ⟨by rfl, rfl⟩) (by assumption) ?_
  try simp only [Act.put, sA, sZ, sS, gA, gZ, gS]
  refine wpAnyH_take (i := 18) (v := undef) rfl (by kernel_rfl) (by kernel_rfl) (by kernel_rfl) (fun _ _ _ h => h) (Or.inr ⟨by rfl, rfl⟩) (by assumption) ?_
  try simp only [Act.put, sA, sZ, sS, gA, gZ, gS]
  refine wpAnyH_take (i := 19) (v := undef) rfl (by kernel_rfl) (by kernel_rfl) (by kernel_rfl) (fun _ _ _ h => h) (Or.inr ⟨by rfl, rfl⟩) (by assumption) ?_
  try simp only [Act.put, sA, sZ, sS, gA, gZ, gS]
  refine wpAnyH_take (i := 20) (v := undef) rfl (by kernel_rfl) (by kernel_rfl) (by kernel_rfl) (fun _ _ _ h => h) (Or.inr ⟨by rfl, rfl⟩) (by assumption) ?_
  try simp only [Act.put, sA, sZ, sS, gA, gZ, gS]
  refine wpAnyH_take (i := 21) (v := undef) rfl (by kernel_rfl) (by kernel_rfl) (by kernel_rfl) (fun _ _ _ h => h) (Or.inr ⟨by rfl, rfl⟩) (by assumption) ?_
  try simp only [Act.put, sA, sZ, sS, gA, gZ, gS]
  refine wpAnyH_take (i := 22) (v := undef) rfl (by kernel_rfl) (by kernel_rfl) (by kernel_rfl) (fun _ _ _ h => h) (Or.inr ⟨by rfl, rfl⟩) (by assumption) ?_
  try simp only [Act.put, sA, sZ, sS, gA, gZ, gS]
  refine wpAnyH_take (i := 23) (v := undef) rfl (by kernel_rfl) (by kernel_rfl) (by kernel_rfl) (fun _ _ _ h => h) (Or.inr ⟨by rfl, rfl⟩) (by assumption) ?_
  try simp only [Act.put, sA, sZ, sS, gA, gZ, gS]
  refine tk 24 (v := ?vc25_24) rfl ?hyc25_24 ?_
  case hyc25_24 => intro w hSw; (try dsimp only at hSw); go_simp; try with_reducible rfl
  try simp only [Act.put, sA, sZ, sS, gA, gZ, gS]
  refine wpAnyH_done (by kernel_rfl) ?_ _
  go_wp2
  refine bodyPost_ret (v := .tuple #[.int .i64 0, .int .i64 8]) (by simp [results, Tryz.results92, go_sem]) rfl ⟨unhide E1, rfl⟩
end Go.Proofs.YtahpjlbaagkdoaaGreatDoor
namespace Go.Proofs.YtahpjlbaagkdoaaGreatDoor
open Go.RowKit
set_option maxHeartbeats 2000000 in
set_option maxRecDepth 100000 in
theorem iSame (v : Value) (F : List Op.Opt) (w : World) (hr : Op.right F = true) (h : HoldsO w v F) : Calls Tryz.prog 83 #[v] w fun e w' => ∃ ad cp, e = .returned (.slice ad F.length cp) ∧ w'.ownsRow w.heap.size 116 2 (.slice ad F.length cp) F.length (ocells F) ∧ Below w.heap.size w w' := by
 have hl20 : F.length ≤ 20 := by
  unfold Op.right at hr
  rw [Bool.and_eq_true] at hr
  exact of_decide_eq_true hr.1
 have hok : ∀ o ∈ F, o.data.size ≤ 20 := by
  unfold Op.right at hr
  rw [Bool.and_eq_true] at hr
  exact fun o ho => (of_decide_eq_true (List.all_eq_true.1 hr.2 o ho)).2.2
 have HH := hide h
 obtain ⟨va, vc, rfl⟩ := h.form
 obtain ⟨n, hn⟩ : ∃ n, F.length = n := ⟨_, rfl⟩
 rw [hn] at HH hl20 ⊢
 clear h hr
 go_enter Tryz.func83, Tryz.ntmps83
 go_wp2_with fail
 go_loopw [3, 8] (fun x y wr => ∃ (i : Nat) (ad : Option Addr) (cp : Nat), i ≤ n ∧ y = .int .i64 i ∧ x = .slice ad (F.take i).length cp ∧ wr.ownsRow w.heap.size 116 2 (.slice ad (F.take i).length cp) (F.take i).length (ocells (F.take i)) ∧ Below w.heap.size w wr) (fun x y wr => n - (intOf y).toNat)
 case atStart => exact ⟨0, none, 0, Nat.zero_le _, rfl, rfl, ⟨rfl, Or.inl ⟨rfl, rfl⟩⟩, Below.refl _ _⟩
 case round =>
  obtain ⟨i, ad, cp, hi, rfl, rfl, ho, hb⟩ := hrel
  have hbs := hb.size
  have HO := hide ho
  have HB := hide hb
  by_cases hlt : i < n
  ·have d1 : (i : Int) < (n : Int) := by omega
   have d0 : (0 : Int) ≤ (i : Int) := by omega
   obtain ⟨g, ⟨cp', hv⟩, hgl, k0, k1⟩ := HoldsO.at ((unhide HH).below hb rfl) i (by omega)
   injection hv with hv hv2 hv3
   subst hv hv3
   clear hv2
   have hsz := hok (F[i]'(by omega)) (List.getElem_mem _)
   have HS : Hid (F.take (i + 1) = F.take i ++ [F[i]'(by omega)]) := hide (List.take_succ_eq_append_getElem (by omega))
   have hLl : (F.take i).length ≤ i := by rw [List.length_take]; omega
   generalize F[i]'(by omega) = o at *
   generalize F.take i = L at *
   obtain ⟨kd, dt⟩ := o
   dsimp only at k0 k1 hsz
   have CS := hide fun W => sameOpt kd dt W hsz
   clear ho hb HH hok
   go_wp2_with fail
   refine (unhide CS _).mono ?_
   rintro e w5 ⟨rfl, hb5⟩
   have HB5 := hide ((((unhide HB).alloc hbs _)).trans (hb5.mono (Nat.le_trans hbs (by simp))))
   have HO5 := hide (own_below ((unhide HO).alloc _) hb5)
   have hbs5 := (unhide HB5).size
   clear hb5
   go_wp2_with (first
    | (at_builtin; refine append_opt rfl _ _ rfl w.heap.size (.slice ad L.length cp) L L.length rfl rfl (unhide HO5) kd dt rfl (by omega) hbs5 ?_; rintro v6 w6 ho6 hg6; obtain ⟨a6, c6, rfl⟩ := own_form ho6))
   have hb6 : Below w.heap.size w w6 := ((unhide HB5).alloc hbs5 _).grown hg6 (by simp; omega) (fun q hq => (World.ownsRow.lt (unhide HO5) q hq).1)
   go_roundw
   case rel => exact ⟨i + 1, a6, c6, by omega, by go_num, by rw [unhide HS, List.length_append]; rfl, by rw [unhide HS, List.length_append]; exact ho6, hb6⟩
   case measure => simp [intOf]; omega
  ·have e : i = n := by omega
   subst e
   have HT : Hid (F.take i = F) := hide (List.take_of_length_le (by omega))
   clear ho hb HH
   go_wp2
   go_ret
   rw [unhide HT] at HO ⊢
   rw [hn] at HO ⊢
   exact ⟨ad, cp, rfl, unhide HO, unhide HB⟩
theorem iTime (now : Int) (w : World) : Calls Tryz.prog 37 #[.int .i64 now] w fun e w' => e = .returned (.bool (within 0 1000000000 now)) ∧ w' = w := by
 have C := hide (implWithin now 0 1000000000 w)
 go_enter Tryz.func37, Tryz.ntmps37
 go_wp2_with fail
 refine (unhide C).mono ?_
 rintro r ws ⟨rfl, hws⟩
 replace hws := hws.symm
 subst hws
 go_wp2
 go_ret
 exact ⟨rfl, rfl⟩
end Go.Proofs.YtahpjlbaagkdoaaGreatDoor
