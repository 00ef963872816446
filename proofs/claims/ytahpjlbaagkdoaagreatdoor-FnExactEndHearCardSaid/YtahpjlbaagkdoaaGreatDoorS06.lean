/- How a line is by the options that were agreed to; what each rule of the program makes of a line; what lay in memory stands. The six cells of a block of six; no condition. Rows of two cells, and two blocks made one behind the other. An option's rule, looked for in the map of rules; what lay in memory stands. -/
import Derived.Test.YtahpjlbaagkdoaaGreatDoorS05
import Derived.Test.YtahpjlbaagkdoaaGreatDoorShW
import Derived.Deep.WholeRow
import Derived.Laws.ResultCell
import Derived.Deep.RegionHeld3
namespace Go.Proofs.YtahpjlbaagkdoaaGreatDoor
open Go.RowKit
structure Ln where
 m : Nat
 a : Nat
 p : Bool
 c : Bool
 d : Bool
abbrev lnC (x : Ln) : Array Value := #[.int .i64 x.m, .int .i64 x.a, .bool x.p, .bool x.c, .bool x.d]
def lnK (k : Int) (x : Ln) (n : Nat) : Ln :=
 if k = 1 then (if within 64 300 (n : Int) = true then { x with m := n } else x) else if k = 2 then { x with a := n } else if k = 7 then { x with p := true } else if k = 8 then { x with c := true } else if k = 9 then { x with d := x.d || ((n : Int) == 4) } else x
def lnOne (x : Ln) (o : Op.Opt) : Ln := if sizeK o.kind = some o.data.size then lnK o.kind x (numOf o.data.data.toList) else x
def lineF (F : List Op.Opt) : Ln := F.foldl lnOne ⟨300, 4294967295, false, false, false⟩
def lineOf (F : List Op.Opt) : Ln := if Op.right F = true then lineF F else ⟨0, 0, false, false, false⟩
theorem lineF_snoc (F : List Op.Opt) (i : Nat) (hi : i < F.length) : lineF (F.take (i + 1)) = lnOne (lineF (F.take i)) F[i] := by
 unfold lineF
 rw [List.take_succ_eq_append_getElem hi, List.foldl_append]
 rfl
set_option maxHeartbeats 400000 in
theorem line1 (x : Ln) (n : Nat) (w : World) : Calls Tryz.prog 168 #[.agg (lnC x), .int .i64 n] w fun e w' => e = .returned (.agg (lnC (lnK 1 x n))) ∧ Below w.heap.size w w' := by
 have C := hide fun v => mruRight (n : Int) v
 obtain ⟨m, a, p, c, d⟩ := x
 unfold lnK
 rw [if_pos rfl]
 cases hq : within 64 300 (n : Int)
 ·rw [if_neg (by decide)]
  rw [hq] at C
  unfold lnC
  dsimp only
  go_enter Tryz.func168, Tryz.ntmps168
  go_wp2_with (first | (go_at_call 109; refine (unhide C _).mono ?_; rintro e w1 ⟨rfl, rfl⟩))
  exact bodyPost_ret (v := .agg #[.int .i64 m, .int .i64 a, .bool p, .bool c, .bool d]) (by simp [results, Tryz.results168, go_sem]) rfl ⟨rfl, ((Below.refl _ _).alloc (Nat.le_refl _) _).alloc (by simp) _⟩
 ·rw [if_pos rfl]
  rw [hq] at C
  unfold lnC
  dsimp only
  go_enter Tryz.func168, Tryz.ntmps168
  go_wp2_with (first | (go_at_call 109; refine (unhide C _).mono ?_; rintro e w1 ⟨rfl, rfl⟩))
  exact bodyPost_ret (v := .agg #[.int .i64 n, .int .i64 a, .bool p, .bool c, .bool d]) (by simp [results, Tryz.results168, go_sem]) rfl ⟨rfl, ((Below.refl _ _).alloc (Nat.le_refl _) _).alloc (by simp) _⟩
set_option maxHeartbeats 400000 in
theorem line2 (x : Ln) (n : Nat) (w : World) : Calls Tryz.prog 173 #[.agg (lnC x), .int .i64 n] w fun e w' => e = .returned (.agg (lnC (lnK 2 x n))) ∧ Below w.heap.size w w' := by
 obtain ⟨m, a, p, c, d⟩ := x
 show Calls Tryz.prog 173 #[.agg #[.int .i64 m, .int .i64 a, .bool p, .bool c, .bool d], .int .i64 n] w fun e w' => e = .returned (.agg #[.int .i64 m, .int .i64 n, .bool p, .bool c, .bool d]) ∧ Below w.heap.size w w'
 go_enter Tryz.func173, Tryz.ntmps173
 go_wp2
 exact bodyPost_ret (v := .agg #[.int .i64 m, .int .i64 n, .bool p, .bool c, .bool d]) (by simp [results, Tryz.results173, go_sem]) rfl ⟨rfl, ((Below.refl _ _).alloc (Nat.le_refl _) _).alloc (by simp) _⟩
set_option maxHeartbeats 400000 in
theorem line5 (x : Ln) (n : Nat) (w : World) : Calls Tryz.prog 179 #[.agg (lnC x), .int .i64 n] w fun e w' => e = .returned (.agg (lnC (lnK 5 x n))) ∧ Below w.heap.size w w' := by
 obtain ⟨m, a, p, c, d⟩ := x
 show Calls Tryz.prog 179 #[.agg #[.int .i64 m, .int .i64 a, .bool p, .bool c, .bool d], .int .i64 n] w fun e w' => e = .returned (.agg #[.int .i64 m, .int .i64 a, .bool p, .bool c, .bool d]) ∧ Below w.heap.size w w'
 go_enter Tryz.func179, Tryz.ntmps179
 go_wp2
 exact bodyPost_ret (v := .agg #[.int .i64 m, .int .i64 a, .bool p, .bool c, .bool d]) (by simp [results, Tryz.results179, go_sem]) rfl ⟨rfl, ((Below.refl _ _).alloc (Nat.le_refl _) _).alloc (by simp) _⟩
set_option maxHeartbeats 400000 in
theorem line7 (x : Ln) (n : Nat) (w : World) : Calls Tryz.prog 184 #[.agg (lnC x), .int .i64 n] w fun e w' => e = .returned (.agg (lnC (lnK 7 x n))) ∧ Below w.heap.size w w' := by
 obtain ⟨m, a, p, c, d⟩ := x
 show Calls Tryz.prog 184 #[.agg #[.int .i64 m, .int .i64 a, .bool p, .bool c, .bool d], .int .i64 n] w fun e w' => e = .returned (.agg #[.int .i64 m, .int .i64 a, .bool true, .bool c, .bool d]) ∧ Below w.heap.size w w'
 go_enter Tryz.func184, Tryz.ntmps184
 go_wp2
 exact bodyPost_ret (v := .agg #[.int .i64 m, .int .i64 a, .bool true, .bool c, .bool d]) (by simp [results, Tryz.results184, go_sem]) rfl ⟨rfl, ((Below.refl _ _).alloc (Nat.le_refl _) _).alloc (by simp) _⟩
set_option maxHeartbeats 400000 in
theorem line8 (x : Ln) (n : Nat) (w : World) : Calls Tryz.prog 189 #[.agg (lnC x), .int .i64 n] w fun e w' => e = .returned (.agg (lnC (lnK 8 x n))) ∧ Below w.heap.size w w' := by
 obtain ⟨m, a, p, c, d⟩ := x
 show Calls Tryz.prog 189 #[.agg #[.int .i64 m, .int .i64 a, .bool p, .bool c, .bool d], .int .i64 n] w fun e w' => e = .returned (.agg #[.int .i64 m, .int .i64 a, .bool p, .bool true, .bool d]) ∧ Below w.heap.size w w'
 go_enter Tryz.func189, Tryz.ntmps189
 go_wp2
 exact bodyPost_ret (v := .agg #[.int .i64 m, .int .i64 a, .bool p, .bool true, .bool d]) (by simp [results, Tryz.results189, go_sem]) rfl ⟨rfl, ((Below.refl _ _).alloc (Nat.le_refl _) _).alloc (by simp) _⟩
set_option maxHeartbeats 400000 in
theorem line9 (x : Ln) (n : Nat) (w : World) : Calls Tryz.prog 194 #[.agg (lnC x), .int .i64 n] w fun e w' => e = .returned (.agg (lnC (lnK 9 x n))) ∧ Below w.heap.size w w' := by
 obtain ⟨m, a, p, c, d⟩ := x
 cases d
 ·show Calls Tryz.prog 194 #[.agg #[.int .i64 m, .int .i64 a, .bool p, .bool c, .bool false], .int .i64 n] w fun e w' => e = .returned (.agg #[.int .i64 m, .int .i64 a, .bool p, .bool c, .bool ((n : Int) == 4)]) ∧ Below w.heap.size w w'
  go_enter Tryz.func194, Tryz.ntmps194
  go_wp2
  exact bodyPost_ret (v := .agg #[.int .i64 m, .int .i64 a, .bool p, .bool c, .bool ((n : Int) == 4)]) (by simp [results, Tryz.results194, go_sem]) rfl ⟨rfl, ((Below.refl _ _).alloc (Nat.le_refl _) _).alloc (by simp) _⟩
 ·show Calls Tryz.prog 194 #[.agg #[.int .i64 m, .int .i64 a, .bool p, .bool c, .bool true], .int .i64 n] w fun e w' => e = .returned (.agg #[.int .i64 m, .int .i64 a, .bool p, .bool c, .bool true]) ∧ Below w.heap.size w w'
  go_enter Tryz.func194, Tryz.ntmps194
  go_wp2
  exact bodyPost_ret (v := .agg #[.int .i64 m, .int .i64 a, .bool p, .bool c, .bool true]) (by simp [results, Tryz.results194, go_sem]) rfl ⟨rfl, ((Below.refl _ _).alloc (Nat.le_refl _) _).alloc (by simp) _⟩
structure LnR (k : Int) (s f f2 f3 f4 f5 j : Nat) : Prop where
 fd : Instr.findNow (.int .i64) (.int .i64 k) rules.toList 0 = some (some (j, ruleV s f f2 f3 f4 f5))
 cf : ∀ args W, (callFunc f5 args).run Tryz.prog W = .ok (.enter f5 args) W
 ln : ∀ (x : Ln) (n : Nat) v, Calls Tryz.prog f5 #[.agg (lnC x), .int .i64 n] v fun e w' => e = .returned (.agg (lnC (lnK k x n))) ∧ Below v.heap.size v w'
set_option maxRecDepth 100000 in
theorem ln_row (k : Int) : (∃ s f f2 f3 f4 f5 j, sizeK k = some s ∧ LnR k s f f2 f3 f4 f5 j) ∨ (sizeK k = none ∧ Instr.findNow (.int .i64) (.int .i64 k) rules.toList 0 = some none) := by
 by_cases h1 : k = 1
 ·subst h1
  exact Or.inl ⟨2, _, _, _, _, _, _, rfl, ⟨rfl, cf_of (by kernel_rfl), fun x n v => line1 x n v⟩⟩
 by_cases h2 : k = 2
 ·subst h2
  exact Or.inl ⟨4, _, _, _, _, _, _, rfl, ⟨rfl, cf_of (by kernel_rfl), fun x n v => line2 x n v⟩⟩
 by_cases h5 : k = 5
 ·subst h5
  exact Or.inl ⟨4, _, _, _, _, _, _, rfl, ⟨rfl, cf_of (by kernel_rfl), fun x n v => line5 x n v⟩⟩
 by_cases h7 : k = 7
 ·subst h7
  exact Or.inl ⟨0, _, _, _, _, _, _, rfl, ⟨rfl, cf_of (by kernel_rfl), fun x n v => line7 x n v⟩⟩
 by_cases h8 : k = 8
 ·subst h8
  exact Or.inl ⟨0, _, _, _, _, _, _, rfl, ⟨rfl, cf_of (by kernel_rfl), fun x n v => line8 x n v⟩⟩
 by_cases h9 : k = 9
 ·subst h9
  exact Or.inl ⟨1, _, _, _, _, _, _, rfl, ⟨rfl, cf_of (by kernel_rfl), fun x n v => line9 x n v⟩⟩
 ·refine Or.inr ⟨by simp [sizeK, h1, h2, h5, h7, h8, h9], ?_⟩
  have e1 : (k == 1) = false := beq_eq_false_iff_ne.2 h1
  have e2 : (k == 2) = false := beq_eq_false_iff_ne.2 h2
  have e5 : (k == 5) = false := beq_eq_false_iff_ne.2 h5
  have e7 : (k == 7) = false := beq_eq_false_iff_ne.2 h7
  have e8 : (k == 8) = false := beq_eq_false_iff_ne.2 h8
  have e9 : (k == 9) = false := beq_eq_false_iff_ne.2 h9
  simp [Instr.findNow, rules, Instr.sameNow, e1, e2, e5, e7, e8, e9]
theorem row6 {w : World} {B : Nat} {x0 x1 x2 x3 x4 x5 : Value} {T : TypeId} (h : w.heap[B]? = some (.cells #[x0, x1, x2, x3, x4, x5] T)) :
  w.cell? ⟨B, 0, none⟩ = some x0 ∧ w.cell? ⟨B, 1, none⟩ = some x1 ∧ w.cell? ⟨B, 2, none⟩ = some x2 ∧ w.cell? ⟨B, 3, none⟩ = some x3 ∧ w.cell? ⟨B, 4, none⟩ = some x4 ∧ w.cell? ⟨B, 5, none⟩ = some x5 :=
 ⟨by rw [cell_of_row _ _ 0 _ _ (0, 0) h]; rfl, by rw [cell_of_row _ _ 1 _ _ (0, 0) h]; rfl, by rw [cell_of_row _ _ 2 _ _ (0, 0) h]; rfl, by rw [cell_of_row _ _ 3 _ _ (0, 0) h]; rfl,
  by rw [cell_of_row _ _ 4 _ _ (0, 0) h]; rfl, by rw [cell_of_row _ _ 5 _ _ (0, 0) h]; rfl⟩
theorem row2x {w : World} {B : Nat} {x0 x1 : Value} {T : TypeId} (h : w.heap[B]? = some (.cells #[x0, x1] T)) :
  w.cell? ⟨B, 0, none⟩ = some x0 ∧ w.cell? ⟨B, 1, none⟩ = some x1 ∧ w.frozen? ⟨B, 0, none⟩ = false ∧ w.frozen? ⟨B, 1, none⟩ = false :=
 ⟨by rw [cell_of_row _ _ _ _ _ _ h]; rfl, by rw [cell_of_row _ _ _ _ _ _ h]; rfl, frz h _, frz h _⟩
theorem start2r (w : World) (a b : Obj) : ((w.alloc a).alloc b).heap.size = w.heap.size + 1 + 1 ∧ ((w.alloc a).alloc b).heap[w.heap.size]? = some a ∧ ((w.alloc a).alloc b).heap[w.heap.size + 1]? = some b ∧ Below w.heap.size w ((w.alloc a).alloc b) := by
 have s1 : (w.alloc a).heap.size = w.heap.size + 1 := by simp
 have e2 := heap_alloc_new (w.alloc a) b
 rw [s1] at e2
 refine ⟨by simp, ?_, e2, ((Below.refl _ _).alloc (Nat.le_refl _) _).alloc (by omega) _⟩
 rw [Below.heap_alloc _ _ _ (by omega)]
 exact heap_alloc_new w a
theorem infoOp : (Tryz.prog.info? 116).map (·.size) = some 2 := by kernel_rfl
theorem load2 {W : World} {E : Nat} {x0 x1 : Value} (h : W.heap[E]? = some (.cells #[x0, x1] 116)) : (loadVar 116 ⟨E, 0, none⟩).run Tryz.prog W = .ok (.agg #[x0, x1]) W :=
 run_loadVar_row (P := Tryz.prog) _ _ 116 116 #[x0, x1] (0, 0) _ h Tryz.underlying116 rfl infoOp
theorem set2_at {W : World} {E : Nat} {z0 z1 : Value} {T : TypeId} (h : W.heap[E]? = some (.cells #[z0, z1] T)) (x0 x1 : Value) :
  ((W.setCell ⟨E, 0, none⟩ x0).setCell ⟨E, 1, none⟩ x1).heap[E]? = some (.cells #[x0, x1] T) :=
 heap_setCell_same _ _ 1 _ _ x1 (heap_setCell_same _ _ 0 _ _ x0 h)
theorem look2_at (w : World) (M : Nat) (es : Array MapEntry) (c i : Nat) (k : Int) (v : Value) (hb : w.heap[M]? = some (.map es c)) (hf : Instr.findNow (.int .i64) (.int .i64 k) es.toList 0 = some (some (i, v))) :
  (Instr.lookup 177 (.map (some M)) (.int .i64 k) true).run Tryz.prog w = .ok (.tuple #[v, .bool true]) w := by
 unfold Instr.lookup
 simp only [Sem.run_bind, Sem.run_pure, run_underlying Tryz.underlying177, MapKept.run_getObj_map hb, MapKept.run_checkKey Tryz.underlying2 (d := .int .i64) (k := .int .i64 k) (by trivial), MapKept.run_findKey Tryz.underlying2 hf, Result.andThen]
 rfl
abbrev noRule : Value := .agg #[.int .i64 0, .nilFunc, .nilFunc, .nilFunc, .nilFunc, .nilFunc]
theorem look2_no (w : World) (M : Nat) (es : Array MapEntry) (c : Nat) (k : Int) (hb : w.heap[M]? = some (.map es c)) (hf : Instr.findNow (.int .i64) (.int .i64 k) es.toList 0 = some none) :
  (Instr.lookup 177 (.map (some M)) (.int .i64 k) true).run Tryz.prog w = .ok (.tuple #[noRule, .bool false]) w := by
 unfold Instr.lookup
 simp only [Sem.run_bind, Sem.run_pure, run_underlying Tryz.underlying177, MapKept.run_getObj_map hb, MapKept.run_checkKey Tryz.underlying2 (d := .int .i64) (k := .int .i64 k) (by trivial), MapKept.run_findKey Tryz.underlying2 hf, Result.andThen, Tryz.zeroValue185]
 rfl
theorem info6 : (Tryz.prog.info? 185).map (·.size) = some 6 := by kernel_rfl
theorem load6 {W : World} {E : Nat} {x0 x1 x2 x3 x4 x5 : Value} (h : W.heap[E]? = some (.cells #[x0, x1, x2, x3, x4, x5] 185)) : (loadVar 185 ⟨E, 0, none⟩).run Tryz.prog W = .ok (.agg #[x0, x1, x2, x3, x4, x5]) W :=
 run_loadVar_row (P := Tryz.prog) _ _ 185 185 #[x0, x1, x2, x3, x4, x5] (0, 0) _ h Tryz.underlying185 rfl info6
theorem load6d {W : World} {E : Nat} {x0 x1 x2 x3 x4 x5 : Value} (h : W.heap[E]? = some (.cells #[x0, x1, x2, x3, x4, x5] 185)) : (loadVar 185 ⟨E, 0, none⟩).run Tryz.prog W.drew = .ok (.agg #[x0, x1, x2, x3, x4, x5]) W.drew :=
 load6 (W := W.drew) h
theorem set6_at {W : World} {E : Nat} {z0 z1 z2 z3 z4 z5 : Value} {T : TypeId} (h : W.heap[E]? = some (.cells #[z0, z1, z2, z3, z4, z5] T)) (x0 x1 x2 x3 x4 x5 : Value) :
  ((((((W.setCell ⟨E, 0, none⟩ x0).setCell ⟨E, 1, none⟩ x1).setCell ⟨E, 2, none⟩ x2).setCell ⟨E, 3, none⟩ x3).setCell ⟨E, 4, none⟩ x4).setCell ⟨E, 5, none⟩ x5).heap[E]? = some (.cells #[x0, x1, x2, x3, x4, x5] T) :=
 heap_setCell_same _ _ 5 _ _ x5 (heap_setCell_same _ _ 4 _ _ x4 (heap_setCell_same _ _ 3 _ _ x3 (heap_setCell_same _ _ 2 _ _ x2 (heap_setCell_same _ _ 1 _ _ x1 (heap_setCell_same _ _ 0 _ _ x0 h)))))
theorem set6_below {n : Nat} {w W : World} {E : Nat} (h : Below n w W) (hE : n ≤ E) (x0 x1 x2 x3 x4 x5 : Value) :
  Below n w ((((((W.setCell ⟨E, 0, none⟩ x0).setCell ⟨E, 1, none⟩ x1).setCell ⟨E, 2, none⟩ x2).setCell ⟨E, 3, none⟩ x3).setCell ⟨E, 4, none⟩ x4).setCell ⟨E, 5, none⟩ x5) :=
 (((((h.setCell (p := ⟨E, 0, none⟩) hE _).setCell (p := ⟨E, 1, none⟩) hE _).setCell (p := ⟨E, 2, none⟩) hE _).setCell (p := ⟨E, 3, none⟩) hE _).setCell (p := ⟨E, 4, none⟩) hE _).setCell (p := ⟨E, 5, none⟩) hE _
theorem row6f {w : World} {B : Nat} {x0 x1 x2 x3 x4 x5 : Value} {T : TypeId} (h : w.heap[B]? = some (.cells #[x0, x1, x2, x3, x4, x5] T)) :
  w.frozen? ⟨B, 0, none⟩ = false ∧ w.frozen? ⟨B, 1, none⟩ = false ∧ w.frozen? ⟨B, 2, none⟩ = false ∧ w.frozen? ⟨B, 3, none⟩ = false ∧ w.frozen? ⟨B, 4, none⟩ = false ∧ w.frozen? ⟨B, 5, none⟩ = false :=
 ⟨frz h _, frz h _, frz h _, frz h _, frz h _, frz h _⟩
set_option maxHeartbeats 2000000 in
theorem ruleOf_yes (M : Nat) (k : Int) (t : ByteArray) (s f f2 f3 f4 f5 j : Nat) (w : World) (hM : w.heap[M]? = some (.map rules 6)) (hf : Instr.findNow (.int .i64) (.int .i64 k) rules.toList 0 = some (some (j, ruleV s f f2 f3 f4 f5))) :
  Calls Tryz.prog 134 #[.map (some M), .agg #[.int .i64 k, .string t]] w fun e w' => e = .returned (.tuple #[ruleV s f f2 f3 f4 f5, .bool ((t.size : Int) == (s : Int))]) ∧ Below w.heap.size w w' := by
 have hMl : M < w.heap.size := (Array.getElem?_eq_some_iff.1 hM).1
 obtain ⟨hs, q0, q1, hb0⟩ := start2r w (.cells #[.int .i64 k, .string t] 116) (.cells #[.int .i64 0, .nilFunc, .nilFunc, .nilFunc, .nilFunc, .nilFunc] 185)
 have hlk := look2_at ((w.alloc (.cells #[.int .i64 k, .string t] 116)).alloc (.cells #[.int .i64 0, .nilFunc, .nilFunc, .nilFunc, .nilFunc, .nilFunc] 185)) M rules 6 j k _ ((hb0.block M hMl).trans hM) hf
 have HQ := hide (And.intro hs (And.intro q0 (And.intro q1 hb0)))
 clear hs q0 q1 hb0 hM hf
 go_enter Tryz.func134, Tryz.ntmps134
 go_upto_region 2 with fail
 refine gen_world (fun q => q.heap[w.heap.size]? = some (.cells #[.int .i64 k, .string t] 116) ∧ q.heap[w.heap.size + 1]? = some (.cells #[.int .i64 0, .nilFunc, .nilFunc, .nilFunc, .nilFunc, .nilFunc] 185) ∧ q.heap[w.heap.size + 1 + 1]? = some (.cells #[.int .i64 s, fnV f, fnV f2, fnV f3, fnV f4, fnV f5] 185) ∧ Below w.heap.size w q) (by
   obtain ⟨hs, q0, q1, hb0⟩ := unhide HQ
   have hn := heap_alloc_new ((w.alloc (.cells #[.int .i64 k, .string t] 116)).alloc (.cells #[.int .i64 0, .nilFunc, .nilFunc, .nilFunc, .nilFunc, .nilFunc] 185)) (.cells #[.int .i64 s, fnV f, fnV f2, fnV f3, fnV f4, fnV f5] 185)
   rw [hs] at hn
   exact ⟨(Below.heap_alloc _ _ _ (by omega)).trans q0, (Below.heap_alloc _ _ _ (by omega)).trans q1, hn, hb0.alloc hb0.size _⟩) ?_
 rintro q ⟨h0, h1, h2, hb⟩
 clear hlk HQ
 obtain ⟨c0, c1, _, _⟩ := row2x h0
 obtain ⟨e0, e1, e2, e3, e4, e5⟩ := row6 h1
 obtain ⟨g0, g1, g2, g3, g4, g5⟩ := row6f h1
 obtain ⟨r0, r1, r2, r3, r4, r5⟩ := row6 h2
 have HH := hide (And.intro h1 hb)
 clear h0 h1 h2 hb
 go_region_held3 (fun z => z.cell? ⟨w.heap.size, 1, none⟩ = some (.string t) ∧ z.cell? ⟨w.heap.size + 1 + 1, 0, none⟩ = some (.int .i64 s) ∧ z.cell? ⟨w.heap.size + 1 + 1, 1, none⟩ = some (fnV f) ∧ z.cell? ⟨w.heap.size + 1 + 1, 2, none⟩ = some (fnV f2) ∧ z.cell? ⟨w.heap.size + 1 + 1, 3, none⟩ = some (fnV f3) ∧ z.cell? ⟨w.heap.size + 1 + 1, 4, none⟩ = some (fnV f4) ∧ z.cell? ⟨w.heap.size + 1 + 1, 5, none⟩ = some (fnV f5)) (go_keep) (fail)
 all_goals
  go_wp2
  refine bodyPost_ret (v := .tuple #[ruleV s f f2 f3 f4 f5, .bool ((t.size : Int) == (s : Int))]) (by simp [results, Tryz.results134, asAddr, load6d (set6_at (unhide HH).1 (.int .i64 s) (fnV f) (fnV f2) (fnV f3) (fnV f4) (fnV f5))]) rfl ⟨rfl, ?_⟩
  exact (set6_below (unhide HH).2 (Nat.le_succ _) _ _ _ _ _ _).drew
set_option maxHeartbeats 2000000 in
theorem ruleOf_no (M : Nat) (k : Int) (t : ByteArray) (w : World) (hM : w.heap[M]? = some (.map rules 6)) (hf : Instr.findNow (.int .i64) (.int .i64 k) rules.toList 0 = some none) :
  Calls Tryz.prog 134 #[.map (some M), .agg #[.int .i64 k, .string t]] w fun e w' => e = .returned (.tuple #[noRule, .bool false]) ∧ Below w.heap.size w w' := by
 have hMl : M < w.heap.size := (Array.getElem?_eq_some_iff.1 hM).1
 obtain ⟨hs, q0, q1, hb0⟩ := start2r w (.cells #[.int .i64 k, .string t] 116) (.cells #[.int .i64 0, .nilFunc, .nilFunc, .nilFunc, .nilFunc, .nilFunc] 185)
 have hlk := look2_no ((w.alloc (.cells #[.int .i64 k, .string t] 116)).alloc (.cells #[.int .i64 0, .nilFunc, .nilFunc, .nilFunc, .nilFunc, .nilFunc] 185)) M rules 6 k ((hb0.block M hMl).trans hM) hf
 have HQ := hide (And.intro hs (And.intro q0 (And.intro q1 hb0)))
 clear hs q0 q1 hb0 hM hf
 go_enter Tryz.func134, Tryz.ntmps134
 go_upto_region 2 with fail
 refine gen_world (fun q => q.heap[w.heap.size]? = some (.cells #[.int .i64 k, .string t] 116) ∧ q.heap[w.heap.size + 1]? = some (.cells #[.int .i64 0, .nilFunc, .nilFunc, .nilFunc, .nilFunc, .nilFunc] 185) ∧ q.heap[w.heap.size + 1 + 1]? = some (.cells #[.int .i64 0, .nilFunc, .nilFunc, .nilFunc, .nilFunc, .nilFunc] 185) ∧ Below w.heap.size w q) (by
   obtain ⟨hs, q0, q1, hb0⟩ := unhide HQ
   have hn := heap_alloc_new ((w.alloc (.cells #[.int .i64 k, .string t] 116)).alloc (.cells #[.int .i64 0, .nilFunc, .nilFunc, .nilFunc, .nilFunc, .nilFunc] 185)) (.cells #[.int .i64 0, .nilFunc, .nilFunc, .nilFunc, .nilFunc, .nilFunc] 185)
   rw [hs] at hn
   exact ⟨(Below.heap_alloc _ _ _ (by omega)).trans q0, (Below.heap_alloc _ _ _ (by omega)).trans q1, hn, hb0.alloc hb0.size _⟩) ?_
 rintro q ⟨h0, h1, h2, hb⟩
 clear hlk HQ
 obtain ⟨c0, c1, _, _⟩ := row2x h0
 obtain ⟨e0, e1, e2, e3, e4, e5⟩ := row6 h1
 obtain ⟨g0, g1, g2, g3, g4, g5⟩ := row6f h1
 obtain ⟨r0, r1, r2, r3, r4, r5⟩ := row6 h2
 have HH := hide (And.intro h1 hb)
 clear h0 h1 h2 hb
 go_region
 all_goals
  go_wp2
  refine bodyPost_ret (v := .tuple #[noRule, .bool false]) (by simp [results, Tryz.results134, asAddr, load6d (set6_at (unhide HH).1 (.int .i64 0) .nilFunc .nilFunc .nilFunc .nilFunc .nilFunc)]) rfl ⟨rfl, ?_⟩
  exact (set6_below (unhide HH).2 (Nat.le_succ _) _ _ _ _ _ _).drew
end Go.Proofs.YtahpjlbaagkdoaaGreatDoor
