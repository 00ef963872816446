/- The rules of options, by kind, as the program lays them in a map; what lay in memory stands. A Config as a value, a call that goes in, an order drawn: what the rules' texts share. Is a Config right: the program's and the model's walks; what lay in memory stands. A number of up to four bytes, the highest first: the program's highestFirst, the model's l05Get; what lay in memory stands. A number of up to four bytes, the highest first: the program's numberOf, the model's l05Get; the number of bytes, and what bits of numbers are; what lay in memory stands. How many bytes an option of a kind has; no condition. -/
import Derived.Test.YtahpjlbaagkdoaaGreatDoorShW
import Derived.MapKept
import Derived.Laws.EntriesVeiled
import Derived.Deep.WholeRow
import Derived.Test.YtahpjlbaagkdoaaGreatDoorS02
import Derived.Deep.QuietTactic
import Derived.BigQuiet
namespace Go.Proofs.YtahpjlbaagkdoaaGreatDoor
open Go.RowKit
abbrev fnV (f : Nat) : Value := .func (.func f) #[] #[]
abbrev ruleV (k : Int) (a b c d e : Nat) : Value := .agg #[.int .i64 k, fnV a, fnV b, fnV c, fnV d, fnV e]
theorem put_at (w : World) (M : Nat) (es : Array MapEntry) (c : Nat) (k : Int) (v : Value) (hb : w.heap[M]? = some (.map es c)) (hf : Instr.findNow (.int .i64) (.int .i64 k) es.toList 0 = some none) :
  ∃ W, (Instr.mapUpdate 177 (.map (some M)) (.int .i64 k) v).run Tryz.prog w = .ok () W ∧ W.heap[M]? = some (.map (es.push { key := .int .i64 k, val := v, born := c }) (c + 1)) ∧ (∀ B, B ≤ M → Below B w W) := by
 refine ⟨{ w with heap := w.heap.setIfInBounds M (.map (es.push { key := .int .i64 k, val := v, born := c }) (c + 1)) }, ?_, (MapKept.heap_set hb).1, fun B hB => ⟨rfl, rfl, rfl, ?_, fun g hg => (MapKept.heap_set hb).2 g (by omega)⟩⟩
 ·unfold Instr.mapUpdate
  simp only [Sem.run_bind, run_underlying Tryz.underlying177, MapKept.run_getObj_map hb, MapKept.run_checkKey Tryz.underlying2 (d := .int .i64) (k := .int .i64 k) (by trivial), MapKept.run_findKey Tryz.underlying2 hf, Result.andThen]
  rw [MapKept.run_setObj_map _ hb]
 ·simp
theorem look_at (w : World) (M : Nat) (es : Array MapEntry) (c i : Nat) (k : Int) (v : Value) (hb : w.heap[M]? = some (.map es c)) (hf : Instr.findNow (.int .i64) (.int .i64 k) es.toList 0 = some (some (i, v))) :
  (Instr.lookup 177 (.map (some M)) (.int .i64 k) false).run Tryz.prog w = .ok v w := by
 unfold Instr.lookup
 simp only [Sem.run_bind, Sem.run_pure, run_underlying Tryz.underlying177, MapKept.run_getObj_map hb, MapKept.run_checkKey Tryz.underlying2 (d := .int .i64) (k := .int .i64 k) (by trivial), MapKept.run_findKey Tryz.underlying2 hf, Result.andThen]
 rfl
set_option maxHeartbeats 400000 in
theorem mruRule (w : World) : Calls Tryz.prog 145 #[] w fun e w' => e = .returned (ruleV 2 163 164 166 167 168) ∧ Below w.heap.size w w' := by
 go_enter Tryz.func145, Tryz.ntmps145
 go_wp2
 refine bodyPost_ret (v := (ruleV 2 163 164 166 167 168)) (by simp [results, Tryz.results145, go_sem]) rfl ⟨rfl, ?_⟩
 exact (Below.refl _ _).alloc (Nat.le_refl _) _
set_option maxHeartbeats 400000 in
theorem accmRule (w : World) : Calls Tryz.prog 146 #[] w fun e w' => e = .returned (ruleV 4 169 170 171 172 173) ∧ Below w.heap.size w w' := by
 go_enter Tryz.func146, Tryz.ntmps146
 go_wp2
 refine bodyPost_ret (v := (ruleV 4 169 170 171 172 173)) (by simp [results, Tryz.results146, go_sem]) rfl ⟨rfl, ?_⟩
 exact (Below.refl _ _).alloc (Nat.le_refl _) _
set_option maxHeartbeats 400000 in
theorem magicRule (w : World) : Calls Tryz.prog 147 #[] w fun e w' => e = .returned (ruleV 4 174 175 177 178 179) ∧ Below w.heap.size w w' := by
 go_enter Tryz.func147, Tryz.ntmps147
 go_wp2
 refine bodyPost_ret (v := (ruleV 4 174 175 177 178 179)) (by simp [results, Tryz.results147, go_sem]) rfl ⟨rfl, ?_⟩
 exact (Below.refl _ _).alloc (Nat.le_refl _) _
set_option maxHeartbeats 400000 in
theorem pfcRule (w : World) : Calls Tryz.prog 148 #[] w fun e w' => e = .returned (ruleV 0 180 181 182 183 184) ∧ Below w.heap.size w w' := by
 go_enter Tryz.func148, Tryz.ntmps148
 go_wp2
 refine bodyPost_ret (v := (ruleV 0 180 181 182 183 184)) (by simp [results, Tryz.results148, go_sem]) rfl ⟨rfl, ?_⟩
 exact (Below.refl _ _).alloc (Nat.le_refl _) _
set_option maxHeartbeats 400000 in
theorem acfcRule (w : World) : Calls Tryz.prog 149 #[] w fun e w' => e = .returned (ruleV 0 185 186 187 188 189) ∧ Below w.heap.size w w' := by
 go_enter Tryz.func149, Tryz.ntmps149
 go_wp2
 refine bodyPost_ret (v := (ruleV 0 185 186 187 188 189)) (by simp [results, Tryz.results149, go_sem]) rfl ⟨rfl, ?_⟩
 exact (Below.refl _ _).alloc (Nat.le_refl _) _
set_option maxHeartbeats 400000 in
theorem fcsRule (w : World) : Calls Tryz.prog 150 #[] w fun e w' => e = .returned (ruleV 1 190 191 192 193 194) ∧ Below w.heap.size w w' := by
 go_enter Tryz.func150, Tryz.ntmps150
 go_wp2
 refine bodyPost_ret (v := (ruleV 1 190 191 192 193 194)) (by simp [results, Tryz.results150, go_sem]) rfl ⟨rfl, ?_⟩
 exact (Below.refl _ _).alloc (Nat.le_refl _) _
def rules : Array MapEntry := #[{ key := .int .i64 1, val := (ruleV 2 163 164 166 167 168), born := 0 }, { key := .int .i64 2, val := (ruleV 4 169 170 171 172 173), born := 1 }, { key := .int .i64 5, val := (ruleV 4 174 175 177 178 179), born := 2 }, { key := .int .i64 7, val := (ruleV 0 180 181 182 183 184), born := 3 }, { key := .int .i64 8, val := (ruleV 0 185 186 187 188 189), born := 4 }, { key := .int .i64 9, val := (ruleV 1 190 191 192 193 194), born := 5 }]
set_option maxHeartbeats 2000000 in
theorem optionRules (w : World) : Calls Tryz.prog 133 #[] w fun e w' => e = .returned (.map (some w.heap.size)) ∧ w'.heap[w.heap.size]? = some (.map rules 6) ∧ Below w.heap.size w w' := by
 have hmm := @run_makeMap Tryz.prog
 have hb0 := (Below.refl w.heap.size w).alloc (Nat.le_refl _) (.map #[] 0)
 have hm0 : (w.alloc (.map #[] 0)).heap[w.heap.size]? = some (.map #[] 0) := heap_alloc_last w _
 have hl0 : (w.alloc (.map #[] 0)).heap.size = w.heap.size + 1 := by simp
 go_enter Tryz.func133, Tryz.ntmps133
 go_wp2_with fail
 refine (mruRule _).mono ?_
 rintro e v1 ⟨rfl, hc1⟩
 have hn1 := (hc1.block w.heap.size (Array.getElem?_eq_some_iff.1 hm0).1).trans hm0
 have hd1 := hb0.trans (hc1.mono hb0.size)
 obtain ⟨w1, hp1, hm1, hq1⟩ := put_at v1 w.heap.size #[] 0 1 (ruleV 2 163 164 166 167 168) hn1 rfl
 have hb1 := hd1.trans (hq1 _ (Nat.le_refl _))
 simp only [List.push_toArray, List.nil_append] at hm1
 clear hc1 hn1 hd1 hq1 hb0 hm0
 go_wp2_with fail
 refine (accmRule _).mono ?_
 rintro e v2 ⟨rfl, hc2⟩
 have hn2 := (hc2.block w.heap.size (Array.getElem?_eq_some_iff.1 hm1).1).trans hm1
 have hd2 := hb1.trans (hc2.mono hb1.size)
 obtain ⟨w2, hp2, hm2, hq2⟩ := put_at v2 w.heap.size #[{ key := .int .i64 1, val := (ruleV 2 163 164 166 167 168), born := 0 }] 1 2 (ruleV 4 169 170 171 172 173) hn2 rfl
 have hb2 := hd2.trans (hq2 _ (Nat.le_refl _))
 simp only [List.push_toArray, List.cons_append, List.nil_append] at hm2
 clear hc2 hn2 hd2 hq2 hb1 hm1
 go_wp2_with fail
 refine (magicRule _).mono ?_
 rintro e v3 ⟨rfl, hc3⟩
 have hn3 := (hc3.block w.heap.size (Array.getElem?_eq_some_iff.1 hm2).1).trans hm2
 have hd3 := hb2.trans (hc3.mono hb2.size)
 obtain ⟨w3, hp3, hm3, hq3⟩ := put_at v3 w.heap.size #[{ key := .int .i64 1, val := (ruleV 2 163 164 166 167 168), born := 0 }, { key := .int .i64 2, val := (ruleV 4 169 170 171 172 173), born := 1 }] 2 5 (ruleV 4 174 175 177 178 179) hn3 rfl
 have hb3 := hd3.trans (hq3 _ (Nat.le_refl _))
 simp only [List.push_toArray, List.cons_append, List.nil_append] at hm3
 clear hc3 hn3 hd3 hq3 hb2 hm2
 go_wp2_with fail
 refine (pfcRule _).mono ?_
 rintro e v4 ⟨rfl, hc4⟩
 have hn4 := (hc4.block w.heap.size (Array.getElem?_eq_some_iff.1 hm3).1).trans hm3
 have hd4 := hb3.trans (hc4.mono hb3.size)
 obtain ⟨w4, hp4, hm4, hq4⟩ := put_at v4 w.heap.size #[{ key := .int .i64 1, val := (ruleV 2 163 164 166 167 168), born := 0 }, { key := .int .i64 2, val := (ruleV 4 169 170 171 172 173), born := 1 }, { key := .int .i64 5, val := (ruleV 4 174 175 177 178 179), born := 2 }] 3 7 (ruleV 0 180 181 182 183 184) hn4 rfl
 have hb4 := hd4.trans (hq4 _ (Nat.le_refl _))
 simp only [List.push_toArray, List.cons_append, List.nil_append] at hm4
 clear hc4 hn4 hd4 hq4 hb3 hm3
 go_wp2_with fail
 refine (acfcRule _).mono ?_
 rintro e v5 ⟨rfl, hc5⟩
 have hn5 := (hc5.block w.heap.size (Array.getElem?_eq_some_iff.1 hm4).1).trans hm4
 have hd5 := hb4.trans (hc5.mono hb4.size)
 obtain ⟨w5, hp5, hm5, hq5⟩ := put_at v5 w.heap.size #[{ key := .int .i64 1, val := (ruleV 2 163 164 166 167 168), born := 0 }, { key := .int .i64 2, val := (ruleV 4 169 170 171 172 173), born := 1 }, { key := .int .i64 5, val := (ruleV 4 174 175 177 178 179), born := 2 }, { key := .int .i64 7, val := (ruleV 0 180 181 182 183 184), born := 3 }] 4 8 (ruleV 0 185 186 187 188 189) hn5 rfl
 have hb5 := hd5.trans (hq5 _ (Nat.le_refl _))
 simp only [List.push_toArray, List.cons_append, List.nil_append] at hm5
 clear hc5 hn5 hd5 hq5 hb4 hm4
 go_wp2_with fail
 refine (fcsRule _).mono ?_
 rintro e v6 ⟨rfl, hc6⟩
 have hn6 := (hc6.block w.heap.size (Array.getElem?_eq_some_iff.1 hm5).1).trans hm5
 have hd6 := hb5.trans (hc6.mono hb5.size)
 obtain ⟨w6, hp6, hm6, hq6⟩ := put_at v6 w.heap.size #[{ key := .int .i64 1, val := (ruleV 2 163 164 166 167 168), born := 0 }, { key := .int .i64 2, val := (ruleV 4 169 170 171 172 173), born := 1 }, { key := .int .i64 5, val := (ruleV 4 174 175 177 178 179), born := 2 }, { key := .int .i64 7, val := (ruleV 0 180 181 182 183 184), born := 3 }, { key := .int .i64 8, val := (ruleV 0 185 186 187 188 189), born := 4 }] 5 9 (ruleV 1 190 191 192 193 194) hn6 rfl
 have hb6 := hd6.trans (hq6 _ (Nat.le_refl _))
 simp only [List.push_toArray, List.cons_append, List.nil_append] at hm6
 clear hc6 hn6 hd6 hq6 hb5 hm5
 go_wp2
 go_ret
 exact ⟨rfl, hm6, hb6⟩
theorem below_drewN {n : Nat} {w W : World} (h : Below n w W) (k : Nat) : Below n w (W.drewN k) := ⟨h.os, h.tape, h.output, h.size, h.block⟩
abbrev cfgV (m a g : Int) (p c d : Bool) : Value := .agg #[.int .i64 m, .int .i64 a, .int .i64 g, .bool p, .bool c, .bool d]
theorem cf_of {f : Nat} (h : (Tryz.prog.funcs[f]?).map (fun fn => (fn.name == "runtime.NumGoroutine") || fn.body.isNone) = some false) (args : Array Value) (W : World) : (callFunc f args).run Tryz.prog W = .ok (.enter f args) W := by
 obtain ⟨fn, hf, h2⟩ := Option.map_eq_some_iff.1 h
 rw [Bool.or_eq_false_iff] at h2
 unfold callFunc
 have h3 : ¬ (fn.name = "runtime.NumGoroutine") := beq_eq_false_iff_ne.1 h2.1
 have h4 : ¬ (fn.body = none) := fun e => by rw [e] at h2; exact absurd h2.2 (by decide)
 simp [go_sem, hf, h3, h4]
def within (lo hi x : Int) : Bool := decide (lo ≤ x) && decide (x ≤ hi)
def cfgOk (m a g : Int) : Bool := within 64 300 m && (within 0 4294967295 a && within 0 4294967295 g)
set_option maxHeartbeats 400000 in
theorem mruRight (x : Int) (w : World) : Calls Tryz.prog 109 #[.int .i64 x] w fun e w' => e = .returned (.bool (within 64 300 x)) ∧ w' = w := by
 by_cases h1 : 64 ≤ x
 ·have d1 : decide ((64 : Int) ≤ x) = true := decide_eq_true h1
  by_cases h2 : x ≤ 300
  ·have d2 : decide (x ≤ 300) = true := decide_eq_true h2
   rw [show within 64 300 x = true by simp [within, h1, h2]]
   go_enter Tryz.func109, Tryz.ntmps109
   go_wp2
   go_ret
   exact ⟨rfl, rfl⟩
  ·have d2 : decide (x ≤ 300) = false := decide_eq_false h2
   rw [show within 64 300 x = false by simp [within, h2]]
   go_enter Tryz.func109, Tryz.ntmps109
   go_wp2
   go_ret
   exact ⟨rfl, rfl⟩
 ·have d1 : decide ((64 : Int) ≤ x) = false := decide_eq_false h1
  rw [show within 64 300 x = false by simp [within, h1]]
  go_enter Tryz.func109, Tryz.ntmps109
  go_wp2
  go_ret
  exact ⟨rfl, rfl⟩
set_option maxHeartbeats 400000 in
theorem accmRight (x : Int) (w : World) : Calls Tryz.prog 110 #[.int .i64 x] w fun e w' => e = .returned (.bool (within 0 4294967295 x)) ∧ w' = w := by
 by_cases h1 : 0 ≤ x
 ·have d1 : decide ((0 : Int) ≤ x) = true := decide_eq_true h1
  by_cases h2 : x ≤ 4294967295
  ·have d2 : decide (x ≤ 4294967295) = true := decide_eq_true h2
   rw [show within 0 4294967295 x = true by simp [within, h1, h2]]
   go_enter Tryz.func110, Tryz.ntmps110
   go_wp2
   go_ret
   exact ⟨rfl, rfl⟩
  ·have d2 : decide (x ≤ 4294967295) = false := decide_eq_false h2
   rw [show within 0 4294967295 x = false by simp [within, h2]]
   go_enter Tryz.func110, Tryz.ntmps110
   go_wp2
   go_ret
   exact ⟨rfl, rfl⟩
 ·have d1 : decide ((0 : Int) ≤ x) = false := decide_eq_false h1
  rw [show within 0 4294967295 x = false by simp [within, h1]]
  go_enter Tryz.func110, Tryz.ntmps110
  go_wp2
  go_ret
  exact ⟨rfl, rfl⟩
set_option maxHeartbeats 400000 in
theorem specIs (x : Int) (lo hi : Int) (w : World) : Calls Tryz.prog 72 #[.int .i64 x, .int .i64 lo, .int .i64 hi] w fun e w' => e = .returned (.bool (within lo hi x)) ∧ w' = w := by
 by_cases h1 : lo ≤ x
 ·have d1 : decide ((lo : Int) ≤ x) = true := decide_eq_true h1
  by_cases h2 : x ≤ hi
  ·have d2 : decide (x ≤ hi) = true := decide_eq_true h2
   rw [show within lo hi x = true by simp [within, h1, h2]]
   go_enter Tryz.func72, Tryz.ntmps72
   go_wp2
   go_ret
   exact ⟨rfl, rfl⟩
  ·have d2 : decide (x ≤ hi) = false := decide_eq_false h2
   rw [show within lo hi x = false by simp [within, h2]]
   go_enter Tryz.func72, Tryz.ntmps72
   go_wp2
   go_ret
   exact ⟨rfl, rfl⟩
 ·have d1 : decide ((lo : Int) ≤ x) = false := decide_eq_false h1
  rw [show within lo hi x = false by simp [within, h1]]
  go_enter Tryz.func72, Tryz.ntmps72
  go_wp2
  go_ret
  exact ⟨rfl, rfl⟩
set_option maxHeartbeats 400000 in
theorem specAccm (x : Int) (w : World) : Calls Tryz.prog 107 #[.int .i64 x] w fun e w' => e = .returned (.bool (within 0 4294967295 x)) ∧ w' = w := by
 have C := hide (specIs x 0 4294967295 w)
 generalize within 0 4294967295 x = ok at *
 go_enter Tryz.func107, Tryz.ntmps107
 go_wp2_with (first
  | (go_at_call 72; refine (unhide C).mono ?_; rintro e w1 ⟨rfl, rfl⟩))
 go_ret
 exact ⟨rfl, rfl⟩
theorem cfgOk_eq (m a g : Int) (h1 : within 64 300 m = true) (h2 : within 0 4294967295 a = true) : cfgOk m a g = within 0 4294967295 g := by
 unfold cfgOk
 rw [h1, h2, Bool.true_and, Bool.true_and]
set_option maxHeartbeats 1000000 in
theorem implCfg (m a g : Int) (p c d : Bool) (w : World) : Calls Tryz.prog 77 #[.agg #[.int .i64 m, .int .i64 a, .int .i64 g, .bool p, .bool c, .bool d]] w fun e w' => e = .returned (.bool (cfgOk m a g)) ∧ Below w.heap.size w w' := by
 have C1 := hide fun v => mruRight m v
 have C2 := hide fun v => accmRight a v
 by_cases h1 : within 64 300 m = true
 ·by_cases h2 : within 0 4294967295 a = true
  ·rw [cfgOk_eq m a g h1 h2]
   rw [h1] at C1
   rw [h2] at C2
   by_cases h3 : 0 ≤ g
   ·have d1 : decide ((0 : Int) ≤ g) = true := decide_eq_true h3
    by_cases h4 : g ≤ 4294967295
    ·have d2 : decide (g ≤ 4294967295) = true := decide_eq_true h4
     rw [show within 0 4294967295 g = true by simp [within, h3, h4]]
     go_enter Tryz.func77, Tryz.ntmps77
     go_wp2_with (first
      | (go_at_call 109; refine (unhide C1 _).mono ?_; rintro e w1 ⟨rfl, rfl⟩)
      | (go_at_call 110; refine (unhide C2 _).mono ?_; rintro e w2 ⟨rfl, rfl⟩))
     go_ret
     exact ⟨rfl, (Below.refl _ _).alloc (Nat.le_refl _) _⟩
    ·have d2 : decide (g ≤ 4294967295) = false := decide_eq_false h4
     rw [show within 0 4294967295 g = false by simp [within, h4]]
     go_enter Tryz.func77, Tryz.ntmps77
     go_wp2_with (first
      | (go_at_call 109; refine (unhide C1 _).mono ?_; rintro e w1 ⟨rfl, rfl⟩)
      | (go_at_call 110; refine (unhide C2 _).mono ?_; rintro e w2 ⟨rfl, rfl⟩))
     go_ret
     exact ⟨rfl, (Below.refl _ _).alloc (Nat.le_refl _) _⟩
   ·have d1 : decide ((0 : Int) ≤ g) = false := decide_eq_false h3
    rw [show within 0 4294967295 g = false by simp [within, h3]]
    go_enter Tryz.func77, Tryz.ntmps77
    go_wp2_with (first
     | (go_at_call 109; refine (unhide C1 _).mono ?_; rintro e w1 ⟨rfl, rfl⟩)
     | (go_at_call 110; refine (unhide C2 _).mono ?_; rintro e w2 ⟨rfl, rfl⟩))
    go_ret
    exact ⟨rfl, (Below.refl _ _).alloc (Nat.le_refl _) _⟩
  ·rw [Bool.not_eq_true] at h2
   rw [show cfgOk m a g = false by simp [cfgOk, h2]]
   rw [h1] at C1
   rw [h2] at C2
   go_enter Tryz.func77, Tryz.ntmps77
   go_wp2_with (first
    | (go_at_call 109; refine (unhide C1 _).mono ?_; rintro e w1 ⟨rfl, rfl⟩)
    | (go_at_call 110; refine (unhide C2 _).mono ?_; rintro e w2 ⟨rfl, rfl⟩))
   go_ret
   exact ⟨rfl, (Below.refl _ _).alloc (Nat.le_refl _) _⟩
 ·rw [Bool.not_eq_true] at h1
  rw [show cfgOk m a g = false by simp [cfgOk, h1]]
  rw [h1] at C1
  clear C2
  go_enter Tryz.func77, Tryz.ntmps77
  go_wp2_with (first
   | (go_at_call 109; refine (unhide C1 _).mono ?_; rintro e w1 ⟨rfl, rfl⟩))
  go_ret
  exact ⟨rfl, (Below.refl _ _).alloc (Nat.le_refl _) _⟩
set_option maxHeartbeats 1000000 in
theorem specCfg (m a g : Int) (p c d : Bool) (w : World) : Calls Tryz.prog 71 #[.agg #[.int .i64 m, .int .i64 a, .int .i64 g, .bool p, .bool c, .bool d]] w fun e w' => e = .returned (.bool (cfgOk m a g)) ∧ Below w.heap.size w w' := by
 have C1 := hide fun v => specIs m 64 300 v
 have C2 := hide fun v => specAccm a v
 have C3 := hide fun v => specIs g 0 4294967295 v
 unfold cfgOk
 generalize within 64 300 m = b1 at *
 generalize within 0 4294967295 a = b2 at *
 generalize within 0 4294967295 g = b3 at *
 cases b1
 ·go_enter Tryz.func71, Tryz.ntmps71
  go_wp2_with fail
  refine (unhide C1 _).mono ?_
  rintro e w1 ⟨rfl, rfl⟩
  go_wp2
  go_ret
  exact ⟨rfl, (Below.refl _ _).alloc (Nat.le_refl _) _⟩
 cases b2
 ·go_enter Tryz.func71, Tryz.ntmps71
  go_wp2_with fail
  refine (unhide C1 _).mono ?_
  rintro e w1 ⟨rfl, rfl⟩
  go_wp2_with fail
  refine (unhide C2 _).mono ?_
  rintro e w2 ⟨rfl, rfl⟩
  go_wp2
  go_ret
  exact ⟨rfl, (Below.refl _ _).alloc (Nat.le_refl _) _⟩
 ·go_enter Tryz.func71, Tryz.ntmps71
  go_wp2_with fail
  refine (unhide C1 _).mono ?_
  rintro e w1 ⟨rfl, rfl⟩
  go_wp2_with fail
  refine (unhide C2 _).mono ?_
  rintro e w2 ⟨rfl, rfl⟩
  go_wp2_with fail
  refine (unhide C3 _).mono ?_
  rintro e w3 ⟨rfl, rfl⟩
  go_wp2
  go_ret
  exact ⟨rfl, (Below.refl _ _).alloc (Nat.le_refl _) _⟩
theorem numOf_go (l : List UInt8) (n : Nat) : l.foldl (fun n c => 256 * n + c.toNat) n < (n + 1) * 256 ^ l.length := by
 induction l generalizing n with
 | nil => simp
 | cons c l ih =>
  have h := ih (256 * n + c.toNat)
  have hc := c.toNat_lt
  rw [List.foldl_cons, List.length_cons, Nat.pow_succ, Nat.mul_comm (256 ^ l.length) 256, ← Nat.mul_assoc]
  exact Nat.lt_of_lt_of_le h (Nat.mul_le_mul_right _ (by omega))
theorem numOf_lt (l : List UInt8) : numOf l < 256 ^ l.length := by
 have := numOf_go l 0
 rw [Nat.zero_add, Nat.one_mul] at this
 exact this
theorem numOf_lt3 (l : List UInt8) (h : l.length < 4) : numOf l < 16777216 := by
 have h1 := numOf_lt l
 have h2 : 256 ^ l.length ≤ 256 ^ 3 := Nat.pow_le_pow_right (by decide) (by omega)
 omega
theorem numOf_lt4 (l : List UInt8) (h : l.length ≤ 4) : numOf l < 4294967296 := by
 have h1 := numOf_lt l
 have h2 : 256 ^ l.length ≤ 256 ^ 4 := Nat.pow_le_pow_right (by decide) h
 omega
theorem or8w (a b : Nat) (ha : a < 16777216) (hb : b < 256) : bits .or .i64 ((a : Int) * 256) (b : Int) = ((256 * a + b : Nat) : Int) := by
 have h1 : a * 256 ||| b = a * 2 ^ 8 + b := by
  rw [Nat.mul_comm, show (256 : Nat) = 2 ^ 8 from rfl, ← Nat.two_pow_add_eq_or_of_lt (by omega), Nat.mul_comm]
 show IntKind.i64.wrap ((BitVec.ofInt 64 ((a : Int) * 256) ||| BitVec.ofInt 64 (b : Int)).toNat : Int) = _
 rw [show (a : Int) * 256 = ((a * 256 : Nat) : Int) by omega, BitVec.toNat_or, ofInt_u64 (a * 256) (by omega), ofInt_u64 b (by omega), h1, IntKind.wrap_i64]
 omega
theorem i64_or_nat (a b : Nat) (ha : a < 4294967296) (hb : b < 4294967296) : bits .or .i64 (a : Int) (b : Int) = ((a ||| b : Nat) : Int) := by
 have h3 : a ||| b < 2 ^ 32 := Nat.or_lt_two_pow (by omega) (by omega)
 show IntKind.i64.wrap ((BitVec.ofInt 64 (a : Int) ||| BitVec.ofInt 64 (b : Int)).toNat : Int) = _
 rw [BitVec.toNat_or, ofInt_u64 a (by omega), ofInt_u64 b (by omega), IntKind.wrap_i64]
 omega
theorem numOf_snoc (l : List UInt8) (k : Nat) (hlt : k < l.length) : numOf (l.take (k + 1)) = 256 * numOf (l.take k) + l[k].toNat := by
 unfold numOf
 rw [List.take_succ_eq_append_getElem hlt, List.foldl_append]
 rfl
set_option maxHeartbeats 1000000 in
theorem highest4 (B off cap : Nat) (l : List UInt8) (w : World) (hl4 : l.length ≤ 4) (hl : Lies w B off l) :
  Calls Tryz.prog 151 #[.slice (some ⟨B, off, none⟩) l.length cap] w fun e w' => e = .returned (.int .i64 (numOf l : Nat)) ∧ w' = w := by
 go_enter Tryz.func151, Tryz.ntmps151
 go_wp2
 go_loop [3, 8] (fun n i => ∃ (k : Nat), k ≤ l.length ∧ i = .int .i64 k ∧ n = .int .i64 (numOf (l.take k) : Nat)) (fun _ i => l.length - (intOf i).toNat)
 case atStart => exact ⟨0, Nat.zero_le _, rfl, rfl⟩
 case round =>
  obtain ⟨k, hk, rfl, rfl⟩ := hrel
  by_cases hlt : k < l.length
  ·have hc := hl k hlt
   have HS := hide (numOf_snoc l k hlt)
   have hn : numOf (l.take k) < 16777216 := numOf_lt3 _ (by rw [List.length_take]; omega)
   have ho := or8w (numOf (l.take k)) l[k].toNat hn l[k].toNat_lt
   have HW : Hid (wrap64 (l[k].toNat : Int) = (l[k].toNat : Int)) := hide (by have := l[k].toNat_lt; unfold wrap64; omega)
   generalize numOf (l.take k) = n at *
   have d1 : (k : Int) < (l.length : Int) := by omega
   clear hl
   go_wp2
   go_round
   case rel => exact ⟨k + 1, by omega, by go_num, by rw [unhide HW, ho, unhide HS]⟩
   case measure => simp [intOf]; omega
  ·have HK := hide (List.take_of_length_le (l := l) (i := k) (by omega))
   have d1 : ¬ ((k : Int) < (l.length : Int)) := by omega
   go_wp2
   go_ret
   exact ⟨by rw [unhide HK]; rfl, rfl⟩
set_option maxHeartbeats 1000000 in
theorem specGetYes (t : ByteArray) (many : Nat) (w : World) (hm : many ≤ 4) (h : t.size = many) :
  Calls Tryz.prog 108 #[.string t, .int .i64 many] w fun e w' => e = .returned (.tuple #[.int .i64 (numOf t.data.toList : Nat), .bool true]) ∧ w' = w := by
 subst h
 have d0 : ((t.size : Int) == (t.size : Int)) = true := beq_self_eq_true _
 go_enter Tryz.func108, Tryz.ntmps108
 go_wp2_with fail
 go_loop [6, 7] (fun n i => ∃ k : Nat, k ≤ t.size ∧ i = .int .i64 k ∧ n = .int .i64 (numOf (t.data.toList.take k) : Nat)) (fun _ i => t.size - (intOf i).toNat)
 case atStart => exact ⟨0, Nat.zero_le _, rfl, rfl⟩
 case round =>
  obtain ⟨k, hk, rfl, rfl⟩ := hrel
  by_cases hlt : k < t.size
  ·have hl2 : k < t.data.toList.length := by rw [len_dat]; exact hlt
   have HS : Hid (numOf (t.data.toList.take (k + 1)) = 256 * numOf (t.data.toList.take k) + (t[k]'hlt).toNat) := hide (numOf_snoc t.data.toList k hl2)
   have hn : numOf (t.data.toList.take k) < 16777216 := numOf_lt3 _ (by rw [List.length_take]; omega)
   have hc := (t[k]'hlt).toNat_lt
   generalize numOf (t.data.toList.take k) = n at *
   have d1 : decide ((k : Int) < (t.size : Int)) = true := decide_eq_true (by omega)
   clear hl2
   go_wp2
   go_round
   case rel => exact ⟨k + 1, by omega, by go_num, by rw [unhide HS]; congr 1⟩
   case measure => simp [intOf]; omega
  ·have e : k = t.size := by omega
   subst e
   have HK := hide (List.take_of_length_le (l := t.data.toList) (i := t.size) (by rw [len_dat]; omega))
   have d1 : decide ((t.size : Int) < (t.size : Int)) = false := decide_eq_false (by omega)
   go_wp2
   go_ret2
   exact ⟨by rw [unhide HK]; rfl, rfl⟩
theorem and_or (n a : Nat) : (n &&& a = a) ↔ (n ||| a = n) := by
 constructor
 ·intro h
  apply Nat.eq_of_testBit_eq
  intro i
  have hi : (n &&& a).testBit i = a.testBit i := by rw [h]
  rw [Nat.testBit_and] at hi
  rw [Nat.testBit_or]
  revert hi
  cases n.testBit i <;> cases a.testBit i <;> simp
 ·intro h
  apply Nat.eq_of_testBit_eq
  intro i
  have hi : (n ||| a).testBit i = n.testBit i := by rw [h]
  rw [Nat.testBit_or] at hi
  rw [Nat.testBit_and]
  revert hi
  cases n.testBit i <;> cases a.testBit i <;> simp
set_option maxHeartbeats 1000000 in
theorem numberOf (k : Int) (t : ByteArray) (w : World) (ht : t.size ≤ 4) :
  Calls Tryz.prog 135 #[.agg #[.int .i64 k, .string t]] w fun e w' => e = .returned (.int .i64 (numOf t.data.toList : Nat)) ∧ Below w.heap.size w w' := by
 have hq : ∃ q, w.alloc (.cells #[.int .i64 k, .string t] 116) = q := ⟨_, rfl⟩
 obtain ⟨q, hq⟩ := hq
 obtain ⟨cap, W', hcv, hcap, hli, hb, hs⟩ := bytes_of t q
 have C := hide (highest4 q.heap.size 0 cap t.data.toList W' (by rw [len_dat]; exact ht) hli)
 subst hq
 have HB : Hid (Below w.heap.size w W') := hide (((Below.refl _ _).alloc (Nat.le_refl _) _).trans (hb.mono (by simp)))
 have hs0 : (w.alloc (.cells #[.int .i64 k, .string t] 116)).heap.size = w.heap.size + 1 := by simp
 rw [hs0] at hcv C
 clear hb hs hli hcap hs0
 go_enter Tryz.func135, Tryz.ntmps135
 go_wp2_with fail
 refine (unhide C).mono ?_
 rintro e w2 ⟨rfl, rfl⟩
 go_wp2
 go_ret
 exact ⟨rfl, unhide HB⟩
set_option maxHeartbeats 1000000 in
theorem specGetNo (t : ByteArray) (many : Nat) (w : World) (ht : t.size ≤ 20) (h : t.size ≠ many) :
  Calls Tryz.prog 108 #[.string t, .int .i64 many] w fun e w' => e = .returned (.tuple #[.int .i64 0, .bool false]) ∧ w' = w := by
 have d0 : ((t.size : Int) == (many : Int)) = false := beq_eq_false_iff_ne.2 (by omega)
 by_cases h0 : 0 < t.size
 ·have d1 : decide ((0 : Int) < (t.size : Int)) = true := decide_eq_true (by omega)
  go_enter Tryz.func108, Tryz.ntmps108
  go_wp2_with fail
  go_loop [6, 7] (fun n i => i = .int .i64 0 ∧ n = .int .i64 0) (fun _ _ => 0)
  case atStart => exact ⟨rfl, rfl⟩
  case round =>
   obtain ⟨rfl, rfl⟩ := hrel
   go_wp2
   go_ret2
   exact ⟨rfl, rfl⟩
 ·have d1 : decide ((0 : Int) < (t.size : Int)) = false := decide_eq_false (by omega)
  go_enter Tryz.func108, Tryz.ntmps108
  go_wp2_with fail
  go_loop [6, 7] (fun n i => i = .int .i64 0 ∧ n = .int .i64 0) (fun _ _ => 0)
  case atStart => exact ⟨rfl, rfl⟩
  case round =>
   obtain ⟨rfl, rfl⟩ := hrel
   go_wp2
   go_ret2
   exact ⟨rfl, rfl⟩
end Go.Proofs.YtahpjlbaagkdoaaGreatDoor
namespace Go.Proofs.YtahpjlbaagkdoaaGreatDoor
def sizeK (k : Int) : Option Nat := if k = 1 then some 2 else if k = 2 then some 4 else if k = 5 then some 4 else if k = 7 then some 0 else if k = 8 then some 0 else if k = 9 then some 1 else none
theorem sizeK_le {k : Int} {s : Nat} (h : sizeK k = some s) : s ≤ 4 := by
 unfold sizeK at h
 repeat' split at h
 all_goals first | (cases h; omega) | (cases h)
end Go.Proofs.YtahpjlbaagkdoaaGreatDoor
