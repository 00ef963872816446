/- The rules of options, by kind, as the program lays them in a map; what lay in memory stands. A Config as a value, a call that goes in, an order drawn: what the rules' texts share. Is a Config right: the program's and the model's walks; what lay in memory stands. -/
import Derived.Test.YtghopihgnmnlcaaGreatDoorS00
import Derived.MapKept
import Derived.Laws.EntriesVeiled
import Derived.Deep.WholeRow
import Derived.Test.YtghopihgnmnlcaaGreatDoorS03
import Derived.Deep.QuietTactic
import Derived.BigQuiet
namespace Go.Proofs.YtghopihgnmnlcaaGreatDoor
open Go.RowKit
/-- A function of the program as a value. -/
abbrev fnV (f : Nat) : Value := .func (.func f) #[] #[]
/-- A rule as a value. -/
abbrev ruleV (k : Int) (a b c d e : Nat) : Value := .agg #[.int .i64 k, fnV a, fnV b, fnV c, fnV d, fnV e]
theorem put_at (w : World) (M : Nat) (es : Array MapEntry) (c : Nat) (k : Int) (v : Value) (hb : w.heap[M]? = some (.map es c)) (hf : Instr.findNow (.int .i64) (.int .i64 k) es.toList 0 = some none) :
    ∃ W, (Instr.mapUpdate 179 (.map (some M)) (.int .i64 k) v).run Tryz.prog w = .ok () W ∧ W.heap[M]? = some (.map (es.push { key := .int .i64 k, val := v, born := c }) (c + 1)) ∧ (∀ B, B ≤ M → Below B w W) := by
  refine ⟨{ w with heap := w.heap.setIfInBounds M (.map (es.push { key := .int .i64 k, val := v, born := c }) (c + 1)) }, ?_, (MapKept.heap_set hb).1, fun B hB => ⟨rfl, rfl, rfl, ?_, fun g hg => (MapKept.heap_set hb).2 g (by omega)⟩⟩
  · unfold Instr.mapUpdate
    simp only [Sem.run_bind, run_underlying Tryz.underlying179, MapKept.run_getObj_map hb, MapKept.run_checkKey Tryz.underlying2 (d := .int .i64) (k := .int .i64 k) (by trivial), MapKept.run_findKey Tryz.underlying2 hf, Result.andThen]
    rw [MapKept.run_setObj_map _ hb]
  · simp
theorem look_at (w : World) (M : Nat) (es : Array MapEntry) (c i : Nat) (k : Int) (v : Value) (hb : w.heap[M]? = some (.map es c)) (hf : Instr.findNow (.int .i64) (.int .i64 k) es.toList 0 = some (some (i, v))) :
    (Instr.lookup 179 (.map (some M)) (.int .i64 k) false).run Tryz.prog w = .ok v w := by
  unfold Instr.lookup
  simp only [Sem.run_bind, Sem.run_pure, run_underlying Tryz.underlying179, MapKept.run_getObj_map hb, MapKept.run_checkKey Tryz.underlying2 (d := .int .i64) (k := .int .i64 k) (by trivial), MapKept.run_findKey Tryz.underlying2 hf, Result.andThen]
  rfl
set_option maxHeartbeats 400000 in
theorem mruRule (w : World) : Calls Tryz.prog 147 #[] w fun e w' => e = .returned (ruleV 2 165 166 168 169 170) ∧ Below w.heap.size w w' := by
  go_enter Tryz.func147, Tryz.ntmps147
  go_wp2
  refine bodyPost_ret (v := (ruleV 2 165 166 168 169 170)) (by simp [results, Tryz.results147, go_sem]) rfl ⟨rfl, ?_⟩
  exact (Below.refl _ _).alloc (Nat.le_refl _) _
set_option maxHeartbeats 400000 in
theorem accmRule (w : World) : Calls Tryz.prog 148 #[] w fun e w' => e = .returned (ruleV 4 171 172 173 174 175) ∧ Below w.heap.size w w' := by
  go_enter Tryz.func148, Tryz.ntmps148
  go_wp2
  refine bodyPost_ret (v := (ruleV 4 171 172 173 174 175)) (by simp [results, Tryz.results148, go_sem]) rfl ⟨rfl, ?_⟩
  exact (Below.refl _ _).alloc (Nat.le_refl _) _
set_option maxHeartbeats 400000 in
theorem magicRule (w : World) : Calls Tryz.prog 149 #[] w fun e w' => e = .returned (ruleV 4 176 177 179 180 181) ∧ Below w.heap.size w w' := by
  go_enter Tryz.func149, Tryz.ntmps149
  go_wp2
  refine bodyPost_ret (v := (ruleV 4 176 177 179 180 181)) (by simp [results, Tryz.results149, go_sem]) rfl ⟨rfl, ?_⟩
  exact (Below.refl _ _).alloc (Nat.le_refl _) _
set_option maxHeartbeats 400000 in
theorem pfcRule (w : World) : Calls Tryz.prog 150 #[] w fun e w' => e = .returned (ruleV 0 182 183 184 185 186) ∧ Below w.heap.size w w' := by
  go_enter Tryz.func150, Tryz.ntmps150
  go_wp2
  refine bodyPost_ret (v := (ruleV 0 182 183 184 185 186)) (by simp [results, Tryz.results150, go_sem]) rfl ⟨rfl, ?_⟩
  exact (Below.refl _ _).alloc (Nat.le_refl _) _
set_option maxHeartbeats 400000 in
theorem acfcRule (w : World) : Calls Tryz.prog 151 #[] w fun e w' => e = .returned (ruleV 0 187 188 189 190 191) ∧ Below w.heap.size w w' := by
  go_enter Tryz.func151, Tryz.ntmps151
  go_wp2
  refine bodyPost_ret (v := (ruleV 0 187 188 189 190 191)) (by simp [results, Tryz.results151, go_sem]) rfl ⟨rfl, ?_⟩
  exact (Below.refl _ _).alloc (Nat.le_refl _) _
set_option maxHeartbeats 400000 in
theorem fcsRule (w : World) : Calls Tryz.prog 152 #[] w fun e w' => e = .returned (ruleV 1 192 193 194 195 196) ∧ Below w.heap.size w w' := by
  go_enter Tryz.func152, Tryz.ntmps152
  go_wp2
  refine bodyPost_ret (v := (ruleV 1 192 193 194 195 196)) (by simp [results, Tryz.results152, go_sem]) rfl ⟨rfl, ?_⟩
  exact (Below.refl _ _).alloc (Nat.le_refl _) _
/-- The rules, by kind. -/
def rules : Array MapEntry := #[{ key := .int .i64 1, val := (ruleV 2 165 166 168 169 170), born := 0 }, { key := .int .i64 2, val := (ruleV 4 171 172 173 174 175), born := 1 }, { key := .int .i64 5, val := (ruleV 4 176 177 179 180 181), born := 2 }, { key := .int .i64 7, val := (ruleV 0 182 183 184 185 186), born := 3 }, { key := .int .i64 8, val := (ruleV 0 187 188 189 190 191), born := 4 }, { key := .int .i64 9, val := (ruleV 1 192 193 194 195 196), born := 5 }]
set_option maxHeartbeats 2000000 in
theorem optionRules (w : World) : Calls Tryz.prog 135 #[] w fun e w' => e = .returned (.map (some w.heap.size)) ∧ w'.heap[w.heap.size]? = some (.map rules 6) ∧ Below w.heap.size w w' := by
  have hmm := @run_makeMap Tryz.prog
  have hb0 := (Below.refl w.heap.size w).alloc (Nat.le_refl _) (.map #[] 0)
  have hm0 : (w.alloc (.map #[] 0)).heap[w.heap.size]? = some (.map #[] 0) := heap_alloc_last w _
  have hl0 : (w.alloc (.map #[] 0)).heap.size = w.heap.size + 1 := by simp
  go_enter Tryz.func135, Tryz.ntmps135
  go_wp2_with fail
  refine (mruRule _).mono ?_
  rintro e v1 ⟨rfl, hc1⟩
  have hn1 := (hc1.block w.heap.size (Array.getElem?_eq_some_iff.1 hm0).1).trans hm0
  have hd1 := hb0.trans (hc1.mono hb0.size)
  obtain ⟨w1, hp1, hm1, hq1⟩ := put_at v1 w.heap.size #[] 0 1 (ruleV 2 165 166 168 169 170) hn1 rfl
  have hb1 := hd1.trans (hq1 _ (Nat.le_refl _))
  simp only [List.push_toArray, List.nil_append] at hm1
  clear hc1 hn1 hd1 hq1 hb0 hm0
  go_wp2_with fail
  refine (accmRule _).mono ?_
  rintro e v2 ⟨rfl, hc2⟩
  have hn2 := (hc2.block w.heap.size (Array.getElem?_eq_some_iff.1 hm1).1).trans hm1
  have hd2 := hb1.trans (hc2.mono hb1.size)
  obtain ⟨w2, hp2, hm2, hq2⟩ := put_at v2 w.heap.size #[{ key := .int .i64 1, val := (ruleV 2 165 166 168 169 170), born := 0 }] 1 2 (ruleV 4 171 172 173 174 175) hn2 rfl
  have hb2 := hd2.trans (hq2 _ (Nat.le_refl _))
  simp only [List.push_toArray, List.cons_append, List.nil_append] at hm2
  clear hc2 hn2 hd2 hq2 hb1 hm1
  go_wp2_with fail
  refine (magicRule _).mono ?_
  rintro e v3 ⟨rfl, hc3⟩
  have hn3 := (hc3.block w.heap.size (Array.getElem?_eq_some_iff.1 hm2).1).trans hm2
  have hd3 := hb2.trans (hc3.mono hb2.size)
  obtain ⟨w3, hp3, hm3, hq3⟩ := put_at v3 w.heap.size #[{ key := .int .i64 1, val := (ruleV 2 165 166 168 169 170), born := 0 }, { key := .int .i64 2, val := (ruleV 4 171 172 173 174 175), born := 1 }] 2 5 (ruleV 4 176 177 179 180 181) hn3 rfl
  have hb3 := hd3.trans (hq3 _ (Nat.le_refl _))
  simp only [List.push_toArray, List.cons_append, List.nil_append] at hm3
  clear hc3 hn3 hd3 hq3 hb2 hm2
  go_wp2_with fail
  refine (pfcRule _).mono ?_
  rintro e v4 ⟨rfl, hc4⟩
  have hn4 := (hc4.block w.heap.size (Array.getElem?_eq_some_iff.1 hm3).1).trans hm3
  have hd4 := hb3.trans (hc4.mono hb3.size)
  obtain ⟨w4, hp4, hm4, hq4⟩ := put_at v4 w.heap.size #[{ key := .int .i64 1, val := (ruleV 2 165 166 168 169 170), born := 0 }, { key := .int .i64 2, val := (ruleV 4 171 172 173 174 175), born := 1 }, { key := .int .i64 5, val := (ruleV 4 176 177 179 180 181), born := 2 }] 3 7 (ruleV 0 182 183 184 185 186) hn4 rfl
  have hb4 := hd4.trans (hq4 _ (Nat.le_refl _))
  simp only [List.push_toArray, List.cons_append, List.nil_append] at hm4
  clear hc4 hn4 hd4 hq4 hb3 hm3
  go_wp2_with fail
  refine (acfcRule _).mono ?_
  rintro e v5 ⟨rfl, hc5⟩
  have hn5 := (hc5.block w.heap.size (Array.getElem?_eq_some_iff.1 hm4).1).trans hm4
  have hd5 := hb4.trans (hc5.mono hb4.size)
  obtain ⟨w5, hp5, hm5, hq5⟩ := put_at v5 w.heap.size #[{ key := .int .i64 1, val := (ruleV 2 165 166 168 169 170), born := 0 }, { key := .int .i64 2, val := (ruleV 4 171 172 173 174 175), born := 1 }, { key := .int .i64 5, val := (ruleV 4 176 177 179 180 181), born := 2 }, { key := .int .i64 7, val := (ruleV 0 182 183 184 185 186), born := 3 }] 4 8 (ruleV 0 187 188 189 190 191) hn5 rfl
  have hb5 := hd5.trans (hq5 _ (Nat.le_refl _))
  simp only [List.push_toArray, List.cons_append, List.nil_append] at hm5
  clear hc5 hn5 hd5 hq5 hb4 hm4
  go_wp2_with fail
  refine (fcsRule _).mono ?_
  rintro e v6 ⟨rfl, hc6⟩
  have hn6 := (hc6.block w.heap.size (Array.getElem?_eq_some_iff.1 hm5).1).trans hm5
  have hd6 := hb5.trans (hc6.mono hb5.size)
  obtain ⟨w6, hp6, hm6, hq6⟩ := put_at v6 w.heap.size #[{ key := .int .i64 1, val := (ruleV 2 165 166 168 169 170), born := 0 }, { key := .int .i64 2, val := (ruleV 4 171 172 173 174 175), born := 1 }, { key := .int .i64 5, val := (ruleV 4 176 177 179 180 181), born := 2 }, { key := .int .i64 7, val := (ruleV 0 182 183 184 185 186), born := 3 }, { key := .int .i64 8, val := (ruleV 0 187 188 189 190 191), born := 4 }] 5 9 (ruleV 1 192 193 194 195 196) hn6 rfl
  have hb6 := hd6.trans (hq6 _ (Nat.le_refl _))
  simp only [List.push_toArray, List.cons_append, List.nil_append] at hm6
  clear hc6 hn6 hd6 hq6 hb5 hm5
  go_wp2
  go_ret
  exact ⟨rfl, hm6, hb6⟩
end Go.Proofs.YtghopihgnmnlcaaGreatDoor
namespace Go.Proofs.YtghopihgnmnlcaaGreatDoor
open Go.RowKit
theorem below_drewN {n : Nat} {w W : World} (h : Below n w W) (k : Nat) : Below n w (W.drewN k) := ⟨h.os, h.tape, h.output, h.size, h.block⟩
/-- A Config as a value. -/
abbrev cfgV (m a g : Int) (p c d : Bool) : Value := .agg #[.int .i64 m, .int .i64 a, .int .i64 g, .bool p, .bool c, .bool d]
/-- A call of a function that has a body goes into it. -/
theorem cf_of {f : Nat} (h : (Tryz.prog.funcs[f]?).map (fun fn => (fn.name == "runtime.NumGoroutine") || fn.body.isNone) = some false) (args : Array Value) (W : World) : (callFunc f args).run Tryz.prog W = .ok (.enter f args) W := by
  obtain ⟨fn, hf, h2⟩ := Option.map_eq_some_iff.1 h
  rw [Bool.or_eq_false_iff] at h2
  unfold callFunc
  have h3 : ¬ (fn.name = "runtime.NumGoroutine") := beq_eq_false_iff_ne.1 h2.1
  have h4 : ¬ (fn.body = none) := fun e => by rw [e] at h2; exact absurd h2.2 (by decide)
  simp [go_sem, hf, h3, h4]
end Go.Proofs.YtghopihgnmnlcaaGreatDoor
namespace Go.Proofs.YtghopihgnmnlcaaGreatDoor
open Go.RowKit
/-- Is a number from lo to hi. -/
def within (lo hi x : Int) : Bool := decide (lo ≤ x) && decide (x ≤ hi)
/-- Is a Config of these numbers right. -/
def cfgOk (m a g : Int) : Bool := within 64 300 m && (within 0 4294967295 a && within 0 4294967295 g)
set_option maxHeartbeats 400000 in
theorem mruRight (x : Int) (w : World) : Calls Tryz.prog 111 #[.int .i64 x] w fun e w' => e = .returned (.bool (within 64 300 x)) ∧ w' = w := by
  by_cases h1 : 64 ≤ x
  · have d1 : decide ((64 : Int) ≤ x) = true := decide_eq_true h1
    by_cases h2 : x ≤ 300
    · have d2 : decide (x ≤ 300) = true := decide_eq_true h2
      rw [show within 64 300 x = true by simp [within, h1, h2]]
      go_enter Tryz.func111, Tryz.ntmps111
      go_wp2
      go_ret
      exact ⟨rfl, rfl⟩
    · have d2 : decide (x ≤ 300) = false := decide_eq_false h2
      rw [show within 64 300 x = false by simp [within, h2]]
      go_enter Tryz.func111, Tryz.ntmps111
      go_wp2
      go_ret
      exact ⟨rfl, rfl⟩
  · have d1 : decide ((64 : Int) ≤ x) = false := decide_eq_false h1
    rw [show within 64 300 x = false by simp [within, h1]]
    go_enter Tryz.func111, Tryz.ntmps111
    go_wp2
    go_ret
    exact ⟨rfl, rfl⟩
set_option maxHeartbeats 400000 in
theorem accmRight (x : Int) (w : World) : Calls Tryz.prog 112 #[.int .i64 x] w fun e w' => e = .returned (.bool (within 0 4294967295 x)) ∧ w' = w := by
  by_cases h1 : 0 ≤ x
  · have d1 : decide ((0 : Int) ≤ x) = true := decide_eq_true h1
    by_cases h2 : x ≤ 4294967295
    · have d2 : decide (x ≤ 4294967295) = true := decide_eq_true h2
      rw [show within 0 4294967295 x = true by simp [within, h1, h2]]
      go_enter Tryz.func112, Tryz.ntmps112
      go_wp2
      go_ret
      exact ⟨rfl, rfl⟩
    · have d2 : decide (x ≤ 4294967295) = false := decide_eq_false h2
      rw [show within 0 4294967295 x = false by simp [within, h2]]
      go_enter Tryz.func112, Tryz.ntmps112
      go_wp2
      go_ret
      exact ⟨rfl, rfl⟩
  · have d1 : decide ((0 : Int) ≤ x) = false := decide_eq_false h1
    rw [show within 0 4294967295 x = false by simp [within, h1]]
    go_enter Tryz.func112, Tryz.ntmps112
    go_wp2
    go_ret
    exact ⟨rfl, rfl⟩
set_option maxHeartbeats 400000 in
theorem specIs (x : Int) (lo hi : Int) (w : World) : Calls Tryz.prog 74 #[.int .i64 x, .int .i64 lo, .int .i64 hi] w fun e w' => e = .returned (.bool (within lo hi x)) ∧ w' = w := by
  by_cases h1 : lo ≤ x
  · have d1 : decide ((lo : Int) ≤ x) = true := decide_eq_true h1
    by_cases h2 : x ≤ hi
    · have d2 : decide (x ≤ hi) = true := decide_eq_true h2
      rw [show within lo hi x = true by simp [within, h1, h2]]
      go_enter Tryz.func74, Tryz.ntmps74
      go_wp2
      go_ret
      exact ⟨rfl, rfl⟩
    · have d2 : decide (x ≤ hi) = false := decide_eq_false h2
      rw [show within lo hi x = false by simp [within, h2]]
      go_enter Tryz.func74, Tryz.ntmps74
      go_wp2
      go_ret
      exact ⟨rfl, rfl⟩
  · have d1 : decide ((lo : Int) ≤ x) = false := decide_eq_false h1
    rw [show within lo hi x = false by simp [within, h1]]
    go_enter Tryz.func74, Tryz.ntmps74
    go_wp2
    go_ret
    exact ⟨rfl, rfl⟩
set_option maxHeartbeats 400000 in
theorem specAccm (x : Int) (w : World) : Calls Tryz.prog 109 #[.int .i64 x] w fun e w' => e = .returned (.bool (within 0 4294967295 x)) ∧ w' = w := by
  have C := hide (specIs x 0 4294967295 w)
  generalize within 0 4294967295 x = ok at *
  go_enter Tryz.func109, Tryz.ntmps109
  go_wp2_with (first
    | (go_at_call 74; refine (unhide C).mono ?_; rintro e w1 ⟨rfl, rfl⟩))
  go_ret
  exact ⟨rfl, rfl⟩
theorem cfgOk_eq (m a g : Int) (h1 : within 64 300 m = true) (h2 : within 0 4294967295 a = true) : cfgOk m a g = within 0 4294967295 g := by
  unfold cfgOk
  rw [h1, h2, Bool.true_and, Bool.true_and]
set_option maxHeartbeats 1000000 in
theorem implCfg (m a g : Int) (p c d : Bool) (w : World) : Calls Tryz.prog 79 #[.agg #[.int .i64 m, .int .i64 a, .int .i64 g, .bool p, .bool c, .bool d]] w fun e w' => e = .returned (.bool (cfgOk m a g)) ∧ Below w.heap.size w w' := by
  have C1 := hide fun v => mruRight m v
  have C2 := hide fun v => accmRight a v
  by_cases h1 : within 64 300 m = true
  · by_cases h2 : within 0 4294967295 a = true
    · rw [cfgOk_eq m a g h1 h2]
      rw [h1] at C1
      rw [h2] at C2
      by_cases h3 : 0 ≤ g
      · have d1 : decide ((0 : Int) ≤ g) = true := decide_eq_true h3
        by_cases h4 : g ≤ 4294967295
        · have d2 : decide (g ≤ 4294967295) = true := decide_eq_true h4
          rw [show within 0 4294967295 g = true by simp [within, h3, h4]]
          go_enter Tryz.func79, Tryz.ntmps79
          go_wp2_with (first
            | (go_at_call 111; refine (unhide C1 _).mono ?_; rintro e w1 ⟨rfl, rfl⟩)
            | (go_at_call 112; refine (unhide C2 _).mono ?_; rintro e w2 ⟨rfl, rfl⟩))
          go_ret
          exact ⟨rfl, (Below.refl _ _).alloc (Nat.le_refl _) _⟩
        · have d2 : decide (g ≤ 4294967295) = false := decide_eq_false h4
          rw [show within 0 4294967295 g = false by simp [within, h4]]
          go_enter Tryz.func79, Tryz.ntmps79
          go_wp2_with (first
            | (go_at_call 111; refine (unhide C1 _).mono ?_; rintro e w1 ⟨rfl, rfl⟩)
            | (go_at_call 112; refine (unhide C2 _).mono ?_; rintro e w2 ⟨rfl, rfl⟩))
          go_ret
          exact ⟨rfl, (Below.refl _ _).alloc (Nat.le_refl _) _⟩
      · have d1 : decide ((0 : Int) ≤ g) = false := decide_eq_false h3
        rw [show within 0 4294967295 g = false by simp [within, h3]]
        go_enter Tryz.func79, Tryz.ntmps79
        go_wp2_with (first
          | (go_at_call 111; refine (unhide C1 _).mono ?_; rintro e w1 ⟨rfl, rfl⟩)
          | (go_at_call 112; refine (unhide C2 _).mono ?_; rintro e w2 ⟨rfl, rfl⟩))
        go_ret
        exact ⟨rfl, (Below.refl _ _).alloc (Nat.le_refl _) _⟩
    · rw [Bool.not_eq_true] at h2
      rw [show cfgOk m a g = false by simp [cfgOk, h2]]
      rw [h1] at C1
      rw [h2] at C2
      go_enter Tryz.func79, Tryz.ntmps79
      go_wp2_with (first
        | (go_at_call 111; refine (unhide C1 _).mono ?_; rintro e w1 ⟨rfl, rfl⟩)
        | (go_at_call 112; refine (unhide C2 _).mono ?_; rintro e w2 ⟨rfl, rfl⟩))
      go_ret
      exact ⟨rfl, (Below.refl _ _).alloc (Nat.le_refl _) _⟩
  · rw [Bool.not_eq_true] at h1
    rw [show cfgOk m a g = false by simp [cfgOk, h1]]
    rw [h1] at C1
    clear C2
    go_enter Tryz.func79, Tryz.ntmps79
    go_wp2_with (first
      | (go_at_call 111; refine (unhide C1 _).mono ?_; rintro e w1 ⟨rfl, rfl⟩))
    go_ret
    exact ⟨rfl, (Below.refl _ _).alloc (Nat.le_refl _) _⟩
set_option maxHeartbeats 1000000 in
theorem specCfg (m a g : Int) (p c d : Bool) (w : World) : Calls Tryz.prog 73 #[.agg #[.int .i64 m, .int .i64 a, .int .i64 g, .bool p, .bool c, .bool d]] w fun e w' => e = .returned (.bool (cfgOk m a g)) ∧ Below w.heap.size w w' := by
  have C1 := hide fun v => specIs m 64 300 v
  have C2 := hide fun v => specAccm a v
  have C3 := hide fun v => specIs g 0 4294967295 v
  unfold cfgOk
  generalize within 64 300 m = b1 at *
  generalize within 0 4294967295 a = b2 at *
  generalize within 0 4294967295 g = b3 at *
  cases b1
  · go_enter Tryz.func73, Tryz.ntmps73
    go_wp2_with fail
    refine (unhide C1 _).mono ?_
    rintro e w1 ⟨rfl, rfl⟩
    go_wp2
    go_ret
    exact ⟨rfl, (Below.refl _ _).alloc (Nat.le_refl _) _⟩
  cases b2
  · go_enter Tryz.func73, Tryz.ntmps73
    go_wp2_with fail
    refine (unhide C1 _).mono ?_
    rintro e w1 ⟨rfl, rfl⟩
    go_wp2_with fail
    refine (unhide C2 _).mono ?_
    rintro e w2 ⟨rfl, rfl⟩
    go_wp2
    go_ret
    exact ⟨rfl, (Below.refl _ _).alloc (Nat.le_refl _) _⟩
  · go_enter Tryz.func73, Tryz.ntmps73
    go_wp2_with fail
    refine (unhide C1 _).mono ?_
    rintro e w1 ⟨rfl, rfl⟩
    go_wp2_with fail
    refine (unhide C2 _).mono ?_
    rintro e w2 ⟨rfl, rfl⟩
    go_wp2_with fail
    refine (unhide C3 _).mono ?_
    rintro e w3 ⟨rfl, rfl⟩
    go_wp2
    go_ret
    exact ⟨rfl, (Below.refl _ _).alloc (Nat.le_refl _) _⟩
end Go.Proofs.YtghopihgnmnlcaaGreatDoor
