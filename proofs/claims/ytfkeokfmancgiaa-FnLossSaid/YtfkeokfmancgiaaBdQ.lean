/- The bundle at work, laid in memory; a part put into its map; what lay in memory ahead of the call stands. -/
import Derived.Test.YtfkeokfmancgiaaBdP
import Derived.Deep.RegionHeld
import Derived.Test.YtfkeokfmancgiaaCln
namespace Go.Proofs.Ytfkeokfmancgiaa
open Go.RowKit
theorem cloneStrB (t : ByteArray) (w : World) (ht : t.size ≤ 281474976710656) : Calls Try.prog 35 #[.string t] w fun e w' => e = .returned (.string t) ∧ Below w.heap.size w w' := by
  have C := hide (Any.stringslite_Clone Try.laysCln t w ht)
  go_enter Try.func35, Try.ntmps35
  go_wp2_with fail
  refine (unhide C).mono ?_
  rintro e w1 ⟨rfl, hb⟩
  go_wp2
  go_ret
  exact ⟨rfl, hb⟩
/-- The map of parts at a block. -/
abbrev MapB (q : World) (M n : Nat) (F : List Fg) : Prop := q.ownsMap Try.prog 2 frR M n (mapD F)
/-- The bundle at work. -/
structure Bw (w : World) (B M n : Nat) (lv gv : Value) (F : List Fg) (lost : Int) (q : World) : Prop where
  c : q.heap[B]? = some (.cells #[lv, .map (some M), gv, .int .i64 lost] 69)
  m : MapB q M n F
  r : Ris F
  lB : w.heap.size ≤ B
  lM : w.heap.size ≤ M
  b : Below w.heap.size w q
theorem MapB.keep {q q' : World} {M n : Nat} {F : List Fg} (h : MapB q M n F) (hb : q'.heap[M]? = q.heap[M]?) : MapB q' M n F := by
  obtain ⟨es, clock, h1, h2⟩ := h
  exact ⟨es, clock, hb.trans h1, h2⟩
theorem Bw.step {w q q' : World} {B M n : Nat} {lv gv : Value} {F : List Fg} {lost : Int} (h : Bw w B M n lv gv F lost q) (hb : Below q.heap.size q q') : Bw w B M n lv gv F lost q' :=
  ⟨(hb.block _ (Array.getElem?_eq_some_iff.1 h.c).1).trans h.c, h.m.keep (hb.block _ h.m.lt), h.r, h.lB, h.lM, h.b.trans (hb.mono h.b.size)⟩
theorem Bw.ne {w q : World} {B M n : Nat} {lv gv : Value} {F : List Fg} {lost : Int} (h : Bw w B M n lv gv F lost q) {E : Nat} {cs : Array Value} {T : TypeId} (he : q.heap[E]? = some (.cells cs T)) : E ≠ M := by
  obtain ⟨es, clock, h1, _⟩ := h.m
  intro e
  subst e
  rw [h1] at he
  cases he
/-- The map turned, all else as it was. -/
theorem Bw.turn {w q q' : World} {B M n n' : Nat} {lv gv : Value} {F F' : List Fg} {lost : Int} (h : Bw w B M n lv gv F lost q) (hm : MapB q' M n' F') (hr : Ris F') (hg : q.grownBy q' (some M)) : Bw w B M n' lv gv F' lost q' :=
  ⟨(hg.block B (Array.getElem?_eq_some_iff.1 h.c).1 (fun e => h.ne h.c (Option.some.inj e))).trans h.c, hm, hr, h.lB, h.lM, h.b.grown hg h.b.size (fun k hk => by cases hk; exact h.lM)⟩
theorem key64 : Maps.Keyed Try.prog 2 := Maps.int_keyed Try.underlying2
theorem keyI (a : Int) (h : -9223372036854775808 ≤ a ∧ a ≤ 9223372036854775807) : keyOf Try.prog 2 (.int .i64 a) = some (.int .i64 a) := Maps.keyOf_int_mk Try.underlying2 (by unfold Lit.wf; simp; exact h)
theorem step_put {ops : Array Oper} {o : Oper} {a : Act} {K : Act → World → Prop} {Q : Exit → Act → World → Prop} {E : Prop} (w : World) (hgd : o.guard = none) (x y z : Operand) (hop : o.op = Op.mapUpdate 67 x y z) (M n : Nat) (F : List Fg) (f : Fg)
    (hx : a.eval x = .map (some M)) (hy : a.eval y = .int .i64 f.seq) (hz : a.eval z = fgV f) (hm : MapB w M n F) (hr : Ris F) (hn : n ≤ 1000) (hs : 0 ≤ f.seq ∧ f.seq ≤ 16777215)
    (h : ∀ w', MapB w' M (n + 1) (putP F f) → w.grownBy w' (some M) → K (a.put o.dst undef) w') :
    if Region.wanted o (yielded ops a.tmps) = true then Oper.wp Try.prog o a w K Q else E := by
  have hw : Region.wanted o (yielded ops a.tmps) = true := by simp [Region.wanted, hgd]
  rw [if_pos hw]
  obtain ⟨w', hrun, r1, r2⟩ := hm.update key64 Try.underlying67 (by unfold maxLen; omega) (keyI f.seq (by omega)) (frR_mk f)
  rw [putD F f hr] at r1
  unfold Oper.wp
  simp [execOp, hop, hx, hy, hz, hrun, Result.andThen]
  exact h w' r1 r2
theorem below_grown {w1 w2 w3 : World} {M : Nat} (h : Below w1.heap.size w1 w2) (hg : w2.grownBy w3 (some M)) : w1.grownBy w3 (some M) :=
  ⟨hg.os.trans h.os, hg.tape.trans h.tape, hg.output.trans h.output, Nat.le_trans h.size hg.size, fun i hi hne => (hg.block i (by have := h.size; omega) hne).trans (h.block i hi)⟩
set_option linter.unusedSimpArgs false in
set_option maxHeartbeats 4000000 in
set_option maxRecDepth 100000 in
theorem iPutB (w q : World) (B M n : Nat) (lv gv : Value) (F : List Fg) (lost : Int) (f : Fg) (hB : Bw w B M n lv gv F lost q) (hn : n ≤ 1000) (hf : fgOk f = true) :
    Calls Try.prog 44 #[.pointer (some ⟨B, 0, none⟩), fgV f] q fun e q' => e = .returned (.tuple #[]) ∧ Bw w B M (n + 1) lv gv (putP F f) lost q' ∧ q.grownBy q' (some M) := by
  have hok := of_decide_eq_true hf
  obtain ⟨s, b, e, t⟩ := f
  dsimp only at hok
  have C := hide fun z => cloneStrB t z (by omega)
  have hA := heap_alloc_new q (.cells #[.int .i64 s, .bool b, .bool e, .string t] 33)
  have hbA := (Below.refl q.heap.size q).alloc (Nat.le_refl _) (.cells #[.int .i64 s, .bool b, .bool e, .string t] 33)
  have H0 := hide (And.intro hA (And.intro (hB.step hbA) hbA))
  have HQS := hide hB.b.size
  obtain ⟨c0, c1, c2, c3⟩ := row4g hA
  have f3 := frz hA 3
  clear hA hbA hB
  unfold fgV
  dsimp only
  go_enter Try.func44, Try.ntmps44
  go_wp2_with fail
  refine (unhide C _).mono ?_
  rintro e1 w1 ⟨rfl, hb1⟩
  have hA1 := (hb1.block _ (Array.getElem?_eq_some_iff.1 (unhide H0).1).1).trans (unhide H0).1
  have hB1 := (unhide H0).2.1.step hb1
  have hq1 := (unhide H0).2.2.trans (hb1.mono (unhide H0).2.2.size)
  have hAB : q.heap.size ≠ B := fun e0 => by rw [e0, hB1.c] at hA1; cases hA1
  clear c0 c1 c2 c3 f3
  obtain ⟨c0, c1, c2, c3⟩ := row4g hA1
  have f3 := frz hA1 3
  have ht : ∀ k, k ≠ q.heap.size → (w1.setCell ⟨q.heap.size, 3, none⟩ (.string t)).heap[k]? = w1.heap[k]? := fun k hk => heap_setCell_other _ _ _ _ hk
  have hA2 : (w1.setCell ⟨q.heap.size, 3, none⟩ (.string t)).heap[q.heap.size]? = some (.cells #[.int .i64 s, .bool b, .bool e, .string t] 33) := heap_setCell_same _ _ 3 _ _ _ hA1
  have H1 := hide (And.intro hA2 (And.intro ((ht B (Ne.symm hAB)).trans hB1.c) (And.intro (hB1.m.keep (ht M (fun e0 => hB1.ne hA1 e0.symm))) (And.intro hB1 (And.intro hq1 ht)))))
  clear hA1 hB1 hq1 ht hA2 hb1 H0 C
  go_upto_region 2 with fail
  refine gen_world (fun z => z.heap[q.heap.size]? = some (.cells #[.int .i64 s, .bool b, .bool e, .string t] 33) ∧ Bw w B M n lv gv F lost z ∧ Below q.heap.size q z) ?_ ?_
  · obtain ⟨k1, k2, k3, k4, k5, k6⟩ := unhide H1
    refine ⟨k1, ⟨k2, k3, k4.r, k4.lB, k4.lM, ?_⟩, ?_⟩
    · exact k4.b.setCell (p := ⟨q.heap.size, 3, none⟩) (by have := (unhide HQS); omega) _
    · exact k5.setCell (p := ⟨q.heap.size, 3, none⟩) (Nat.le_refl _) _
  clear H1 c0 c1 c2 c3 f3
  rintro z0 ⟨k1, k2, k3⟩
  have H2 := hide (And.intro k1 (And.intro k2 k3))
  have HS : Hid (∀ z : World, z.heap[q.heap.size]? = some (.cells #[.int .i64 s, .bool b, .bool e, .string t] 33) → z.heap[B]? = some (.cells #[lv, .map (some M), gv, .int .i64 lost] 69) → z.cell? ⟨B, 1, none⟩ = some (.map (some M)) ∧ z.cell? ⟨q.heap.size, 0, none⟩ = some (.int .i64 s) ∧ z.cell? ⟨q.heap.size, 1, none⟩ = some (.bool b) ∧ z.cell? ⟨q.heap.size, 2, none⟩ = some (.bool e) ∧ z.cell? ⟨q.heap.size, 3, none⟩ = some (.string t)) := hide fun z h1 h2 => ⟨(row4g h2).2.1, (row4g h1).1, (row4g h1).2.1, (row4g h1).2.2.1, (row4g h1).2.2.2⟩
  refine wp_region_held_drew (S := fun z => z.cell? ⟨B, 1, none⟩ = some (.map (some M)) ∧ z.cell? ⟨q.heap.size, 0, none⟩ = some (.int .i64 s) ∧ z.cell? ⟨q.heap.size, 1, none⟩ = some (.bool b) ∧ z.cell? ⟨q.heap.size, 2, none⟩ = some (.bool e) ∧ z.cell? ⟨q.heap.size, 3, none⟩ = some (.string t)) (by kernel_rfl) (unhide HS _ k1 k2.c) (fun hHeld => ?_)
  clear k1 k2 k3
  have H3 : Hid (z0.drew.heap[q.heap.size]? = some (.cells #[.int .i64 s, .bool b, .bool e, .string t] 33) ∧ Bw w B M n lv gv F lost z0.drew ∧ Below q.heap.size q z0.drew) := hide ⟨(unhide H2).1, (unhide H2).2.1.step ((Below.refl _ _).drew), (unhide H2).2.2.trans (((Below.refl _ _).drew).mono (unhide H2).2.2.size)⟩
  generalize z0.drew = yy at H3 hHeld ⊢
  refine wpAnyH_take (i := 0) (v := ?vpt0) rfl (by kernel_rfl) (by kernel_rfl) (by kernel_rfl) (fun _ _ _ h => h) (Or.inl ⟨by rfl, ?hypt0⟩) (by assumption) ?_
  case hypt0 =>
    intro w hSw
    try dsimp only at hSw
    go_simp
    try with_reducible rfl
  try simp only [Act.put, List.setIfInBounds_toArray, List.set_cons_zero, List.set_cons_succ, List.getElem_toArray, List.getElem_cons_zero]
  refine wpAnyH_take (i := 1) (v := ?vpt1) rfl (by kernel_rfl) (by kernel_rfl) (by kernel_rfl) (fun _ _ _ h => h) (Or.inl ⟨by rfl, ?hypt1⟩) (by assumption) ?_
  case hypt1 =>
    intro w hSw
    try dsimp only at hSw
    go_simp
    try with_reducible rfl
  try simp only [Act.put, List.setIfInBounds_toArray, List.set_cons_zero, List.set_cons_succ, List.getElem_toArray, List.getElem_cons_zero, List.getElem_cons_succ]
  refine wpAnyH_take (i := 2) (v := ?vpt2) rfl (by kernel_rfl) (by kernel_rfl) (by kernel_rfl) (fun _ _ _ h => h) (Or.inl ⟨by rfl, ?hypt2⟩) (by assumption) ?_
  case hypt2 =>
    intro w hSw
    try dsimp only at hSw
    go_simp
    try with_reducible rfl
  try simp only [Act.put, List.setIfInBounds_toArray, List.set_cons_zero, List.set_cons_succ, List.getElem_toArray, List.getElem_cons_zero, List.getElem_cons_succ]
  refine wpAnyH_take (i := 3) (v := ?vpt3) rfl (by kernel_rfl) (by kernel_rfl) (by kernel_rfl) (fun _ _ _ h => h) (Or.inl ⟨by rfl, ?hypt3⟩) (by assumption) ?_
  case hypt3 =>
    intro w hSw
    try dsimp only at hSw
    go_simp
    try with_reducible rfl
  try simp only [Act.put, List.setIfInBounds_toArray, List.set_cons_zero, List.set_cons_succ, List.getElem_toArray, List.getElem_cons_zero, List.getElem_cons_succ]
  refine wpAnyH_take (i := 4) (v := ?vpt4) rfl (by kernel_rfl) (by kernel_rfl) (by kernel_rfl) (fun _ _ _ h => h) (Or.inl ⟨by rfl, ?hypt4⟩) (by assumption) ?_
  case hypt4 =>
    intro w hSw
    try dsimp only at hSw
    go_simp
    try with_reducible rfl
  try simp only [Act.put, List.setIfInBounds_toArray, List.set_cons_zero, List.set_cons_succ, List.getElem_toArray, List.getElem_cons_zero, List.getElem_cons_succ]
  refine wpAnyH_take (i := 5) (v := ?vpt5) rfl (by kernel_rfl) (by kernel_rfl) (by kernel_rfl) (fun _ _ _ h => h) (Or.inl ⟨by rfl, ?hypt5⟩) (by assumption) ?_
  case hypt5 =>
    intro w hSw
    try dsimp only at hSw
    go_simp
    try with_reducible rfl
  try simp only [Act.put, List.setIfInBounds_toArray, List.set_cons_zero, List.set_cons_succ, List.getElem_toArray, List.getElem_cons_zero, List.getElem_cons_succ]
  refine wpAnyH_take (i := 6) (v := ?vpt6) rfl (by kernel_rfl) (by kernel_rfl) (by kernel_rfl) (fun _ _ _ h => h) (Or.inl ⟨by rfl, ?hypt6⟩) (by assumption) ?_
  case hypt6 =>
    intro w hSw
    try dsimp only at hSw
    go_simp
    try with_reducible rfl
  try simp only [Act.put, List.setIfInBounds_toArray, List.set_cons_zero, List.set_cons_succ, List.getElem_toArray, List.getElem_cons_zero, List.getElem_cons_succ]
  clear hHeld
  refine wpAnyH_ready (rs := [7]) (by kernel_rfl) (by simp) ?_
  refine AllReadyH.cons rfl (fun K hK => ?_) (AllReadyH.nil)
  refine step_put yy (by rfl) (.tmp 11) (.tmp 13) (.tmp 14) (by rfl) M n F ⟨s, b, e, t⟩ (by rfl) (by rfl) (by rfl) (unhide H3).2.1.m (unhide H3).2.1.r hn hok.1 ?_
  rintro z2 hm2 hg2
  have H4 := hide (And.intro ((unhide H3).2.1.turn hm2 (putP_ris _ (unhide H3).2.1.r) hg2) (And.intro ((hg2.block _ (Array.getElem?_eq_some_iff.1 (unhide H3).1).1 (fun e0 => (unhide H3).2.1.ne (unhide H3).1 (Option.some.inj e0))).trans (unhide H3).1) hg2))
  clear hm2 hg2
  refine hK.out _ _ (unhide HS _ (unhide H4).2.1 (unhide H4).1.c) (fun _ => ?_)
  clear hK K
  try simp only [Act.put, List.setIfInBounds_toArray, List.set_cons_zero, List.set_cons_succ, List.getElem_toArray, List.getElem_cons_zero, List.getElem_cons_succ]
  refine wpAnyH_done (by kernel_rfl) ?_ _
  show bodyPost _ _ _ _ _ _
  refine bodyPost_end (results_none rfl _ _ _) rfl ?_
  exact ⟨rfl, (unhide H4).1, below_grown (unhide H3).2.2 (unhide H4).2.2⟩
end Go.Proofs.Ytfkeokfmancgiaa
