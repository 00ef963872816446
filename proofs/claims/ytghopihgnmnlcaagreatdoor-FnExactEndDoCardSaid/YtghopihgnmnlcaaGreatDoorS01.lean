/- What the listed variable of the program, the events' names, gives the walks; no condition. The model's Fsm; what lay in memory stands, and the answer's row is its own. -/
import Derived.Test.YtghopihgnmnlcaaGreatDoorRows
import Derived.Test.YtghopihgnmnlcaaGreatDoorS00
import Derived.Lib.LaidU8
import Derived.ProofKit
import Derived.Lay
import Derived.MakeChecks
import Derived.ChangeVars
import Derived.OpenVars
import Derived.Deep.WholeRow
namespace Go.Proofs.YtghopihgnmnlcaaGreatDoor
open Go.ChangeShapes Go.WideShapes Go.ChangeAt Go.RowKit
theorem own : ownKnob Tryz.prog.godebug = none := by kernel_rfl
theorem evG : Tryz.prog.globalNamed "loop.example/g00351/impl.eventNames" = some 0 := by kernel_rfl
theorem evG_type : (Tryz.prog.globals[0]?).map (·.type) = some 124 := by kernel_rfl
theorem cells_str : Tryz.prog.cellsOf 9 = 1 := by kernel_rfl
theorem evData : (Rows.laid_loop_example_g00351_impl_eventNames : DataW Unit) = .agg (evRow.map fun x => .lit (.string x.1)) := by kernel_rfl
theorem evT_of {W : World} (h : Lib.VarReads Tryz.prog W "loop.example/g00351/impl.eventNames" Rows.laid_loop_example_g00351_impl_eventNames) : EvT W := by
  rw [evData] at h
  obtain ⟨g, t, cs, fuel, p, hg, hty, hvar, hd⟩ := h
  obtain rfl := Option.some.inj (evG.symm.trans hg)
  obtain rfl := Option.some.inj (evG_type.symm.trans hty)
  intro i x hx
  have hi : i < 16 := (List.getElem?_eq_some_iff.1 hx).1
  obtain ⟨fuel', d, q, hdi, he⟩ := Lib.array_elem Tryz.underlying124 hd i hi
  unfold evTexts at hx
  rw [List.getElem?_map] at hx hdi
  obtain ⟨r, hr, rfl⟩ := Option.map_eq_some_iff.1 hx
  rw [hr] at hdi
  obtain rfl := Option.some.inj hdi
  rw [cells_str, Nat.mul_one] at he
  obtain ⟨s, hc, hz, hw⟩ := DataW.trod_string Tryz.underlying9 he
  rw [World.var?_cell hg hvar i, ← Array.getElem?_toList]
  have e0 : cs.toList[i]? = some (.string s) := by
    have := congrArg (·[0]?) hc
    simpa [List.getElem?_take, List.getElem?_drop] using this
  rw [e0]
  simp at hz
  rw [hz.1]
  rfl
end Go.Proofs.YtghopihgnmnlcaaGreatDoor
namespace Go.Proofs.YtghopihgnmnlcaaGreatDoor
open Go.RowKit
/-- The place of the table. -/
def fsmX (s : Nat) (t : ByteArray) : ByteArray := ((splitOf (rowOf t) 44)[s]?).getD ⟨#[]⟩
/-- What Fsm answers: the state, the actions, the code. -/
def fsmF (s : Int) (t : ByteArray) : Int × List ByteArray × Int :=
  if 8000 < t.size then (0, [], 2) else if ¬ (0 ≤ s ∧ s ≤ 9) then (0, [], 5) else if rowOf t = ⟨#[]⟩ then (0, [], 6) else if (fsmX s.toNat t).toList = [45] then (s, [], 8)
  else (((fsmX s.toNat t).data.toList.getLastD 0).toNat - 48, if 2 < (fsmX s.toNat t).size then splitOf ((fsmX s.toNat t).extract 0 ((fsmX s.toNat t).size - 2)) 32 else [], 0)
theorem infoT : (Tryz.prog.info? 128).map (·.size) = some 3 := by kernel_rfl
theorem loadT {W : World} {E : Nat} {x0 x1 x2 : Value} (h : W.heap[E]? = some (.cells #[x0, x1, x2] 128)) : (loadVar 128 ⟨E, 0, none⟩).run Tryz.prog W = .ok (.agg #[x0, x1, x2]) W :=
  run_loadVar_row (P := Tryz.prog) _ _ 128 128 #[x0, x1, x2] (0, 0) _ h Tryz.underlying128 rfl infoT
theorem set3_at {W : World} {E : Nat} {z0 z1 z2 : Value} {T : TypeId} (h : W.heap[E]? = some (.cells #[z0, z1, z2] T)) (x0 x1 x2 : Value) :
    (((W.setCell ⟨E, 0, none⟩ x0).setCell ⟨E, 1, none⟩ x1).setCell ⟨E, 2, none⟩ x2).heap[E]? = some (.cells #[x0, x1, x2] T) :=
  heap_setCell_same _ _ 2 _ _ x2 (heap_setCell_same _ _ 1 _ _ x1 (heap_setCell_same _ _ 0 _ _ x0 h))
theorem set3_below {n : Nat} {w W : World} {E : Nat} (h : Below n w W) (hE : n ≤ E) (x0 x1 x2 : Value) : Below n w (((W.setCell ⟨E, 0, none⟩ x0).setCell ⟨E, 1, none⟩ x1).setCell ⟨E, 2, none⟩ x2) :=
  ((h.setCell (p := ⟨E, 0, none⟩) hE _).setCell (p := ⟨E, 1, none⟩) hE _).setCell (p := ⟨E, 2, none⟩) hE _
theorem row3x {w : World} {B : Nat} {x0 x1 x2 : Value} {T : TypeId} (h : w.heap[B]? = some (.cells #[x0, x1, x2] T)) :
    w.cell? ⟨B, 0, none⟩ = some x0 ∧ w.cell? ⟨B, 1, none⟩ = some x1 ∧ w.cell? ⟨B, 2, none⟩ = some x2 ∧ w.frozen? ⟨B, 0, none⟩ = false ∧ w.frozen? ⟨B, 1, none⟩ = false ∧ w.frozen? ⟨B, 2, none⟩ = false :=
  ⟨by rw [cell_of_row _ _ _ _ _ _ h]; rfl, by rw [cell_of_row _ _ _ _ _ _ h]; rfl, by rw [cell_of_row _ _ _ _ _ _ h]; rfl, frz h _, frz h _, frz h _⟩
set_option maxHeartbeats 400000 in
theorem specIs9 (x : Int) (w : World) : Calls Tryz.prog 74 #[.int .i64 x, .int .i64 0, .int .i64 9] w fun e w' => e = .returned (.bool (decide (0 ≤ x) && decide (x ≤ 9))) ∧ w' = w := by
  by_cases h1 : 0 ≤ x
  · have d1 : decide ((0 : Int) ≤ x) = true := decide_eq_true h1
    rw [d1, Bool.true_and]
    go_enter Tryz.func74, Tryz.ntmps74
    go_wp2
    go_ret
    exact ⟨rfl, rfl⟩
  · have d1 : decide ((0 : Int) ≤ x) = false := decide_eq_false h1
    rw [d1, Bool.false_and]
    go_enter Tryz.func74, Tryz.ntmps74
    go_wp2
    go_ret
    exact ⟨rfl, rfl⟩
/-- What Fsm has answered. -/
def FsmA (r : Int × List ByteArray × Int) (w w' : World) (e : Ending) : Prop :=
  ∃ ad cp, e = .returned (.agg #[.int .i64 r.1, .slice ad r.2.1.length cp, .int .i64 r.2.2]) ∧ w'.ownsRow w.heap.size 9 1 (.slice ad r.2.1.length cp) r.2.1.length (scells r.2.1) ∧ Below w.heap.size w w'
theorem isEmpty_of {t : ByteArray} (h : t ≠ ⟨#[]⟩) : t.toList.isEmpty = false := by
  cases h2 : t.toList with
  | nil => exact absurd (txt_of h2) h
  | cons x l => rfl
set_option maxHeartbeats 2000000 in
theorem specFsm (s : Int) (t : ByteArray) (w : World) (ht : t.size ≤ maxLen) : Calls Tryz.prog 91 #[.int .i64 s, .string t] w fun e w' => FsmA (fsmF s t) w w' e := by
  unfold maxLen at ht
  have hr0 : (w.alloc (.cells #[.int .i64 0, .slice none 0 0, .int .i64 0] 128)).heap[w.heap.size]? = some (.cells #[.int .i64 0, .slice none 0 0, .int .i64 0] 128) := heap_alloc_last w _
  have hb0 : Below w.heap.size w (w.alloc (.cells #[.int .i64 0, .slice none 0 0, .int .i64 0] 128)) := (Below.refl _ _).alloc (Nat.le_refl _) _
  have H0 := hide (And.intro hr0 hb0)
  clear hr0 hb0
  by_cases h1 : 8000 < t.size
  · have d1 : (8000 : Int) < (t.size : Int) := by omega
    rw [show fsmF s t = (0, [], 2) from if_pos h1]
    go_enter Tryz.func91, Tryz.ntmps91
    go_wp2
    refine bodyPost_ret (v := .agg #[.int .i64 0, .slice none 0 0, .int .i64 2]) (by simp [results, Tryz.results91, go_sem]) rfl ⟨none, 0, rfl, ⟨rfl, Or.inl ⟨rfl, rfl⟩⟩, ?_⟩
    exact (Below.refl _ _).alloc (Nat.le_refl _) _
  have d1 : ¬ ((8000 : Int) < (t.size : Int)) := by omega
  have C1 := hide fun v => specIs9 s v
  by_cases h2 : ¬ (0 ≤ s ∧ s ≤ 9)
  · rw [show (decide (0 ≤ s) && decide (s ≤ 9)) = false by rw [← Bool.not_eq_true, Bool.and_eq_true, decide_eq_true_eq, decide_eq_true_eq]; exact h2] at C1
    rw [show fsmF s t = (0, [], 5) by unfold fsmF; rw [if_neg h1, if_pos h2]]
    go_enter Tryz.func91, Tryz.ntmps91
    go_wp2_with (first | (go_at_call 74; refine (unhide C1 _).mono ?_; rintro e w1 ⟨rfl, rfl⟩))
    refine bodyPost_ret (v := .agg #[.int .i64 0, .slice none 0 0, .int .i64 5]) (by simp [results, Tryz.results91, go_sem]) rfl ⟨none, 0, rfl, ⟨rfl, Or.inl ⟨rfl, rfl⟩⟩, ?_⟩
    exact (Below.refl _ _).alloc (Nat.le_refl _) _
  have h2' : 0 ≤ s ∧ s ≤ 9 := Classical.not_not.1 h2
  rw [show (decide (0 ≤ s) && decide (s ≤ 9)) = true by simp [h2']] at C1
  have C2 := hide fun v => specRow t v
  by_cases h3 : rowOf t = ⟨#[]⟩
  · rw [h3] at C2
    rw [show fsmF s t = (0, [], 6) by unfold fsmF; rw [if_neg h1, if_neg h2, if_pos h3]]
    go_enter Tryz.func91, Tryz.ntmps91
    go_wp2_with (first
      | (go_at_call 74; refine (unhide C1 _).mono ?_; rintro e w1 ⟨rfl, rfl⟩)
      | (go_at_call 120; refine (unhide C2 _).mono ?_; rintro e w1 ⟨rfl, rfl⟩))
    refine bodyPost_ret (v := .agg #[.int .i64 0, .slice none 0 0, .int .i64 6]) (by simp [results, Tryz.results91, go_sem]) rfl ⟨none, 0, rfl, ⟨rfl, Or.inl ⟨rfl, rfl⟩⟩, ?_⟩
    exact (Below.refl _ _).alloc (Nat.le_refl _) _
  have hok : okRow (rowOf t).data.toList = true := (rowOf_ok t).resolve_left h3
  obtain ⟨k, rfl⟩ : ∃ k : Nat, s = (k : Int) := ⟨s.toNat, by omega⟩
  have hk : k < 10 := by omega
  have hemp := isEmpty_of h3
  have HF : Hid (fsmF (k : Int) t = if (fsmX k t).toList = [45] then ((k : Int), [], 8) else (((fsmX k t).data.toList.getLastD 0).toNat - 48, if 2 < (fsmX k t).size then splitOf ((fsmX k t).extract 0 ((fsmX k t).size - 2)) 32 else [], 0)) := hide (by
    unfold fsmF
    rw [if_neg h1, if_neg h2, if_neg h3]
    rfl)
  unfold fsmX at HF
  change okRow (rowOf t).data.toList = true at hok
  generalize rowOf t = r at *
  unfold okRow at hok
  rw [Bool.and_eq_true, Bool.and_eq_true, Bool.and_eq_true, txt_data] at hok
  obtain ⟨⟨⟨hl10, hall⟩, _⟩, hr200⟩ := hok
  replace hl10 := of_decide_eq_true hl10
  replace hr200 := of_decide_eq_true hr200
  have hrs : r.size ≤ 100000 := by have : r.data.toList.length = r.size := by rw [Array.length_toList]; rfl
                                   omega
  have C3 := hide fun v => specSplit r 44 v hrs
  obtain ⟨x, hx⟩ : ∃ x, (splitOf r 44)[k]? = some x := ⟨_, List.getElem?_eq_getElem (by omega)⟩
  rw [hx, Option.getD_some] at HF
  have hxo : okX x = true := List.all_eq_true.1 hall x (List.mem_of_getElem? hx)
  generalize splitOf r 44 = L at *
  obtain ⟨R, hR⟩ : ∃ R, (if x.toList = [45] then ((k : Int), ([] : List ByteArray), (8 : Int)) else ((x.data.toList.getLastD 0).toNat - 48, if 2 < x.size then splitOf (x.extract 0 (x.size - 2)) 32 else [], 0)) = R := ⟨_, rfl⟩
  rw [unhide HF, hR]
  have HR := hide hR
  clear hR HF hall h1 h2 h3 hr200 hrs
  have hk9 : (k : Int) < 10 := by omega
  have hk0 : (0 : Int) ≤ (k : Int) := by omega
  go_enter Tryz.func91, Tryz.ntmps91
  go_wp2_with (first
    | (go_at_call 74; refine (unhide C1 _).mono ?_; rintro e w1 ⟨rfl, hw⟩; replace hw := hw.symm; subst hw)
    | (go_at_call 120; refine (unhide C2 _).mono ?_; rintro e w1 ⟨rfl, hw⟩; replace hw := hw.symm; subst hw)
    | fail)
  refine (unhide C3 _).mono ?_
  rintro e w2 ⟨ad, cp, rfl, ho2, hb2⟩
  have hr2 := (hb2.block w.heap.size (Array.getElem?_eq_some_iff.1 (unhide H0).1).1).trans (unhide H0).1
  have hB2 := (unhide H0).2.trans (hb2.mono (unhide H0).2.size)
  have hc2 : ∃ gL, ad = some ⟨gL, 0, none⟩ ∧ w2.cell? ⟨gL, k, none⟩ = some (.string x) := by
    rcases HoldsT.own ho2 with ⟨_, _, _, e⟩ | ⟨gL, cp', cur, e, q1, q2, q3⟩
    · rw [e] at hl10; cases hl10
    · cases e
      exact ⟨gL, rfl, by rw [cell_of_row _ _ _ _ _ _ q1, q3 k (by omega)]; exact scells_get _ _ _ hx⟩
  obtain ⟨gL, rfl, k0⟩ := hc2
  obtain ⟨r0, r1, r2, f0, f1, f2⟩ := row3x hr2
  have H2 := hide (And.intro hr2 hB2)
  rw [hl10]
  clear ho2 hb2 hr2 hB2 H0 C1 C2 C3 hx hemp
  go_upto_region 9 with fail
  by_cases h45 : x.toList = [45]
  · have e45 : (x.toList == [45]) = true := by rw [h45]; rfl
    have hR := unhide HR
    rw [if_pos h45] at hR
    subst hR
    clear HR h45
    go_wp2
    refine bodyPost_ret (v := .agg #[.int .i64 k, .slice none 0 0, .int .i64 8]) (by simp [results, Tryz.results91, asAddr, loadT (set3_at (unhide H2).1 (.int .i64 k) (.slice none 0 0) (.int .i64 8))]) rfl ⟨none, 0, rfl, ⟨rfl, Or.inl ⟨rfl, rfl⟩⟩, set3_below (unhide H2).2 (Nat.le_refl _) _ _ _⟩
  · have e45 : (x.toList == [45]) = false := beq_eq_false_iff_ne.2 h45
    have hR := unhide HR
    rw [if_neg h45] at hR
    unfold okX at hxo
    rw [Bool.and_eq_true, Bool.and_eq_true, ← ByteArray.toList_eq, e45, Bool.or_false, Bool.and_eq_true] at hxo
    obtain ⟨⟨hx1, hx30⟩, hc1, hc2⟩ := hxo
    replace hx1 := of_decide_eq_true hx1
    replace hx30 := of_decide_eq_true hx30
    replace hc1 := of_decide_eq_true hc1
    replace hc2 := of_decide_eq_true hc2
    rw [ByteArray.toList_eq] at hc1 hc2
    have hlast : x.data.toList.getLastD 0 = x[x.size - 1] := by
      rw [List.getLastD_eq_getLast?, List.getLast?_eq_getElem?, List.getElem?_eq_getElem (by rw [Array.length_toList]; show x.data.size - 1 < x.data.size; have : x.size = x.data.size := rfl; omega)]
      rfl
    rw [hlast] at hR hc1 hc2
    have d1' : (1 : Int) ≤ (x.size : Int) := by omega
    have HRR := hide hR
    clear hR HR hlast h45
    go_upto_region 12 with fail
    have hlw : w.heap.size < w2.heap.size := (Array.getElem?_eq_some_iff.1 (unhide H2).1).1
    refine gen_world (fun q => q.heap[w.heap.size]? = some (.cells #[.int .i64 0, .slice none 0 0, .int .i64 0] 128) ∧ q.heap[w2.heap.size]? = some (.cells #[.int .i64 ((x[x.size - 1].toNat : Int) - 48), .slice none 0 0, .int .i64 0] 128) ∧ Below w.heap.size w q)
      ⟨(Below.heap_alloc _ _ _ hlw).trans (unhide H2).1, heap_alloc_new w2 _, (unhide H2).2.alloc (unhide H2).2.size _⟩ ?_
    rintro q ⟨hq1, hq2, hq3⟩
    generalize w2.heap.size = N at *
    clear H2 k0 r0 r1 r2 f0 f1 f2 hc1 hc2
    generalize (x[x.size - 1].toNat : Int) - 48 = st at *
    have hlN : N < q.heap.size := (Array.getElem?_eq_some_iff.1 hq2).1
    by_cases h2s : 2 < x.size
    · have d2 : (2 : Int) < (x.size : Int) := by omega
      have hR := unhide HRR
      rw [if_pos h2s] at hR
      have C4 := hide fun v => specSplit (x.extract 0 (x.size - 2)) 32 v (by rw [ByteArray.size_extract]; omega)
      obtain ⟨A, hA⟩ : ∃ A, splitOf (x.extract 0 (x.size - 2)) 32 = A := ⟨_, rfl⟩
      rw [hA] at hR C4
      subst hR
      clear hA
      obtain ⟨m0, m1, m2, g0, g1, g2⟩ := row3x hq2
      have HQ := hide (And.intro hq1 (And.intro hq2 hq3))
      clear hq1 hq2 hq3 HRR
      go_wp2_with fail
      refine (unhide C4 _).mono ?_
      rintro e w5 ⟨ad5, cp5, rfl, ho5, hb5⟩
      have hr5 := (hb5.block w.heap.size (by omega)).trans (unhide HQ).1
      have hn5 := (hb5.block N hlN).trans (unhide HQ).2.1
      have hB5 := (unhide HQ).2.2.trans (hb5.mono (unhide HQ).2.2.size)
      have hs5 := hb5.size
      clear m0 m1 m2 g0 g1 g2
      obtain ⟨m0, m1, m2, g0, g1, g2⟩ := row3x hn5
      have H5 := hide (And.intro hr5 (And.intro hn5 (And.intro hB5 ho5)))
      clear hr5 hn5 hB5 ho5 hb5 HQ C4
      go_upto_region 14 with fail
      refine gen_world (fun q' => q'.heap[w.heap.size]? = some (.cells #[.int .i64 0, .slice none 0 0, .int .i64 0] 128) ∧ q'.heap[N]? = some (.cells #[.int .i64 st, .slice ad5 A.length cp5, .int .i64 0] 128) ∧ Below w.heap.size w q' ∧ q'.ownsRow q.heap.size 9 1 (.slice ad5 A.length cp5) A.length (scells A))
        ⟨by rw [Below.heap_setCell _ _ _ _ (by simp; omega)]; exact (unhide H5).1, heap_setCell_same _ _ 1 _ _ _ (unhide H5).2.1, (unhide H5).2.2.1.setCell (p := ⟨N, 1, none⟩) (by simp; omega) _, own_same (unhide H5).2.2.2 fun g hg _ => Below.heap_setCell _ _ _ _ (by simp; omega)⟩ ?_
      rintro q6 ⟨e1, e2, e3, e4⟩
      clear m0 m1 m2 g0 g1 g2
      obtain ⟨m0, m1, m2, _, _, _⟩ := row3x e2
      obtain ⟨r0, r1, r2, f0, f1, f2⟩ := row3x e1
      have H6 := hide (And.intro e1 (And.intro e3 e4))
      clear e1 e2 e3 e4 H5
      go_wp2
      refine bodyPost_ret (v := .agg #[.int .i64 st, .slice ad5 A.length cp5, .int .i64 0]) (by simp [results, Tryz.results91, asAddr, loadT (set3_at (unhide H6).1 (.int .i64 st) (.slice ad5 A.length cp5) (.int .i64 0))]) rfl ⟨ad5, cp5, rfl, ?_, set3_below (unhide H6).2.1 (Nat.le_refl _) _ _ _⟩
      have := own_same (w' := ((q6.setCell ⟨w.heap.size, 0, none⟩ (.int .i64 st)).setCell ⟨w.heap.size, 1, none⟩ (.slice ad5 A.length cp5)).setCell ⟨w.heap.size, 2, none⟩ (.int .i64 0)) (unhide H6).2.2 fun g hg _ => by
        rw [Below.heap_setCell _ _ _ _ (by simp; omega), Below.heap_setCell _ _ _ _ (by simp; omega), Below.heap_setCell _ _ _ _ (by simp; omega)]
      exact ⟨this.1, this.2.imp id fun ⟨g, cap, cur, h1, h2, h3⟩ => ⟨g, cap, cur, h1, by omega, h3⟩⟩
    · have d2 : ¬ ((2 : Int) < (x.size : Int)) := by omega
      have hR := unhide HRR
      rw [if_neg h2s] at hR
      subst hR
      obtain ⟨m0, m1, m2, _, _, _⟩ := row3x hq2
      obtain ⟨r0, r1, r2, f0, f1, f2⟩ := row3x hq1
      have H6 := hide (And.intro hq1 hq3)
      clear hq1 hq2 hq3 HRR
      go_wp2
      exact bodyPost_ret (v := .agg #[.int .i64 st, .slice none 0 0, .int .i64 0]) (by simp [results, Tryz.results91, asAddr, loadT (set3_at (unhide H6).1 (.int .i64 st) (.slice none 0 0) (.int .i64 0))]) rfl ⟨none, 0, rfl, ⟨rfl, Or.inl ⟨rfl, rfl⟩⟩, set3_below (unhide H6).2 (Nat.le_refl _) _ _ _⟩
end Go.Proofs.YtghopihgnmnlcaaGreatDoor
