/- What a flag finds, the model's (l02End), but for a text that is good: a thing found and whether; what lay in memory stands. (The good text's case is still to be walked: region 13 stands still at its slice.) -/
import Derived.Test.YtillpfcldehfdaaDoorEndFr
import Derived.Test.YtillpfcldehfdaaDoorGoodModel
import Derived.Test.YtillpfcldehfdaaDoorRight
namespace Go.Proofs.YtillpfcldehfdaaDoor
open Go.RowKit
/-- What is found, as the model's two results. -/
def endV : List Hd.Fd → Value
  | [] => .tuple #[.agg #[.int .i64 0, .string ⟨#[]⟩], .bool false]
  | f :: _ => .tuple #[.agg #[.int .i64 f.kind, .string (txt f.text)], .bool true]
theorem specGoodB (u : ByteArray) (wide : Bool) (w : World) (hu : u.size ≤ 8000) :
    Calls Tryd.prog 85 #[.string u, .bool wide] w fun e w' => e = .returned (.bool (goodV u wide)) ∧ Below w.heap.size w w' := by
  by_cases h : tailN wide ≤ u.size
  · rw [show goodV u wide = _ from if_pos ⟨hu, h⟩, Bool.beq_comm]
    exact specGood_at u wide w (u.size - tailN wide) (by omega) hu
  · rw [show goodV u wide = false from if_neg fun k => h k.2]
    exact specGood_no u wide w (by omega)
theorem row2' {w : World} {B : Nat} {x0 x1 : Value} {T : TypeId} (h : w.heap[B]? = some (.cells #[x0, x1] T)) :
    w.cell? ⟨B, 0, none⟩ = some x0 ∧ w.cell? ⟨B, 1, none⟩ = some x1 ∧ w.frozen? ⟨B, 0, none⟩ = false ∧ w.frozen? ⟨B, 1, none⟩ = false :=
  ⟨by rw [cell_of_row _ _ _ _ _ _ h]; rfl, by rw [cell_of_row _ _ _ _ _ _ h]; rfl, frz h _, frz h _⟩
theorem row6' {w : World} {B : Nat} {x0 x1 x2 x3 x4 x5 : Value} {T : TypeId} (h : w.heap[B]? = some (.cells #[x0, x1, x2, x3, x4, x5] T)) :
    w.cell? ⟨B, 0, none⟩ = some x0 ∧ w.cell? ⟨B, 1, none⟩ = some x1 ∧ w.cell? ⟨B, 2, none⟩ = some x2 ∧ w.cell? ⟨B, 3, none⟩ = some x3 ∧ w.cell? ⟨B, 4, none⟩ = some x4 ∧ w.cell? ⟨B, 5, none⟩ = some x5 := by
  refine ⟨?_, ?_, ?_, ?_, ?_, ?_⟩
  all_goals
    rw [cell_of_row _ _ _ _ _ _ h]
    rfl
theorem infoF : (Tryd.prog.info? 44).map (·.size) = some 2 := by kernel_rfl
set_option maxHeartbeats 2000000 in
theorem specEnd_but (wide : Bool) (x : Int) (inn esc long : Bool) (u : ByteArray) (w : World) (hu : u.size ≤ 304) (hng : inn = true → esc = false → long = false → tailN wide < u.size → goodV u wide = false) :
    Calls Tryd.prog 63 #[.agg #[.bool wide, .int .i64 x, .bool inn, .bool esc, .bool long, .string u]] w fun e w' => e = .returned (endV (Hd.endOf (gd wide) ⟨inn, esc, long, u.data.toList⟩)) ∧ Below w.heap.size w w' := by
  have hlen : u.data.toList.length = u.size := by rw [Array.length_toList]; rfl
  have HM := hide (many' wide)
  have HG := hide fun v => specGoodB u wide v (by omega)
  have hk4 := tailN_le wide
  cases inn
  · have hE : Hd.endOf (gd wide) ⟨false, esc, long, u.data.toList⟩ = [] := by simp [Hd.endOf]
    rw [hE]
    go_enter Tryd.func63, Tryd.ntmps63
    go_wp2
    refine bodyPost_ret (v := endV []) (by simp [results, Tryd.results63, go_sem, endV]) rfl ⟨rfl, ?_⟩
    exact ((Below.refl _ _).alloc (Nat.le_refl _) _).alloc (by simp) _
  · cases esc
    · by_cases h0 : u.size = 0
      · obtain rfl := empty_of_size h0
        cases long
        · have hE : Hd.endOf (gd wide) ⟨true, false, false, (ByteArray.mk #[]).data.toList⟩ = [] := by simp [Hd.endOf]
          rw [hE]
          go_enter Tryd.func63, Tryd.ntmps63
          go_wp2
          refine bodyPost_ret (v := endV []) (by simp [results, Tryd.results63, go_sem, endV]) rfl ⟨rfl, ?_⟩
          exact ((Below.refl _ _).alloc (Nat.le_refl _) _).alloc (by simp) _
        · have hE : Hd.endOf (gd wide) ⟨true, false, true, (ByteArray.mk #[]).data.toList⟩ = [⟨5, []⟩] := by simp [Hd.endOf]
          rw [hE]
          go_enter Tryd.func63, Tryd.ntmps63
          go_wp2
          refine bodyPost_ret (v := endV [⟨5, []⟩]) (by simp [results, Tryd.results63, go_sem, endV, txt]) rfl ⟨rfl, ?_⟩
          exact ((Below.refl _ _).alloc (Nat.le_refl _) _).alloc (by simp) _
      · have d2 := not_empty h0
        have hnn : ¬ u.data.toList = [] := fun e => h0 (by rw [← hlen, e]; rfl)
        cases long
        · by_cases hc : u.size ≤ tailN wide
          · have hE : Hd.endOf (gd wide) ⟨true, false, false, u.data.toList⟩ = [⟨3, []⟩] := by
              simp only [Hd.endOf]
              rw [if_neg (by simp), if_neg (by simp), if_neg (by simp [hnn]), if_neg (by simp), if_pos (show u.data.toList.length ≤ (gd wide).k by rw [hlen]; exact hc)]
            rw [hE]
            generalize tailN wide = k at *
            have d3 : (u.size : Int) ≤ (k : Int) := by omega
            have d4 : decide ((u.size : Int) ≤ (k : Int)) = true := decide_eq_true d3
            clear hE hnn hlen
            go_enter Tryd.func63, Tryd.ntmps63
            go_wp2_with fail
            go_quiet (first
              | (go_at_call 84; refine Calls.quiet_of_same (unhide HM _)))
            go_wp2
            have hO1 : (((w.alloc (.cells #[.bool wide, .int .i64 x, .bool true, .bool false, .bool false, .string u] 38)).alloc (.cells #[.int .i64 0, .string ⟨#[]⟩] 44)).drewN nq).heap[w.heap.size + 1]? = some (.cells #[.int .i64 0, .string ⟨#[]⟩] 44) := by
              have h := heap_alloc_last (w.alloc (.cells #[.bool wide, .int .i64 x, .bool true, .bool false, .bool false, .string u] 38)) (.cells #[.int .i64 0, .string ⟨#[]⟩] 44)
              rw [show (w.alloc (.cells #[.bool wide, .int .i64 x, .bool true, .bool false, .bool false, .string u] 38)).heap.size = w.heap.size + 1 by simp] at h
              exact h
            have hbb : Below w.heap.size w (((w.alloc (.cells #[.bool wide, .int .i64 x, .bool true, .bool false, .bool false, .string u] 38)).alloc (.cells #[.int .i64 0, .string ⟨#[]⟩] 44)).drewN nq) := by
              have h := ((Below.refl w.heap.size w).alloc (Nat.le_refl _) (.cells #[.bool wide, .int .i64 x, .bool true, .bool false, .bool false, .string u] 38)).alloc (by simp) (.cells #[.int .i64 0, .string ⟨#[]⟩] 44)
              exact ⟨h.os, h.tape, h.output, h.size, h.block⟩
            have hfin : (((((w.alloc (.cells #[.bool wide, .int .i64 x, .bool true, .bool false, .bool false, .string u] 38)).alloc (.cells #[.int .i64 0, .string ⟨#[]⟩] 44)).drewN nq).setCell ⟨w.heap.size + 1, 0, none⟩ (.int .i64 3)).setCell ⟨w.heap.size + 1, 1, none⟩ (.string ⟨#[]⟩)).heap[w.heap.size + 1]? = some (.cells #[.int .i64 3, .string ⟨#[]⟩] 44) := by
              rw [heap_setCell_same _ _ 1 _ _ _ (heap_setCell_same _ _ 0 _ _ _ hO1)]
              rfl
            have hld := run_loadVar_row (P := Tryd.prog) (((((w.alloc (.cells #[.bool wide, .int .i64 x, .bool true, .bool false, .bool false, .string u] 38)).alloc (.cells #[.int .i64 0, .string ⟨#[]⟩] 44)).drewN nq).setCell ⟨w.heap.size + 1, 0, none⟩ (.int .i64 3)).setCell ⟨w.heap.size + 1, 1, none⟩ (.string ⟨#[]⟩)) (w.heap.size + 1) 44 44 #[.int .i64 3, .string ⟨#[]⟩] (0, 0) _ hfin Tryd.underlying44 rfl infoF
            have hbf : Below w.heap.size w (((((w.alloc (.cells #[.bool wide, .int .i64 x, .bool true, .bool false, .bool false, .string u] 38)).alloc (.cells #[.int .i64 0, .string ⟨#[]⟩] 44)).drewN nq).setCell ⟨w.heap.size + 1, 0, none⟩ (.int .i64 3)).setCell ⟨w.heap.size + 1, 1, none⟩ (.string ⟨#[]⟩)) := ((hbb).setCell (p := ⟨w.heap.size + 1, 0, none⟩) (Nat.le_succ _) _).setCell (p := ⟨w.heap.size + 1, 1, none⟩) (Nat.le_succ _) _
            refine bodyPost_ret (v := endV [⟨3, []⟩]) ?_ rfl ⟨rfl, hbf⟩
            simp [results, Tryd.results63, asAddr, Result.andThen, hld, endV, txt]
          · have hkl : tailN wide < u.size := by omega
            obtain ⟨m, hm⟩ : ∃ m : Nat, u.size = m + tailN wide := ⟨u.size - tailN wide, by omega⟩
            have hE : Hd.endOf (gd wide) ⟨true, false, false, u.data.toList⟩ = (if goodV u wide then [⟨1, u.data.toList.take m⟩] else [⟨2, []⟩]) := by
              simp only [Hd.endOf]
              rw [if_neg (by simp), if_neg (by simp), if_neg (by simp [hnn]), if_neg (by simp), if_neg (show ¬ u.data.toList.length ≤ (gd wide).k by rw [hlen]; exact hc), show u.data.toList.length - (gd wide).k = m from by rw [hlen]; show u.size - tailN wide = m; omega]
              show (if (!goodV u wide) = true then _ else _) = _
              cases goodV u wide <;> rfl
            have HX : Hid (u.extract 0 m = txt (u.data.toList.take m)) := hide (by
              apply ByteArray.ext
              apply Array.ext'
              simp [txt, ByteArray.data_extract])
            have hgv := hng rfl rfl rfl hkl
            rw [show Hd.endOf (gd wide) ⟨true, false, false, u.data.toList⟩ = [⟨2, []⟩] by rw [hE, hgv]; rfl]
            rw [hgv] at HG
            clear hgv hE
            all_goals
              generalize tailN wide = k at *
              have d3 : ¬ ((u.size : Int) ≤ (k : Int)) := by omega
              have d4 : decide ((u.size : Int) ≤ (k : Int)) = false := decide_eq_false d3
              have d5 : (u.size : Int) - (k : Int) = (m : Int) := by omega
              have d6 : (m : Int) ≤ (u.size : Int) := by omega
              clear hnn hlen hm hc
              go_enter Tryd.func63, Tryd.ntmps63
              go_wp2_with fail
              go_quiet (first
                | (go_at_call 84; refine Calls.quiet_of_same (unhide HM _)))
              go_wp2_with fail
              refine (unhide HG _).mono ?_
              rintro e w2 ⟨rfl, hb2⟩
              have hO1 : (((w.alloc (.cells #[.bool wide, .int .i64 x, .bool true, .bool false, .bool false, .string u] 38)).alloc (.cells #[.int .i64 0, .string ⟨#[]⟩] 44)).drewN nq).heap[w.heap.size + 1]? = some (.cells #[.int .i64 0, .string ⟨#[]⟩] 44) := by
                have h := heap_alloc_last (w.alloc (.cells #[.bool wide, .int .i64 x, .bool true, .bool false, .bool false, .string u] 38)) (.cells #[.int .i64 0, .string ⟨#[]⟩] 44)
                rw [show (w.alloc (.cells #[.bool wide, .int .i64 x, .bool true, .bool false, .bool false, .string u] 38)).heap.size = w.heap.size + 1 by simp] at h
                exact h
              have hbb : Below w.heap.size w (((w.alloc (.cells #[.bool wide, .int .i64 x, .bool true, .bool false, .bool false, .string u] 38)).alloc (.cells #[.int .i64 0, .string ⟨#[]⟩] 44)).drewN nq) := by
                have h := ((Below.refl w.heap.size w).alloc (Nat.le_refl _) (.cells #[.bool wide, .int .i64 x, .bool true, .bool false, .bool false, .string u] 38)).alloc (by simp) (.cells #[.int .i64 0, .string ⟨#[]⟩] 44)
                exact ⟨h.os, h.tape, h.output, h.size, h.block⟩
              have hD1 : (((w.alloc (.cells #[.bool wide, .int .i64 x, .bool true, .bool false, .bool false, .string u] 38)).alloc (.cells #[.int .i64 0, .string ⟨#[]⟩] 44)).drewN nq).heap[w.heap.size]? = some (.cells #[.bool wide, .int .i64 x, .bool true, .bool false, .bool false, .string u] 38) := (Below.heap_alloc _ _ _ (by simp)).trans (heap_alloc_last w _)
              have hszb : (((w.alloc (.cells #[.bool wide, .int .i64 x, .bool true, .bool false, .bool false, .string u] 38)).alloc (.cells #[.int .i64 0, .string ⟨#[]⟩] 44)).drewN nq).heap.size = w.heap.size + 2 := by show ((w.alloc (.cells #[.bool wide, .int .i64 x, .bool true, .bool false, .bool false, .string u] 38)).alloc (.cells #[.int .i64 0, .string ⟨#[]⟩] 44)).heap.size = _; simp
              have hD2 := (hb2.block w.heap.size (by rw [hszb]; omega)).trans hD1
              have hO2 := (hb2.block (w.heap.size + 1) (by rw [hszb]; omega)).trans hO1
              have hbb2 : Below w.heap.size w w2 := hbb.trans (hb2.mono (by rw [hszb]; omega))
              obtain ⟨j0, j1, j2, j3, j4, j5⟩ := row6' hD2
              obtain ⟨o0, o1, q0, q1⟩ := row2' hO2
              clear hO1 hbb hD1 hszb hb2 hD2
            · go_wp2
              have hfin : ((w2.setCell ⟨w.heap.size + 1, 0, none⟩ (.int .i64 2)).setCell ⟨w.heap.size + 1, 1, none⟩ (.string ⟨#[]⟩)).heap[w.heap.size + 1]? = some (.cells #[.int .i64 2, .string ⟨#[]⟩] 44) := by
                rw [heap_setCell_same _ _ 1 _ _ _ (heap_setCell_same _ _ 0 _ _ _ hO2)]
                rfl
              have hld := run_loadVar_row (P := Tryd.prog) ((w2.setCell ⟨w.heap.size + 1, 0, none⟩ (.int .i64 2)).setCell ⟨w.heap.size + 1, 1, none⟩ (.string ⟨#[]⟩)) (w.heap.size + 1) 44 44 #[.int .i64 2, .string ⟨#[]⟩] (0, 0) _ hfin Tryd.underlying44 rfl infoF
              have hbf : Below w.heap.size w ((w2.setCell ⟨w.heap.size + 1, 0, none⟩ (.int .i64 2)).setCell ⟨w.heap.size + 1, 1, none⟩ (.string ⟨#[]⟩)) := ((hbb2).setCell (p := ⟨w.heap.size + 1, 0, none⟩) (Nat.le_succ _) _).setCell (p := ⟨w.heap.size + 1, 1, none⟩) (Nat.le_succ _) _
              apply bodyPost_ret (v := endV [⟨2, []⟩])
              · simp [results, Tryd.results63, asAddr, Result.andThen, hld, endV, txt]
              · rfl
              · exact ⟨rfl, hbf⟩
        · have hE : Hd.endOf (gd wide) ⟨true, false, true, u.data.toList⟩ = [⟨5, []⟩] := by simp [Hd.endOf]
          rw [hE]
          go_enter Tryd.func63, Tryd.ntmps63
          go_wp2
          refine bodyPost_ret (v := endV [⟨5, []⟩]) (by simp [results, Tryd.results63, go_sem, endV, txt]) rfl ⟨rfl, ?_⟩
          exact ((Below.refl _ _).alloc (Nat.le_refl _) _).alloc (by simp) _
    · have hE : Hd.endOf (gd wide) ⟨true, true, long, u.data.toList⟩ = [⟨4, []⟩] := by simp [Hd.endOf]
      rw [hE]
      go_enter Tryd.func63, Tryd.ntmps63
      go_wp2
      refine bodyPost_ret (v := endV [⟨4, []⟩]) (by simp [results, Tryd.results63, go_sem, endV, txt]) rfl ⟨rfl, ?_⟩
      exact ((Below.refl _ _).alloc (Nat.le_refl _) _).alloc (by simp) _
end Go.Proofs.YtillpfcldehfdaaDoor
