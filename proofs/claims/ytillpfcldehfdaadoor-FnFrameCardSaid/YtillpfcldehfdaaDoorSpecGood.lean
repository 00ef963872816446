/- What a flag finds, the model's (l02End), of a good text: the text without its tail; what lay in memory stands. -/
import Derived.Test.YtillpfcldehfdaaDoorSpecEnd
import Derived.Deep.DeepCutAuto
namespace Go.Proofs.YtillpfcldehfdaaDoor
open Go.RowKit
set_option maxHeartbeats 2000000 in
theorem specEnd_good (wide : Bool) (x : Int) (u : ByteArray) (w : World) (hu : u.size ≤ 304) (hkl : tailN wide < u.size) (hgv : goodV u wide = true) :
    Calls Tryd.prog 63 #[.agg #[.bool wide, .int .i64 x, .bool true, .bool false, .bool false, .string u]] w fun e w' => e = .returned (endV [⟨1, u.data.toList.take (u.size - tailN wide)⟩]) ∧ Below w.heap.size w w' := by
  have HM := hide (many' wide)
  have HG := hide fun v => specGoodB u wide v (by omega)
  rw [hgv] at HG
  have hk4 := tailN_le wide
  have d2 := not_empty (t := u) (by omega)
  obtain ⟨m, hm⟩ : ∃ m : Nat, u.size = m + tailN wide := ⟨u.size - tailN wide, by omega⟩
  rw [show u.size - tailN wide = m by omega]
  have HX : Hid (u.extract 0 m = txt (u.data.toList.take m)) := hide (by
    apply ByteArray.ext
    apply Array.ext'
    simp [txt, ByteArray.data_extract])
  generalize tailN wide = k at *
  have d3 : ¬ ((u.size : Int) ≤ (k : Int)) := by omega
  have d4 : decide ((u.size : Int) ≤ (k : Int)) = false := decide_eq_false d3
  have d5 : (u.size : Int) - (k : Int) = (m : Int) := by omega
  have d6 : (m : Int) ≤ (u.size : Int) := by omega
  have d7 : IntKind.i64.wrap (m : Int) = (m : Int) := by rw [IntKind.wrap_i64]; omega
  clear hm hgv
  go_enter Tryd.func63, Tryd.ntmps63
  go_wp2_with fail
  go_quiet (first
    | (go_at_call 84; refine Calls.quiet_of_same (unhide HM _)))
  go_wp2_with fail
  refine (unhide HG _).mono ?_
  rintro e w2 ⟨rfl, hb2⟩
  have hO1 : (((w.alloc (.cells #[.bool wide, .int .i64 x, .bool true, .bool false, .bool false, .string u] 38)).alloc (.cells #[.int .i64 0, .string ⟨#[]⟩] 44)).drewN nq).heap[w.heap.size + 1]? = some (.cells #[.int .i64 0, .string ⟨#[]⟩] 44) := by
    have h := heap_alloc_last (w.alloc (.cells #[.bool wide, .int .i64 x, .bool true, .bool false, .bool false, .string u] 38)) (.cells #[.int .i64 0, .string ⟨#[]⟩] 44)
    rw [show (w.alloc (.cells #[.bool wide, .int .i64 x, .bool true, .bool false, .bool false, .string u] 38)).heap.size = w.heap.size + 1 by simp] at h
    exact h
  have hbb : Below w.heap.size w (((w.alloc (.cells #[.bool wide, .int .i64 x, .bool true, .bool false, .bool false, .string u] 38)).alloc (.cells #[.int .i64 0, .string ⟨#[]⟩] 44)).drewN nq) := by
    have h := ((Below.refl w.heap.size w).alloc (Nat.le_refl _) (.cells #[.bool wide, .int .i64 x, .bool true, .bool false, .bool false, .string u] 38)).alloc (by simp) (.cells #[.int .i64 0, .string ⟨#[]⟩] 44)
    exact ⟨h.os, h.tape, h.output, h.size, h.block⟩
  have hD1 : (((w.alloc (.cells #[.bool wide, .int .i64 x, .bool true, .bool false, .bool false, .string u] 38)).alloc (.cells #[.int .i64 0, .string ⟨#[]⟩] 44)).drewN nq).heap[w.heap.size]? = some (.cells #[.bool wide, .int .i64 x, .bool true, .bool false, .bool false, .string u] 38) := (Below.heap_alloc _ _ _ (by simp)).trans (heap_alloc_last w _)
  have hszb : (((w.alloc (.cells #[.bool wide, .int .i64 x, .bool true, .bool false, .bool false, .string u] 38)).alloc (.cells #[.int .i64 0, .string ⟨#[]⟩] 44)).drewN nq).heap.size = w.heap.size + 2 := by show ((w.alloc (.cells #[.bool wide, .int .i64 x, .bool true, .bool false, .bool false, .string u] 38)).alloc (.cells #[.int .i64 0, .string ⟨#[]⟩] 44)).heap.size = _; simp
  have hD2 := (hb2.block w.heap.size (by rw [hszb]; omega)).trans hD1
  have hO2 := (hb2.block (w.heap.size + 1) (by rw [hszb]; omega)).trans hO1
  have hbb2 : Below w.heap.size w w2 := hbb.trans (hb2.mono (by rw [hszb]; omega))
  obtain ⟨j0, j1, j2, j3, j4, j5⟩ := row6' hD2
  obtain ⟨o0, o1, q0, q1⟩ := row2' hO2
  clear hO1 hbb hD1 hszb hb2 hD2
  go_wp2_with fail
  have hfin : (((w2.setCell ⟨w.heap.size + 1, 0, none⟩ (.int .i64 1)).setCell ⟨w.heap.size + 1, 1, none⟩ (.string (u.extract 0 m))).drew).heap[w.heap.size + 1]? = some (.cells #[.int .i64 1, .string (u.extract 0 m)] 44) := by
    show ((w2.setCell ⟨w.heap.size + 1, 0, none⟩ (.int .i64 1)).setCell ⟨w.heap.size + 1, 1, none⟩ (.string (u.extract 0 m))).heap[w.heap.size + 1]? = _
    rw [heap_setCell_same _ _ 1 _ _ _ (heap_setCell_same _ _ 0 _ _ _ hO2)]
    rfl
  have HLD := hide (run_loadVar_row (P := Tryd.prog) (((w2.setCell ⟨w.heap.size + 1, 0, none⟩ (.int .i64 1)).setCell ⟨w.heap.size + 1, 1, none⟩ (.string (u.extract 0 m))).drew) (w.heap.size + 1) 44 44 #[.int .i64 1, .string (u.extract 0 m)] (0, 0) _ hfin Tryd.underlying44 rfl infoF)
  have HBF : Hid (Below w.heap.size w ((w2.setCell ⟨w.heap.size + 1, 0, none⟩ (.int .i64 1)).setCell ⟨w.heap.size + 1, 1, none⟩ (.string (u.extract 0 m))).drew) := hide (((hbb2).setCell (p := ⟨w.heap.size + 1, 0, none⟩) (Nat.le_succ _) _).setCell (p := ⟨w.heap.size + 1, 1, none⟩) (Nat.le_succ _) _).drew
  clear hfin hbb2
  have hne : ¬ (w.heap.size + 1 = w.heap.size) := by omega
  have hne2 : ¬ (w.heap.size = w.heap.size + 1) := by omega
  go_region_held (fun q => q.cell? ⟨w.heap.size, 5, none⟩ = some (.string u) ∧ q.cell? ⟨w.heap.size, 0, none⟩ = some (.bool wide)) (first | go_keep) (first
    | (go_at_call 84; refine (unhide HM _).mono ?_; rintro e w3 ⟨rfl, rfl⟩))
  all_goals go_wp2
  all_goals
    apply bodyPost_ret (v := endV [⟨1, u.data.toList.take m⟩])
    · have hld := unhide HLD
      rw [unhide HX] at hld
      simp [results, Tryd.results63, asAddr, Result.andThen, hld, endV, unhide HX]
    · rfl
    · exact ⟨rfl, unhide HBF⟩
/-- What a flag finds, the model's. -/
theorem specEnd (wide : Bool) (x : Int) (inn esc long : Bool) (u : ByteArray) (w : World) (hu : u.size ≤ 304) :
    Calls Tryd.prog 63 #[.agg #[.bool wide, .int .i64 x, .bool inn, .bool esc, .bool long, .string u]] w fun e w' => e = .returned (endV (Hd.endOf (gd wide) ⟨inn, esc, long, u.data.toList⟩)) ∧ Below w.heap.size w w' := by
  by_cases h : inn = true ∧ esc = false ∧ long = false ∧ tailN wide < u.size ∧ goodV u wide = true
  · obtain ⟨rfl, rfl, rfl, hk, hg⟩ := h
    have hlen : u.data.toList.length = u.size := by rw [Array.length_toList]; rfl
    have hE : Hd.endOf (gd wide) ⟨true, false, false, u.data.toList⟩ = [⟨1, u.data.toList.take (u.size - tailN wide)⟩] := by
      simp only [Hd.endOf]
      have hnn : ¬ u.data.toList = [] := fun e => by rw [e] at hlen; simp at hlen; omega
      rw [if_neg (by simp), if_neg (by simp), if_neg (by simp [hnn]), if_neg (by simp), if_neg (show ¬ u.data.toList.length ≤ (gd wide).k by rw [hlen]; show ¬ u.size ≤ tailN wide; omega), hlen]
      show (if (!goodV u wide) = true then _ else _) = _
      rw [hg]
      rfl
    rw [hE]
    exact specEnd_good wide x u w hu hk hg
  · refine specEnd_but wide x inn esc long u w hu fun h1 h2 h3 h4 => ?_
    cases hg : goodV u wide
    · rfl
    · exact absurd ⟨h1, h2, h3, h4, hg⟩ h
end Go.Proofs.YtillpfcldehfdaaDoor
