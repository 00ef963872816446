/- The draws of chapter 5's packets: a packet, and a text that is read as one; what lay in memory stands but for the drawer. -/
import Derived.Test.YtgelbobocjgdaaaDoorDrawPut
import Derived.Test.YtgelbobocjgdaaaDoorSpoil
import Derived.Test.YtgelbobocjgdaaaDoorPktB
import Derived.Test.YtgelbobocjgdaaaDoorSrcNew
import Derived.Deep.DeepCutAuto
namespace Go.Proofs.YtgelbobocjgdaaaDoor
open Go.RowKit
theorem row3d {w : World} {B : Nat} {x0 x1 x2 : Value} {T : TypeId} (h : w.heap[B]? = some (.cells #[x0, x1, x2] T)) :
    w.cell? ⟨B, 0, none⟩ = some x0 ∧ w.cell? ⟨B, 1, none⟩ = some x1 ∧ w.cell? ⟨B, 2, none⟩ = some x2 ∧ w.frozen? ⟨B, 0, none⟩ = false ∧ w.frozen? ⟨B, 1, none⟩ = false ∧ w.frozen? ⟨B, 2, none⟩ = false :=
  ⟨by rw [cell_of_row _ _ _ _ _ _ h]; rfl, by rw [cell_of_row _ _ _ _ _ _ h]; rfl, by rw [cell_of_row _ _ _ _ _ _ h]; rfl, frz h _, frz h _, frz h _⟩
theorem infoPkt : (Tryd.prog.info? 58).map (·.size) = some 3 := by kernel_rfl
theorem loadP {W : World} {E : Nat} {x0 x1 x2 : Value} (h : W.heap[E]? = some (.cells #[x0, x1, x2] 58)) : (loadVar 58 ⟨E, 0, none⟩).run Tryd.prog W = .ok (.agg #[x0, x1, x2]) W :=
  run_loadVar_row (P := Tryd.prog) _ _ 58 58 #[x0, x1, x2] (0, 0) _ h Tryd.underlying58 rfl infoPkt
/-- A packet under way: its place, the answer's place, the drawer. -/
structure Pst (w W : World) (B : Nat) (sl : Value) (n rb xb : Nat) (c i : Int) (t : ByteArray) : Prop where
  r : W.heap[rb]? = some (.cells #[.int .i64 0, .int .i64 0, .string ⟨#[]⟩] 58)
  x : W.heap[xb]? = some (.cells #[.int .i64 c, .int .i64 i, .string t] 58)
  s : Src W B sl n
  g : Nigh B w W
theorem Pst.step {w W W' : World} {B : Nat} {sl : Value} {n rb xb : Nat} {c i : Int} {t : ByteArray} (h : Pst w W B sl n rb xb c i t) (hn : Nigh B W W') (hs : Src W' B sl n) (h1 : rb ≠ B) (h2 : xb ≠ B) : Pst w W' B sl n rb xb c i t :=
  ⟨(hn.block rb (Array.getElem?_eq_some_iff.1 h.r).1 h1).trans h.r, (hn.block xb (Array.getElem?_eq_some_iff.1 h.x).1 h2).trans h.x, hs, h.g.trans hn⟩
theorem Pst.set0 {w W : World} {B : Nat} {sl : Value} {n rb xb : Nat} {c i : Int} {t : ByteArray} (h : Pst w W B sl n rb xb c i t) (y : Int) (h1 : rb ≠ xb) (h2 : xb ≠ B) (h3 : w.heap.size ≤ xb) : Pst w (W.setCell ⟨xb, 0, none⟩ (.int .i64 y)) B sl n rb xb y i t :=
  ⟨(Below.heap_setCell _ ⟨xb, 0, none⟩ _ rb h1).trans h.r, by rw [heap_setCell_same _ _ 0 _ _ _ h.x]; rfl, h.s.same (Below.heap_setCell _ ⟨xb, 0, none⟩ _ B (Ne.symm h2)), h.g.setCell ⟨xb, 0, none⟩ _ h3⟩
theorem Pst.set1 {w W : World} {B : Nat} {sl : Value} {n rb xb : Nat} {c i : Int} {t : ByteArray} (h : Pst w W B sl n rb xb c i t) (y : Int) (h1 : rb ≠ xb) (h2 : xb ≠ B) (h3 : w.heap.size ≤ xb) : Pst w (W.setCell ⟨xb, 1, none⟩ (.int .i64 y)) B sl n rb xb c y t :=
  ⟨(Below.heap_setCell _ ⟨xb, 1, none⟩ _ rb h1).trans h.r, by rw [heap_setCell_same _ _ 1 _ _ _ h.x]; rfl, h.s.same (Below.heap_setCell _ ⟨xb, 1, none⟩ _ B (Ne.symm h2)), h.g.setCell ⟨xb, 1, none⟩ _ h3⟩
theorem Pst.set2 {w W : World} {B : Nat} {sl : Value} {n rb xb : Nat} {c i : Int} {t : ByteArray} (h : Pst w W B sl n rb xb c i t) (y : ByteArray) (h1 : rb ≠ xb) (h2 : xb ≠ B) (h3 : w.heap.size ≤ xb) : Pst w (W.setCell ⟨xb, 2, none⟩ (.string y)) B sl n rb xb c i y :=
  ⟨(Below.heap_setCell _ ⟨xb, 2, none⟩ _ rb h1).trans h.r, by rw [heap_setCell_same _ _ 2 _ _ _ h.x]; rfl, h.s.same (Below.heap_setCell _ ⟨xb, 2, none⟩ _ B (Ne.symm h2)), h.g.setCell ⟨xb, 2, none⟩ _ h3⟩
set_option maxHeartbeats 4000000 in
theorem src_some (w : World) (B : Nat) (sl : Value) (n : Nat) (hn : n ≤ maxLen) (hS : Src w B sl n) (hD : Dat w B sl n) :
    Calls Tryd.prog 71 #[.pointer (some ⟨B, 0, none⟩)] w fun e w' => ∃ p : Op.Pk, e = .returned (.agg #[.int .i64 p.code, .int .i64 p.id, .string p.data]) ∧ p.data.size ≤ 251 ∧ Src w' B sl n ∧ Nigh B w w' := by
  obtain ⟨ui, hi1, hi2, hi3, hi4⟩ := u8info
  have hBw := hS.lt
  have HD := hide hD
  have DB : Hid (∀ W, Nigh B w W → Dat W B sl n) := hide fun W h => (unhide HD).below (h.below (by omega))
  have hn0 : Nigh B w (w.alloc (.cells #[.int .i64 0, .int .i64 0, .string ⟨#[]⟩] 58)) := (Nigh.refl _ _).alloc _
  have hS0 : Src (w.alloc (.cells #[.int .i64 0, .int .i64 0, .string ⟨#[]⟩] 58)) B sl n := hS.same (Below.heap_alloc _ _ _ hBw)
  have hr0 := heap_alloc_new w (.cells #[.int .i64 0, .int .i64 0, .string ⟨#[]⟩] 58)
  have H0 := hide (And.intro hr0 (And.intro hS0 hn0))
  have hBne : w.heap.size ≠ B := by omega
  clear hS hD hn0 hS0 hr0
  go_enter Tryd.func71, Tryd.ntmps71
  go_wp2_with fail
  refine (src_n _ B sl n 12 (by decide) hn (unhide H0).2.1 (unhide DB _ (unhide H0).2.2)).mono ?_
  rintro e w1 ⟨r1, rfl, hr1, hS1, ht1⟩
  have H1 := hide (And.intro ((ht1.block w.heap.size hBne).trans (unhide H0).1) (And.intro hS1 ((unhide H0).2.2.trans (Nigh.of_touch ht1))))
  clear hS1 ht1 H0
  go_wp2_with fail
  refine (src_n _ B sl n 5 (by decide) hn (unhide H1).2.1 (unhide DB _ (unhide H1).2.2)).mono ?_
  rintro e w2 ⟨r2, rfl, hr2, hS2, ht2⟩
  have H2 := hide (And.intro ((ht2.block w.heap.size hBne).trans (unhide H1).1) (And.intro hS2 ((unhide H1).2.2.trans (Nigh.of_touch ht2))))
  clear hS2 ht2 H1
  go_wp2_with fail
  refine (src_n _ B sl n 9 (by decide) hn (unhide H2).2.1 (unhide DB _ (unhide H2).2.2)).mono ?_
  rintro e w3 ⟨r3, rfl, hr3, hS3, ht3⟩
  have H3 := hide (And.intro ((ht3.block w.heap.size hBne).trans (unhide H2).1) (And.intro hS3 ((unhide H2).2.2.trans (Nigh.of_touch ht3))))
  clear hS3 ht3 H2
  have hr3' : r3 < 100 := by omega
  have hr1' : r1 < 12 := by omega
  go_wp2_with fail
  refine (src_bytes_n _ B sl n r3 (by omega) hn (unhide H3).2.1 (unhide DB _ (unhide H3).2.2)).mono ?_
  rintro e w4 ⟨xs, rfl, hxl, hS4, hn4⟩
  have hlt3 : w.heap.size < w3.heap.size := (Array.getElem?_eq_some_iff.1 (unhide H3).1).1
  have H4 := hide (And.intro ((hn4.block w.heap.size hlt3 hBne).trans (unhide H3).1) (And.intro hS4 ((unhide H3).2.2.trans hn4)))
  have hts : (strOfNums xs).size ≤ 251 := by rw [strOfNums_size]; omega
  generalize strOfNums xs = t at *
  have hlt4 : w.heap.size < w4.heap.size := Nat.lt_of_lt_of_le hlt3 hn4.size
  have hB4 := hS4.lt
  have HT := hide hts
  clear hS4 hn4 H3 hxl hr3 hr2 hr1 hts
  have FIN : Hid (∀ (W : World) (c i : Int) (t : ByteArray), Pst w W B sl n w.heap.size w4.heap.size c i t → Src (((W.setCell ⟨w.heap.size, 0, none⟩ (.int .i64 c)).setCell ⟨w.heap.size, 1, none⟩ (.int .i64 i)).setCell ⟨w.heap.size, 2, none⟩ (.string t)) B sl n ∧ Nigh B w (((W.setCell ⟨w.heap.size, 0, none⟩ (.int .i64 c)).setCell ⟨w.heap.size, 1, none⟩ (.int .i64 i)).setCell ⟨w.heap.size, 2, none⟩ (.string t)) ∧ (loadVar 58 ⟨w.heap.size, 0, none⟩).run Tryd.prog (((W.setCell ⟨w.heap.size, 0, none⟩ (.int .i64 c)).setCell ⟨w.heap.size, 1, none⟩ (.int .i64 i)).setCell ⟨w.heap.size, 2, none⟩ (.string t)) = .ok (.agg #[.int .i64 c, .int .i64 i, .string t]) (((W.setCell ⟨w.heap.size, 0, none⟩ (.int .i64 c)).setCell ⟨w.heap.size, 1, none⟩ (.int .i64 i)).setCell ⟨w.heap.size, 2, none⟩ (.string t))) := by
    refine hide fun W c i t h => ⟨h.s.same ?_, ((h.g.setCell _ _ (Nat.le_refl _)).setCell _ _ (Nat.le_refl _)).setCell _ _ (Nat.le_refl _), ?_⟩
    · rw [Below.heap_setCell _ ⟨w.heap.size, 2, none⟩ _ B (Ne.symm hBne), Below.heap_setCell _ ⟨w.heap.size, 1, none⟩ _ B (Ne.symm hBne), Below.heap_setCell _ ⟨w.heap.size, 0, none⟩ _ B (Ne.symm hBne)]
    · exact loadP (heap_setCell_same _ _ 2 _ _ _ (heap_setCell_same _ _ 1 _ _ _ (heap_setCell_same _ _ 0 _ _ _ h.r)))
  have hX4 : Pst w (w4.alloc (.cells #[.int .i64 (1 + (r1 : Int)), .int .i64 r2, .string t] 58)) B sl n w.heap.size w4.heap.size (1 + (r1 : Int)) r2 t := ⟨(Below.heap_alloc _ _ _ hlt4).trans (unhide H4).1, heap_alloc_new w4 _, (unhide H4).2.1.same (Below.heap_alloc _ _ _ hB4), (unhide H4).2.2.alloc _⟩
  have HX4 := hide hX4
  clear hX4 H4
  go_wp2_with fail
  refine (src_one _ B sl n 15 (by decide) hn (unhide HX4).s (unhide DB _ (unhide HX4).g)).mono ?_
  rintro e w5 ⟨b5, rfl, hS5, ht5⟩
  have hX := (unhide HX4).step (Nigh.of_touch ht5) hS5 (by omega) (by omega)
  clear hS5 ht5 HX4
  cases b5
  · obtain ⟨x0, x1, x2, _, _, _⟩ := row3d hX.x
    obtain ⟨y0, y1, y2, f0, f1, f2⟩ := row3d hX.r
    have HF := hide (unhide FIN _ _ _ _ hX)
    have hts := unhide HT
    clear FIN hX
    go_wp2
    refine bodyPost_ret (v := .agg #[.int .i64 _, .int .i64 _, .string _]) (by simp [results, Tryd.results71, asAddr, (unhide HF).2.2]; first | exact ⟨rfl, rfl⟩ | exact ⟨rfl, rfl, rfl⟩ | rfl) rfl ⟨⟨_, _, _⟩, rfl, hts, (unhide HF).1, (unhide HF).2.1⟩
  · have HX := hide hX
    clear hX
    go_wp2_with fail
    refine (src_n _ B sl n 3 (by decide) hn (unhide HX).s (unhide DB _ (unhide HX).g)).mono ?_
    rintro e w6 ⟨q, rfl, hq, hS6, ht6⟩
    have HX6 := hide ((unhide HX).step (Nigh.of_touch ht6) hS6 (by omega) (by omega))
    have hB6 := hS6.lt
    clear hS6 ht6 HX hq
    by_cases q0 : q = 0
    · subst q0
      go_wp2_with fail
      have hsq : Src (w6.alloc (.cells #[.int .i64 (-1), .int .i64 255, .int .i64 256] 2)) B sl n := (unhide HX6).s.same (Below.heap_alloc _ _ _ hB6)
      have hnq : Nigh B w (w6.alloc (.cells #[.int .i64 (-1), .int .i64 255, .int .i64 256] 2)) := (unhide HX6).g.alloc _
      refine (src_n _ B sl n 3 (by decide) hn hsq (unhide DB _ hnq)).mono ?_
      rintro e w7 ⟨r7, rfl, hr7, hS7, ht7⟩
      have hr7' : r7 < 3 := by omega
      obtain ⟨y, hy, _, _⟩ := lit_cell ((ht7.block w6.heap.size (by omega)).trans (heap_alloc_new w6 _)) (by decide) r7 (by simpa using hr7')
      have hX7 := ((unhide HX6).step ((Nigh.refl _ _).alloc _) hsq (by omega) (by omega)).step (Nigh.of_touch ht7) hS7 (by omega) (by omega)
      obtain ⟨x0, x1, x2, f0, f1, f2⟩ := row3d hX7.x
      have HX8 := hide (hX7.set0 y (by omega) (by omega) (by omega))
      clear hX7 hsq hnq hr7 hS7 ht7 HX6
      go_upto_region 9 with fail
      refine gen_world (fun q => Pst w q B sl n w.heap.size w4.heap.size _ _ t) (unhide HX8) ?_
      clear x0 x1 x2 f0 f1 f2 HX8
      rintro q2 hX
      obtain ⟨x0, x1, x2, _, _, _⟩ := row3d hX.x
      obtain ⟨y0, y1, y2, f0, f1, f2⟩ := row3d hX.r
      have HF := hide (unhide FIN _ _ _ _ hX)
      have hts := unhide HT
      clear FIN hX
      go_wp2
      refine bodyPost_ret (v := .agg #[.int .i64 _, .int .i64 _, .string _]) (by simp [results, Tryd.results71, asAddr, (unhide HF).2.2]; first | exact ⟨rfl, rfl⟩ | exact ⟨rfl, rfl, rfl⟩ | rfl) rfl ⟨⟨_, _, _⟩, rfl, hts, (unhide HF).1, (unhide HF).2.1⟩
    · have e0 : ((q : Int) == 0) = false := beq_eq_false_iff_ne.2 (by omega)
      by_cases q1 : q = 1
      · subst q1
        go_wp2_with fail
        have hsq : Src (w6.alloc (.cells #[.int .i64 (-1), .int .i64 255, .int .i64 256] 2)) B sl n := (unhide HX6).s.same (Below.heap_alloc _ _ _ hB6)
        have hnq : Nigh B w (w6.alloc (.cells #[.int .i64 (-1), .int .i64 255, .int .i64 256] 2)) := (unhide HX6).g.alloc _
        refine (src_n _ B sl n 3 (by decide) hn hsq (unhide DB _ hnq)).mono ?_
        rintro e w7 ⟨r7, rfl, hr7, hS7, ht7⟩
        have hr7' : r7 < 3 := by omega
        obtain ⟨y, hy, _, _⟩ := lit_cell ((ht7.block w6.heap.size (by omega)).trans (heap_alloc_new w6 _)) (by decide) r7 (by simpa using hr7')
        have hX7 := ((unhide HX6).step ((Nigh.refl _ _).alloc _) hsq (by omega) (by omega)).step (Nigh.of_touch ht7) hS7 (by omega) (by omega)
        obtain ⟨x0, x1, x2, f0, f1, f2⟩ := row3d hX7.x
        have HX8 := hide (hX7.set1 y (by omega) (by omega) (by omega))
        clear hX7 hsq hnq hr7 hS7 ht7 HX6
        go_upto_region 9 with fail
        refine gen_world (fun q => Pst w q B sl n w.heap.size w4.heap.size _ _ t) (unhide HX8) ?_
        clear x0 x1 x2 f0 f1 f2 HX8
        rintro q2 hX
        obtain ⟨x0, x1, x2, _, _, _⟩ := row3d hX.x
        obtain ⟨y0, y1, y2, f0, f1, f2⟩ := row3d hX.r
        have HF := hide (unhide FIN _ _ _ _ hX)
        have hts := unhide HT
        clear FIN hX
        go_wp2
        refine bodyPost_ret (v := .agg #[.int .i64 _, .int .i64 _, .string _]) (by simp [results, Tryd.results71, asAddr, (unhide HF).2.2]; first | exact ⟨rfl, rfl⟩ | exact ⟨rfl, rfl, rfl⟩ | rfl) rfl ⟨⟨_, _, _⟩, rfl, hts, (unhide HF).1, (unhide HF).2.1⟩
      · have e1 : ((q : Int) == 1) = false := beq_eq_false_iff_ne.2 (by omega)
        go_wp2_with fail
        refine (src_n _ B sl n 3 (by decide) hn (unhide HX6).s (unhide DB _ (unhide HX6).g)).mono ?_
        rintro e w7 ⟨r7, rfl, hr7, hS7, ht7⟩
        have hr7' : r7 < 3 := by omega
        have HX7 := hide ((unhide HX6).step (Nigh.of_touch ht7) hS7 (by omega) (by omega))
        have hB7 := hS7.lt
        clear hr7 hS7 ht7 HX6 HT
        go_upto_region 9 with (first
          | (at_make; refine wpList_make_full w7 rfl _ _ 22 rfl w7.heap.size 5 ui (.int .u8 0) 1 Tryd.underlying22 hi1 hi2 hi3 .i64 .i64 _ _ (249 + r7) rfl rfl (by go_num) (by go_num) (by rw [hi4]; omega) (by unfold maxLen; omega) (Nat.le_refl _) ?_; rintro w8 ho8 hg8; rw [made_zeroL] at ho8; have hcv := conv_own ho8; have hb8 : Below w7.heap.size w7 w8 := (Below.refl _ _).grown hg8 (Nat.le_refl _) (fun k hk => by cases hk); have hX8 := (unhide HX7).step (Nigh.of_below hb8) ((unhide HX7).s.same (hb8.block B hB7)) (by omega) (by omega); have HT : Hid ((strOfNums (List.replicate (249 + r7) 0)).size ≤ 251) := hide (by rw [strOfNums_size, List.length_replicate]; omega); obtain ⟨x0, x1, x2, f0, f1, f2⟩ := row3d hX8.x; have HX8 := hide (hX8.set2 (strOfNums (List.replicate (249 + r7) 0)) (by omega) (by omega) (by omega)); clear hX8 ho8 hg8 hb8 HX7))
        refine gen_world (fun q => Pst w q B sl n w.heap.size w4.heap.size _ _ (strOfNums (List.replicate (249 + r7) 0))) (unhide HX8) ?_
        clear x0 x1 x2 f0 f1 f2 HX8 hcv
        generalize strOfNums (List.replicate (249 + r7) 0) = t9 at *
        rintro q2 hX
        obtain ⟨x0, x1, x2, _, _, _⟩ := row3d hX.x
        obtain ⟨y0, y1, y2, f0, f1, f2⟩ := row3d hX.r
        have HF := hide (unhide FIN _ _ _ _ hX)
        have hts := unhide HT
        clear FIN hX
        go_wp2
        refine bodyPost_ret (v := .agg #[.int .i64 _, .int .i64 _, .string _]) (by simp [results, Tryd.results71, asAddr, (unhide HF).2.2]; first | exact ⟨rfl, rfl⟩ | exact ⟨rfl, rfl, rfl⟩ | rfl) rfl ⟨⟨_, _, _⟩, rfl, hts, (unhide HF).1, (unhide HF).2.1⟩
end Go.Proofs.YtgelbobocjgdaaaDoor
