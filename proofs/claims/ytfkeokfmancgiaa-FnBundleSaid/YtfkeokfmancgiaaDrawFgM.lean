/- The draw of a part; only the drawer and new memory are turned. -/
import Derived.Test.YtfkeokfmancgiaaGE
import Derived.Test.YtfkeokfmancgiaaFgB
import Derived.Deep.DeepCutAuto
namespace Go.Proofs.Ytfkeokfmancgiaa
open Go.RowKit
/-- A frame under way: its place, the answer's place, the drawer. -/
structure Gst (w W : World) (B : Nat) (sl : Value) (n rb xb : Nat) (f : Fg) : Prop where
  r : W.heap[rb]? = some (.cells #[.int .i64 0, .bool false, .bool false, .string ⟨#[]⟩] 33)
  x : W.heap[xb]? = some (.cells #[.int .i64 f.seq, .bool f.beg, .bool f.fin, .string f.text] 33)
  s : Src W B sl n
  g : Nigh B w W
  t : f.text.size ≤ 300
theorem Gst.step {w W W' : World} {B : Nat} {sl : Value} {n rb xb : Nat} {f : Fg} (h : Gst w W B sl n rb xb f) (hn : Nigh B W W') (hs : Src W' B sl n) (h1 : rb ≠ B) (h2 : xb ≠ B) : Gst w W' B sl n rb xb f :=
  ⟨(hn.block rb (Array.getElem?_eq_some_iff.1 h.r).1 h1).trans h.r, (hn.block xb (Array.getElem?_eq_some_iff.1 h.x).1 h2).trans h.x, hs, h.g.trans hn, h.t⟩
theorem Gst.set0 {w W : World} {B : Nat} {sl : Value} {n rb xb : Nat} {f : Fg} (h : Gst w W B sl n rb xb f) (z : Int) (h1 : rb ≠ xb) (h2 : xb ≠ B) (h3 : w.heap.size ≤ xb) : Gst w (W.setCell ⟨xb, 0, none⟩ (.int .i64 z)) B sl n rb xb ⟨z, f.beg, f.fin, f.text⟩ :=
  ⟨(Below.heap_setCell _ ⟨xb, 0, none⟩ _ rb h1).trans h.r, by rw [heap_setCell_same _ _ 0 _ _ _ h.x]; rfl, h.s.same (Below.heap_setCell _ ⟨xb, 0, none⟩ _ B (Ne.symm h2)), h.g.setCell ⟨xb, 0, none⟩ _ h3, h.t⟩
theorem Gst.set3 {w W : World} {B : Nat} {sl : Value} {n rb xb : Nat} {f : Fg} (h : Gst w W B sl n rb xb f) (z : ByteArray) (hz : z.size ≤ 300) (h1 : rb ≠ xb) (h2 : xb ≠ B) (h3 : w.heap.size ≤ xb) : Gst w (W.setCell ⟨xb, 3, none⟩ (.string z)) B sl n rb xb ⟨f.seq, f.beg, f.fin, z⟩ :=
  ⟨(Below.heap_setCell _ ⟨xb, 3, none⟩ _ rb h1).trans h.r, by rw [heap_setCell_same _ _ 3 _ _ _ h.x]; rfl, h.s.same (Below.heap_setCell _ ⟨xb, 3, none⟩ _ B (Ne.symm h2)), h.g.setCell ⟨xb, 3, none⟩ _ h3, hz⟩
theorem made_zeroG (n : Nat) : (madeCells (Value.int .u8 0).cells (n * 1)).toList = (List.replicate n (0 : Int)).map (Value.int .u8) := by
  apply List.ext_getElem
  · simp [madeCells, Value.cells]
  · intro i h1 h2
    simp [madeCells, Value.cells, Nat.mod_one]
theorem infoGf : (Try.prog.info? 33).map (·.size) = some 4 := by kernel_rfl
theorem loadGf {W : World} {E : Nat} {x0 x1 x2 x3 : Value} (h : W.heap[E]? = some (.cells #[x0, x1, x2, x3] 33)) : (loadVar 33 ⟨E, 0, none⟩).run Try.prog W = .ok (.agg #[x0, x1, x2, x3]) W :=
  run_loadVar_row (P := Try.prog) _ _ 33 33 #[x0, x1, x2, x3] (0, 0) _ h Try.underlying33 rfl infoGf
theorem Gst.fin {w W : World} {B : Nat} {sl : Value} {n xb : Nat} {f : Fg} (h : Gst w W B sl n w.heap.size xb f) (_h1 : w.heap.size < xb) (hB : B < w.heap.size) :
    Src ((((W.setCell ⟨w.heap.size, 0, none⟩ (.int .i64 f.seq)).setCell ⟨w.heap.size, 1, none⟩ (.bool f.beg)).setCell ⟨w.heap.size, 2, none⟩ (.bool f.fin)).setCell ⟨w.heap.size, 3, none⟩ (.string f.text)) B sl n ∧
    Nigh B w ((((W.setCell ⟨w.heap.size, 0, none⟩ (.int .i64 f.seq)).setCell ⟨w.heap.size, 1, none⟩ (.bool f.beg)).setCell ⟨w.heap.size, 2, none⟩ (.bool f.fin)).setCell ⟨w.heap.size, 3, none⟩ (.string f.text)) ∧
    (loadVar 33 ⟨w.heap.size, 0, none⟩).run Try.prog ((((W.setCell ⟨w.heap.size, 0, none⟩ (.int .i64 f.seq)).setCell ⟨w.heap.size, 1, none⟩ (.bool f.beg)).setCell ⟨w.heap.size, 2, none⟩ (.bool f.fin)).setCell ⟨w.heap.size, 3, none⟩ (.string f.text)) = .ok (fgV f) ((((W.setCell ⟨w.heap.size, 0, none⟩ (.int .i64 f.seq)).setCell ⟨w.heap.size, 1, none⟩ (.bool f.beg)).setCell ⟨w.heap.size, 2, none⟩ (.bool f.fin)).setCell ⟨w.heap.size, 3, none⟩ (.string f.text)) ∧ f.text.size ≤ 300 := by
  have o : ∀ (V : World) (i : Nat) (x : Value), (V.setCell ⟨w.heap.size, i, none⟩ x).heap[B]? = V.heap[B]? := fun V i x => Below.heap_setCell _ ⟨w.heap.size, i, none⟩ _ B (by show B ≠ w.heap.size; omega)
  exact ⟨h.s.same (by rw [o, o, o, o]), (((h.g.setCell _ _ (Nat.le_refl _)).setCell _ _ (Nat.le_refl _)).setCell _ _ (Nat.le_refl _)).setCell _ _ (Nat.le_refl _), loadGf (heap_setCell_same _ _ 3 _ _ _ (heap_setCell_same _ _ 2 _ _ _ (heap_setCell_same _ _ 1 _ _ _ (heap_setCell_same _ _ 0 _ _ _ h.r)))), h.t⟩
set_option maxHeartbeats 1000000 in
theorem src_edge_g (w : World) (B : Nat) (sl : Value) (n : Nat) (hn : n ≤ maxLen) (hS : Src w B sl n) (hD : Dat w B sl n) :
    Calls Try.prog 31 #[.pointer (some ⟨B, 0, none⟩)] w fun e w' => ∃ x : Int, e = .returned (.int .i64 x) ∧ -9223372036854775808 ≤ x ∧ x ≤ 9223372036854775807 ∧ Src w' B sl n ∧ Nigh B w w' := by
  have hBw := hS.lt
  have HS := hide hS
  have HD := hide hD
  clear hS hD
  go_enter Try.func31, Try.ntmps31
  go_wp2_with fail
  refine (src_n _ B sl n 14 (by decide) hn ((unhide HS).same (Below.heap_alloc _ _ _ hBw)) ((unhide HD).below ((Below.refl _ _).alloc (by omega) _))).mono ?_
  rintro e w1 ⟨r, rfl, hr, hS1, ht1⟩
  have hr2 : r < 14 := by omega
  obtain ⟨x, hx, hx1, hx2⟩ := lit_cell ((ht1.block w.heap.size (by omega)).trans (heap_alloc_last w _)) (by decide) r (by simpa using hr2)
  have hb2 : Nigh B w w1 := ((Nigh.refl _ _).alloc _).trans (Nigh.of_touch ht1)
  clear ht1 hr
  have HS1 := hide hS1
  clear hS1
  go_wp2
  go_ret
  exact ⟨x, rfl, hx1, hx2, unhide HS1, hb2⟩

theorem row4d {w : World} {B : Nat} {x0 x1 x2 x3 : Value} {T : TypeId} (h : w.heap[B]? = some (.cells #[x0, x1, x2, x3] T)) : w.cell? ⟨B, 0, none⟩ = some x0 ∧ w.cell? ⟨B, 1, none⟩ = some x1 ∧ w.cell? ⟨B, 2, none⟩ = some x2 ∧ w.cell? ⟨B, 3, none⟩ = some x3 ∧ w.frozen? ⟨B, 0, none⟩ = false ∧ w.frozen? ⟨B, 1, none⟩ = false ∧ w.frozen? ⟨B, 2, none⟩ = false ∧ w.frozen? ⟨B, 3, none⟩ = false :=
  ⟨(row4g h).1, (row4g h).2.1, (row4g h).2.2.1, (row4g h).2.2.2, frz h 0, frz h 1, frz h 2, frz h 3⟩
set_option maxHeartbeats 8000000 in
theorem src_frag (w : World) (B : Nat) (sl : Value) (n : Nat) (hn : n ≤ maxLen) (hS : Src w B sl n) (hD : Dat w B sl n) :
    Calls Try.prog 48 #[.pointer (some ⟨B, 0, none⟩)] w fun e w' => ∃ f : Fg, e = .returned (fgV f) ∧ f.text.size ≤ 300 ∧ Src w' B sl n ∧ Nigh B w w' := by
  have hBw := hS.lt
  have HS := hide hS
  have HD := hide hD
  clear hS hD
  have DB : Hid (∀ W, Nigh B w W → Dat W B sl n) := hide fun W h => (unhide HD).below (h.below (by omega))
  go_enter Try.func48, Try.ntmps48
  go_wp2_with fail
  have hn0 : Nigh B w (w.alloc (.cells #[.int .i64 0, .bool false, .bool false, .string ⟨#[]⟩] 33)) := (Nigh.refl _ _).alloc _
  have hS0 : Src (w.alloc (.cells #[.int .i64 0, .bool false, .bool false, .string ⟨#[]⟩] 33)) B sl n := (unhide HS).same (Below.heap_alloc _ _ _ hBw)
  refine (src_n _ B sl n 20 (by decide) hn hS0 (unhide DB _ hn0)).mono ?_
  rintro e w1 ⟨r1, rfl, hr1, hS1, ht1⟩
  have H1 := hide (And.intro ((ht1.block w.heap.size (by omega)).trans (heap_alloc_new w _)) (And.intro hS1 (hn0.trans (Nigh.of_touch ht1))))
  clear hn0 hS0 hr1 hS1 ht1 HS
  go_wp2_with fail
  refine (src_one _ B sl n 2 (by decide) hn (unhide H1).2.1 (unhide DB _ (unhide H1).2.2)).mono ?_
  rintro e w2 ⟨b2, rfl, hS2, ht2⟩
  have H2 := hide (And.intro ((ht2.block w.heap.size (by omega)).trans (unhide H1).1) (And.intro hS2 ((unhide H1).2.2.trans (Nigh.of_touch ht2))))
  clear hS2 ht2 H1
  go_wp2_with fail
  refine (src_one _ B sl n 2 (by decide) hn (unhide H2).2.1 (unhide DB _ (unhide H2).2.2)).mono ?_
  rintro e w3 ⟨b3, rfl, hS3, ht3⟩
  have H3 := hide (And.intro ((ht3.block w.heap.size (by omega)).trans (unhide H2).1) (And.intro hS3 ((unhide H2).2.2.trans (Nigh.of_touch ht3))))
  clear hS3 ht3 H2
  go_wp2_with fail
  refine (src_n _ B sl n 4 (by decide) hn (unhide H3).2.1 (unhide DB _ (unhide H3).2.2)).mono ?_
  rintro e w4 ⟨r4, rfl, hr4, hS4, ht4⟩
  have H4 := hide (And.intro ((ht4.block w.heap.size (by omega)).trans (unhide H3).1) (And.intro hS4 ((unhide H3).2.2.trans (Nigh.of_touch ht4))))
  have hr4' : r4 < 100000 := by omega
  have hr4'' : r4 ≤ 300 := by omega
  clear hS4 ht4 H3 hr4
  go_wp2_with fail
  refine (src_bytes_n _ B sl n r4 hr4' hn (unhide H4).2.1 (unhide DB _ (unhide H4).2.2)).mono ?_
  rintro e w5 ⟨xs, rfl, hxs, hS5, hn5⟩
  have hz5 := (hn5.block w.heap.size (Array.getElem?_eq_some_iff.1 (unhide H4).1).1 (by omega)).trans (unhide H4).1
  have hB5 := hS5.lt
  have hl5 := (Array.getElem?_eq_some_iff.1 hz5).1
  have H5 := hide (And.intro hz5 (And.intro hS5 ((unhide H4).2.2.trans hn5)))
  have hts : (strOfNums xs).size ≤ 300 := by rw [strOfNums_size]; omega
  generalize strOfNums xs = t5 at *
  clear hz5 hS5 hn5 hxs H4
  go_upto_region 2 with fail
  refine gen_world (fun q => Gst w q B sl n w.heap.size w5.heap.size ⟨r1, b2, b3, t5⟩) ⟨(Below.heap_alloc _ _ _ hl5).trans (unhide H5).1, heap_alloc_new w5 _, (unhide H5).2.1.same (Below.heap_alloc _ _ _ hB5), (unhide H5).2.2.alloc _, hts⟩ ?_
  intro q hq
  have hr0 : w.heap.size < w5.heap.size := hl5
  have hBx : B < w5.heap.size := hB5
  generalize w5.heap.size = xb at *
  have HQ := hide hq
  clear H5 hq hl5 hB5
  go_wp2_with fail
  refine (src_one _ B sl n 20 (by decide) hn (unhide HQ).s (unhide DB _ (unhide HQ).g)).mono ?_
  rintro e w6 ⟨b6, rfl, hS6, ht6⟩
  have H6 := hide ((unhide HQ).step (Nigh.of_touch ht6) hS6 (by omega) (by omega))
  clear hS6 ht6 HQ
  go_upto_if 16 with fail
  go_cut [] (fun wx => ∃ f : Fg, Gst w wx B sl n w.heap.size xb f)
  case first =>
    cases b6
    · go_wp2_with fail
      go_meet
      exact ⟨_, unhide H6⟩
    · go_wp2_with fail
      refine (src_n _ B sl n 2 (by decide) hn (unhide H6).s (unhide DB _ (unhide H6).g)).mono ?_
      rintro e w7 ⟨k, rfl, hk, hS7, ht7⟩
      have H7 := hide ((unhide H6).step (Nigh.of_touch ht7) hS7 (by omega) (by omega))
      have hk4 : k = 0 ∨ k = 1 := by omega
      have hB7 := hS7.lt
      clear hS7 ht7 H6 hk
      rcases hk4 with rfl | rfl
      · go_wp2_with fail
        refine (src_edge_g _ B sl n hn (unhide H7).s (unhide DB _ (unhide H7).g)).mono ?_
        rintro e w8 ⟨x8, rfl, hx1, hx2, hS8, hn8⟩
        have H8 := hide ((unhide H7).step hn8 hS8 (by omega) (by omega))
        have hB8 := hS8.lt
        clear hS8 hn8 H7
        have hxl : xb < w8.heap.size := (Array.getElem?_eq_some_iff.1 (unhide H8).x).1
        have hne : ¬ (xb = w8.heap.size) := by omega
        have hne2 : ¬ (w8.heap.size = xb) := by omega
        go_wp2_with fail
        have hnq : Nigh B w (w8.alloc (.cells #[.int .i64 (-1), .int .i64 16777215, .int .i64 16777216, .int .i64 x8] 2)) := (unhide H8).g.alloc _
        have hsq : Src (w8.alloc (.cells #[.int .i64 (-1), .int .i64 16777215, .int .i64 16777216, .int .i64 x8] 2)) B sl n := (unhide H8).s.same (Below.heap_alloc _ _ _ hB8)
        refine (src_n _ B sl n 4 (by decide) hn hsq (unhide DB _ hnq)).mono ?_
        rintro e w9 ⟨r9, rfl, hr9, hS9, ht9⟩
        have hr9' : r9 < 4 := by omega
        obtain ⟨v9, hv9, _, _⟩ := lit_cell ((ht9.block w8.heap.size (by omega)).trans (heap_alloc_new w8 _)) (by intro v hv; simp at hv; rcases hv with rfl | rfl | rfl | rfl <;> simp [okI64]; exact ⟨hx1, hx2⟩) r9 (by simpa using hr9')
        have hO9 := ((unhide H8).step ((Nigh.refl _ _).alloc _) hsq (by omega) (by omega)).step (Nigh.of_touch ht9) hS9 (by omega) (by omega)
        obtain ⟨c0, c1, c2, c3, f0, f1, f2, f3⟩ := row4d hO9.x
        have HO := hide (hO9.set0 v9 (by omega) (by omega) (by omega))
        clear hnq hsq hr9 hS9 ht9 hO9
        go_wp2_with fail
        go_meet
        exact ⟨_, unhide HO⟩
      · go_wp2_with fail
        refine (src_n _ B sl n 2 (by decide) hn (unhide H7).s (unhide DB _ (unhide H7).g)).mono ?_
        rintro e w8 ⟨r8, rfl, hr8, hS8, ht8⟩
        have hr8' : r8 < 2 := by omega
        have H8 := hide ((unhide H7).step (Nigh.of_touch ht8) hS8 (by omega) (by omega))
        have hB8 := hS8.lt
        clear hr8 hS8 ht8 H7
        obtain ⟨ui, hi1, hi2, hi3, hi4⟩ := u8info
        go_wp2_with (first
          | (at_make; refine wpList_make_full w8 rfl _ _ 22 rfl w8.heap.size 5 ui (.int .u8 0) 1 Try.underlying22 hi1 hi2 hi3 .i64 .i64 _ _ (200 + r8) rfl rfl (by go_num) (by go_num) (by rw [hi4]; omega) (by unfold maxLen; omega) (Nat.le_refl _) ?_
             rintro w9 ho9 hg9
             rw [made_zeroG] at ho9
             have hcv := conv_own ho9
             have hb9 : Below w8.heap.size w8 w9 := (Below.refl _ _).grown hg9 (Nat.le_refl _) (fun k hk => by cases hk)
             have hX9 := (unhide H8).step (Nigh.of_below hb9) ((unhide H8).s.same (hb9.block B hB8)) (by omega) (by omega)
             have hT : (strOfNums (List.replicate (200 + r8) 0)).size ≤ 300 := by
               rw [strOfNums_size, List.length_replicate]
               omega
             obtain ⟨c0, c1, c2, c3, f0, f1, f2, f3⟩ := row4d hX9.x
             have HO := hide (hX9.set3 (strOfNums (List.replicate (200 + r8) 0)) hT (by omega) (by omega) (by omega))
             clear hX9 ho9 hg9 hb9 hT H8))
        go_meet
        exact ⟨_, unhide HO⟩
  case rest =>
    clear H6 w6
    obtain ⟨f, hf⟩ := hcut
    obtain ⟨c0, c1, c2, c3, f0, f1, f2, f3⟩ := row4d hf.x
    obtain ⟨y0, y1, y2, y3, z0, z1, z2, z3⟩ := row4d hf.r
    have FIN := hide (Gst.fin hf (by omega) hBw)
    clear hf
    go_wp2
    refine bodyPost_ret (v := fgV f) (by simp [results, Try.results48, asAddr, (unhide FIN).2.2.1]) rfl ⟨f, rfl, (unhide FIN).2.2.2, (unhide FIN).1, (unhide FIN).2.1⟩
end Go.Proofs.Ytfkeokfmancgiaa
