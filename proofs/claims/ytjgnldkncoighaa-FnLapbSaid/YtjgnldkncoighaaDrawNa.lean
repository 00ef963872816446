/- A drawn number at some limit; what lay in memory stands. The draw of a numbered frame; only the drawer and new memory are turned. The draws of a numbered frame, and of a text that is read as one; what lay in memory stands. -/
import Derived.Test.YtjgnldkncoighaaSrcNew
import Derived.Test.YtjgnldkncoighaaSrcNigh
import Derived.Test.YtjgnldkncoighaaNbC
import Derived.Deep.DeepCutAuto
import Derived.Test.YtjgnldkncoighaaNbB
namespace Go.Proofs.Ytjgnldkncoighaa
open Go.RowKit
/-- A cell that holds a number of 64 bits. -/
def okI64 : Value → Bool
  | .int .i64 n => decide (-9223372036854775808 ≤ n ∧ n ≤ 9223372036854775807)
  | _ => false
theorem okI64_get {v : Value} (h : okI64 v = true) : ∃ x : Int, v = .int .i64 x ∧ -9223372036854775808 ≤ x ∧ x ≤ 9223372036854775807 := by
  unfold okI64 at h
  split at h
  · exact ⟨_, rfl, by simpa using h⟩
  · cases h
theorem lit_cell {w : World} {g : Nat} {cs : Array Value} {T : TypeId} (h : w.heap[g]? = some (.cells cs T)) (ha : ∀ v ∈ cs.toList, okI64 v = true) (r : Nat) (hr : r < cs.size) :
    ∃ x : Int, w.cell? ⟨g, r, none⟩ = some (.int .i64 x) ∧ -9223372036854775808 ≤ x ∧ x ≤ 9223372036854775807 := by
  obtain ⟨x, hx, h1, h2⟩ := okI64_get (ha cs[r] (by simp))
  exact ⟨x, by rw [cell_of_row w g r cs T (0, 0) h, Array.getElem?_eq_getElem hr, hx], h1, h2⟩

end Go.Proofs.Ytjgnldkncoighaa
namespace Go.Proofs.Ytjgnldkncoighaa
open Go.RowKit
/-- A frame under way: its place, the answer's place, the drawer. -/
structure Fst (w W : World) (B : Nat) (sl : Value) (n rb xb : Nat) (f : Nb) : Prop where
  r : W.heap[rb]? = some (.cells #[.int .i64 0, .int .i64 0, .int .i64 0, .string ⟨#[]⟩] 30)
  x : W.heap[xb]? = some (.cells #[.int .i64 f.kind, .int .i64 f.ns, .int .i64 f.nr, .string f.text] 30)
  s : Src W B sl n
  g : Nigh B w W
  t : f.text.size ≤ 300
theorem Fst.step {w W W' : World} {B : Nat} {sl : Value} {n rb xb : Nat} {f : Nb} (h : Fst w W B sl n rb xb f) (hn : Nigh B W W') (hs : Src W' B sl n) (h1 : rb ≠ B) (h2 : xb ≠ B) : Fst w W' B sl n rb xb f :=
  ⟨(hn.block rb (Array.getElem?_eq_some_iff.1 h.r).1 h1).trans h.r, (hn.block xb (Array.getElem?_eq_some_iff.1 h.x).1 h2).trans h.x, hs, h.g.trans hn, h.t⟩
theorem Fst.set0 {w W : World} {B : Nat} {sl : Value} {n rb xb : Nat} {f : Nb} (h : Fst w W B sl n rb xb f) (z : Int) (h1 : rb ≠ xb) (h2 : xb ≠ B) (h3 : w.heap.size ≤ xb) : Fst w (W.setCell ⟨xb, 0, none⟩ (.int .i64 z)) B sl n rb xb ⟨z, f.ns, f.nr, f.text⟩ :=
  ⟨(Below.heap_setCell _ ⟨xb, 0, none⟩ _ rb h1).trans h.r, by rw [heap_setCell_same _ _ 0 _ _ _ h.x]; rfl, h.s.same (Below.heap_setCell _ ⟨xb, 0, none⟩ _ B (Ne.symm h2)), h.g.setCell ⟨xb, 0, none⟩ _ h3, h.t⟩
theorem Fst.set1 {w W : World} {B : Nat} {sl : Value} {n rb xb : Nat} {f : Nb} (h : Fst w W B sl n rb xb f) (z : Int) (h1 : rb ≠ xb) (h2 : xb ≠ B) (h3 : w.heap.size ≤ xb) : Fst w (W.setCell ⟨xb, 1, none⟩ (.int .i64 z)) B sl n rb xb ⟨f.kind, z, f.nr, f.text⟩ :=
  ⟨(Below.heap_setCell _ ⟨xb, 1, none⟩ _ rb h1).trans h.r, by rw [heap_setCell_same _ _ 1 _ _ _ h.x]; rfl, h.s.same (Below.heap_setCell _ ⟨xb, 1, none⟩ _ B (Ne.symm h2)), h.g.setCell ⟨xb, 1, none⟩ _ h3, h.t⟩
theorem Fst.set2 {w W : World} {B : Nat} {sl : Value} {n rb xb : Nat} {f : Nb} (h : Fst w W B sl n rb xb f) (z : Int) (h1 : rb ≠ xb) (h2 : xb ≠ B) (h3 : w.heap.size ≤ xb) : Fst w (W.setCell ⟨xb, 2, none⟩ (.int .i64 z)) B sl n rb xb ⟨f.kind, f.ns, z, f.text⟩ :=
  ⟨(Below.heap_setCell _ ⟨xb, 2, none⟩ _ rb h1).trans h.r, by rw [heap_setCell_same _ _ 2 _ _ _ h.x]; rfl, h.s.same (Below.heap_setCell _ ⟨xb, 2, none⟩ _ B (Ne.symm h2)), h.g.setCell ⟨xb, 2, none⟩ _ h3, h.t⟩
theorem Fst.set3 {w W : World} {B : Nat} {sl : Value} {n rb xb : Nat} {f : Nb} (h : Fst w W B sl n rb xb f) (z : ByteArray) (hz : z.size ≤ 300) (h1 : rb ≠ xb) (h2 : xb ≠ B) (h3 : w.heap.size ≤ xb) : Fst w (W.setCell ⟨xb, 3, none⟩ (.string z)) B sl n rb xb ⟨f.kind, f.ns, f.nr, z⟩ :=
  ⟨(Below.heap_setCell _ ⟨xb, 3, none⟩ _ rb h1).trans h.r, by rw [heap_setCell_same _ _ 3 _ _ _ h.x]; rfl, h.s.same (Below.heap_setCell _ ⟨xb, 3, none⟩ _ B (Ne.symm h2)), h.g.setCell ⟨xb, 3, none⟩ _ h3, hz⟩
theorem made_zeroN (n : Nat) : (madeCells (Value.int .u8 0).cells (n * 1)).toList = (List.replicate n (0 : Int)).map (Value.int .u8) := by
  apply List.ext_getElem
  · simp [madeCells, Value.cells]
  · intro i h1 h2
    simp [madeCells, Value.cells, Nat.mod_one]
theorem infoNf : (Try.prog.info? 30).map (·.size) = some 4 := by kernel_rfl
theorem loadNf {W : World} {E : Nat} {x0 x1 x2 x3 : Value} (h : W.heap[E]? = some (.cells #[x0, x1, x2, x3] 30)) : (loadVar 30 ⟨E, 0, none⟩).run Try.prog W = .ok (.agg #[x0, x1, x2, x3]) W :=
  run_loadVar_row (P := Try.prog) _ _ 30 30 #[x0, x1, x2, x3] (0, 0) _ h Try.underlying30 rfl infoNf
theorem Fst.fin {w W : World} {B : Nat} {sl : Value} {n xb : Nat} {f : Nb} (h : Fst w W B sl n w.heap.size xb f) (_h1 : w.heap.size < xb) (hB : B < w.heap.size) :
    Src ((((W.setCell ⟨w.heap.size, 0, none⟩ (.int .i64 f.kind)).setCell ⟨w.heap.size, 1, none⟩ (.int .i64 f.ns)).setCell ⟨w.heap.size, 2, none⟩ (.int .i64 f.nr)).setCell ⟨w.heap.size, 3, none⟩ (.string f.text)) B sl n ∧
    Nigh B w ((((W.setCell ⟨w.heap.size, 0, none⟩ (.int .i64 f.kind)).setCell ⟨w.heap.size, 1, none⟩ (.int .i64 f.ns)).setCell ⟨w.heap.size, 2, none⟩ (.int .i64 f.nr)).setCell ⟨w.heap.size, 3, none⟩ (.string f.text)) ∧
    (loadVar 30 ⟨w.heap.size, 0, none⟩).run Try.prog ((((W.setCell ⟨w.heap.size, 0, none⟩ (.int .i64 f.kind)).setCell ⟨w.heap.size, 1, none⟩ (.int .i64 f.ns)).setCell ⟨w.heap.size, 2, none⟩ (.int .i64 f.nr)).setCell ⟨w.heap.size, 3, none⟩ (.string f.text)) = .ok (nbV f) ((((W.setCell ⟨w.heap.size, 0, none⟩ (.int .i64 f.kind)).setCell ⟨w.heap.size, 1, none⟩ (.int .i64 f.ns)).setCell ⟨w.heap.size, 2, none⟩ (.int .i64 f.nr)).setCell ⟨w.heap.size, 3, none⟩ (.string f.text)) ∧ f.text.size ≤ 300 := by
  have o : ∀ (V : World) (i : Nat) (x : Value), (V.setCell ⟨w.heap.size, i, none⟩ x).heap[B]? = V.heap[B]? := fun V i x => Below.heap_setCell _ ⟨w.heap.size, i, none⟩ _ B (by show B ≠ w.heap.size; omega)
  exact ⟨h.s.same (by rw [o, o, o, o]), (((h.g.setCell _ _ (Nat.le_refl _)).setCell _ _ (Nat.le_refl _)).setCell _ _ (Nat.le_refl _)).setCell _ _ (Nat.le_refl _), loadNf (heap_setCell_same _ _ 3 _ _ _ (heap_setCell_same _ _ 2 _ _ _ (heap_setCell_same _ _ 1 _ _ _ (heap_setCell_same _ _ 0 _ _ _ h.r)))), h.t⟩
set_option maxHeartbeats 4000000 in
theorem src_frame (w : World) (B : Nat) (sl : Value) (n : Nat) (hn : n ≤ maxLen) (hS : Src w B sl n) (hD : Dat w B sl n) :
    Calls Try.prog 43 #[.pointer (some ⟨B, 0, none⟩)] w fun e w' => ∃ f : Nb, e = .returned (nbV f) ∧ f.text.size ≤ 300 ∧ Src w' B sl n ∧ Nigh B w w' := by
  have hBw := hS.lt
  have HS := hide hS
  have HD := hide hD
  clear hS hD
  have DB : Hid (∀ W, Nigh B w W → Dat W B sl n) := hide fun W h => (unhide HD).below (h.below (by omega))
  go_enter Try.func43, Try.ntmps43
  go_wp2_with fail
  have hn0 : Nigh B w (w.alloc (.cells #[.int .i64 0, .int .i64 0, .int .i64 0, .string ⟨#[]⟩] 30)) := (Nigh.refl _ _).alloc _
  have hS0 : Src (w.alloc (.cells #[.int .i64 0, .int .i64 0, .int .i64 0, .string ⟨#[]⟩] 30)) B sl n := (unhide HS).same (Below.heap_alloc _ _ _ hBw)
  refine (src_n _ B sl n 3 (by decide) hn hS0 (unhide DB _ hn0)).mono ?_
  rintro e w1 ⟨r1, rfl, hr1, hS1, ht1⟩
  have hn1 : Nigh B w w1 := hn0.trans (Nigh.of_touch ht1)
  have hz1 : w1.heap[w.heap.size]? = _ := (ht1.block w.heap.size (by omega)).trans (heap_alloc_new w _)
  have H1 := hide (And.intro hz1 (And.intro hS1 hn1))
  have hr1' : r1 < 3 := by omega
  clear hn0 hS0 hr1 hS1 ht1 hn1 hz1
  go_wp2_with fail
  refine (src_n _ B sl n 8 (by decide) hn (unhide H1).2.1 (unhide DB _ (unhide H1).2.2)).mono ?_
  rintro e w2 ⟨r2, rfl, hr2, hS2, ht2⟩
  have hn2 : Nigh B w w2 := (unhide H1).2.2.trans (Nigh.of_touch ht2)
  have hz2 : w2.heap[w.heap.size]? = _ := (ht2.block w.heap.size (by omega)).trans (unhide H1).1
  have hB2 := hS2.lt
  have hl2 := (Array.getElem?_eq_some_iff.1 hz2).1
  have H2 := hide (And.intro hz2 (And.intro hS2 hn2))
  have hr2' : r2 < 8 := by omega
  clear hr2 hS2 ht2 hn2 hz2 H1
  go_upto_region 2 with fail
  refine gen_world (fun q => Fst w q B sl n w.heap.size w2.heap.size ⟨1 + r1, 0, r2, ⟨#[]⟩⟩) ⟨(Below.heap_alloc _ _ _ hl2).trans (unhide H2).1, heap_alloc_new w2 _, (unhide H2).2.1.same (Below.heap_alloc _ _ _ hB2), (unhide H2).2.2.alloc _, Nat.zero_le _⟩ ?_
  intro q hq
  have hr0 : w.heap.size < w2.heap.size := hl2
  have hBx : B < w2.heap.size := hB2
  generalize w2.heap.size = xb at *
  generalize hkd : 1 + (r1 : Int) = kd at *
  have HQ := hide hq
  clear H2 hq HS hl2 hB2 hkd hr1'
  obtain ⟨c0, c1, c2, c3, f0, f1, f2, f3⟩ := row4 (unhide HQ).x
  go_upto_if 12 with fail
  go_cut [] (fun wx => ∃ f : Nb, Fst w wx B sl n w.heap.size xb f)
  case first =>
    by_cases k1 : kd = 1
    · subst k1
      go_wp2_with fail
      refine (src_n _ B sl n 8 (by decide) hn (unhide HQ).s (unhide DB _ (unhide HQ).g)).mono ?_
      rintro e w3 ⟨r3, rfl, _, hS3, ht3⟩
      have hO3 := (unhide HQ).step (Nigh.of_touch ht3) hS3 (by omega) (by omega)
      clear c0 c1 c2 c3 f0 f1 f2 f3
      obtain ⟨c0, c1, c2, c3, f0, f1, f2, f3⟩ := row4 hO3.x
      have HO := hide (hO3.set1 r3 (by omega) (by omega) (by omega))
      clear hO3 hS3 ht3 HQ
      go_wp2_with fail
      refine (src_n _ B sl n 4 (by decide) hn (unhide HO).s (unhide DB _ (unhide HO).g)).mono ?_
      rintro e w4 ⟨r4, rfl, hr4, hS4, ht4⟩
      have hO4 := hide ((unhide HO).step (Nigh.of_touch ht4) hS4 (by omega) (by omega))
      have hr4' : r4 < 100000 := by omega
      have hr4'' : r4 ≤ 300 := by omega
      clear hS4 ht4 HO c0 c1 c2 c3 f0 f1 f2 f3 hr4
      go_wp2_with fail
      refine (src_bytes_n _ B sl n r4 hr4' hn (unhide hO4).s (unhide DB _ (unhide hO4).g)).mono ?_
      rintro e w5 ⟨xs, rfl, hxs, hS5, hn5⟩
      have hO5 := (unhide hO4).step hn5 hS5 (by omega) (by omega)
      have hts : (strOfNums xs).size ≤ 300 := by rw [strOfNums_size]; omega
      generalize strOfNums xs = t5 at *
      obtain ⟨c0, c1, c2, c3, f0, f1, f2, f3⟩ := row4 hO5.x
      have HO := hide (hO5.set3 t5 hts (by omega) (by omega) (by omega))
      clear hO4 hS5 hn5 hO5 hxs
      go_wp2_with fail
      go_meet
      exact ⟨_, unhide HO⟩
    · have e1 : (kd == 1) = false := beq_eq_false_iff_ne.2 k1
      go_wp2_with fail
      go_meet
      exact ⟨_, unhide HQ⟩
  case rest =>
    clear HQ c0 c1 c2 c3 f0 f1 f2 f3
    obtain ⟨f, hf⟩ := hcut
    have HF := hide hf
    clear hf
    go_wp2_with fail
    refine (src_one _ B sl n 15 (by decide) hn (unhide HF).s (unhide DB _ (unhide HF).g)).mono ?_
    rintro e w3 ⟨b3, rfl, hS3, ht3⟩
    have H3 := hide ((unhide HF).step (Nigh.of_touch ht3) hS3 (by omega) (by omega))
    clear hS3 ht3 HF
    go_upto_if 22 with fail
    go_cut [] (fun wx => ∃ f : Nb, Fst w wx B sl n w.heap.size xb f)
    case first =>
      cases b3
      · go_wp2_with fail
        go_meet
        exact ⟨_, unhide H3⟩
      · go_wp2_with fail
        refine (src_n _ B sl n 4 (by decide) hn (unhide H3).s (unhide DB _ (unhide H3).g)).mono ?_
        rintro e w4 ⟨k, rfl, hk, hS4, ht4⟩
        have H4 := hide ((unhide H3).step (Nigh.of_touch ht4) hS4 (by omega) (by omega))
        have hk4 : k = 0 ∨ k = 1 ∨ k = 2 ∨ k = 3 := by omega
        have hB4 := hS4.lt
        clear hS4 ht4 H3 hk
        have hxl : xb < w4.heap.size := (Array.getElem?_eq_some_iff.1 (unhide H4).x).1
        have hne : ¬ (xb = w4.heap.size) := by omega
        have hne2 : ¬ (w4.heap.size = xb) := by omega
        rcases hk4 with rfl | rfl | rfl | rfl
        · go_wp2_with fail
          have hnq : Nigh B w (w4.alloc (.cells #[.int .i64 0, .int .i64 4] 2)) := (unhide H4).g.alloc _
          have hsq : Src (w4.alloc (.cells #[.int .i64 0, .int .i64 4] 2)) B sl n := (unhide H4).s.same (Below.heap_alloc _ _ _ hB4)
          refine (src_n _ B sl n 2 (by decide) hn hsq (unhide DB _ hnq)).mono ?_
          rintro e w5 ⟨r5, rfl, hr5, hS5, ht5⟩
          have hr5' : r5 < 2 := by omega
          obtain ⟨v5, hv5, _, _⟩ := lit_cell ((ht5.block w4.heap.size (by omega)).trans (heap_alloc_new w4 _)) (by decide) r5 (by simpa using hr5')
          have hO5 := ((unhide H4).step ((Nigh.refl _ _).alloc _) hsq (by omega) (by omega)).step (Nigh.of_touch ht5) hS5 (by omega) (by omega)
          obtain ⟨c0, c1, c2, c3, f0, f1, f2, f3⟩ := row4 hO5.x
          have HO := hide (hO5.set0 v5 (by omega) (by omega) (by omega))
          clear hnq hsq hr5 hS5 ht5 hO5
          go_wp2_with fail
          go_meet
          exact ⟨_, unhide HO⟩
        · go_wp2_with fail
          have hnq : Nigh B w (w4.alloc (.cells #[.int .i64 (-1), .int .i64 8] 2)) := (unhide H4).g.alloc _
          have hsq : Src (w4.alloc (.cells #[.int .i64 (-1), .int .i64 8] 2)) B sl n := (unhide H4).s.same (Below.heap_alloc _ _ _ hB4)
          refine (src_n _ B sl n 2 (by decide) hn hsq (unhide DB _ hnq)).mono ?_
          rintro e w5 ⟨r5, rfl, hr5, hS5, ht5⟩
          have hr5' : r5 < 2 := by omega
          obtain ⟨v5, hv5, _, _⟩ := lit_cell ((ht5.block w4.heap.size (by omega)).trans (heap_alloc_new w4 _)) (by decide) r5 (by simpa using hr5')
          have hO5 := ((unhide H4).step ((Nigh.refl _ _).alloc _) hsq (by omega) (by omega)).step (Nigh.of_touch ht5) hS5 (by omega) (by omega)
          obtain ⟨c0, c1, c2, c3, f0, f1, f2, f3⟩ := row4 hO5.x
          have HO := hide (hO5.set2 v5 (by omega) (by omega) (by omega))
          clear hnq hsq hr5 hS5 ht5 hO5
          go_wp2_with fail
          go_meet
          exact ⟨_, unhide HO⟩
        · go_wp2_with fail
          have hnq : Nigh B w (w4.alloc (.cells #[.int .i64 (-1), .int .i64 1, .int .i64 8] 2)) := (unhide H4).g.alloc _
          have hsq : Src (w4.alloc (.cells #[.int .i64 (-1), .int .i64 1, .int .i64 8] 2)) B sl n := (unhide H4).s.same (Below.heap_alloc _ _ _ hB4)
          refine (src_n _ B sl n 3 (by decide) hn hsq (unhide DB _ hnq)).mono ?_
          rintro e w5 ⟨r5, rfl, hr5, hS5, ht5⟩
          have hr5' : r5 < 3 := by omega
          obtain ⟨v5, hv5, _, _⟩ := lit_cell ((ht5.block w4.heap.size (by omega)).trans (heap_alloc_new w4 _)) (by decide) r5 (by simpa using hr5')
          have hO5 := ((unhide H4).step ((Nigh.refl _ _).alloc _) hsq (by omega) (by omega)).step (Nigh.of_touch ht5) hS5 (by omega) (by omega)
          obtain ⟨c0, c1, c2, c3, f0, f1, f2, f3⟩ := row4 hO5.x
          have HO := hide (hO5.set1 v5 (by omega) (by omega) (by omega))
          clear hnq hsq hr5 hS5 ht5 hO5
          go_wp2_with fail
          go_meet
          exact ⟨_, unhide HO⟩
        · go_wp2_with fail
          refine (src_n _ B sl n 3 (by decide) hn (unhide H4).s (unhide DB _ (unhide H4).g)).mono ?_
          rintro e w5 ⟨r5, rfl, hr5, hS5, ht5⟩
          have hr5' : r5 < 3 := by omega
          have H5 := hide ((unhide H4).step (Nigh.of_touch ht5) hS5 (by omega) (by omega))
          have hB5 := hS5.lt
          clear hr5 hS5 ht5 H4
          obtain ⟨ui, hi1, hi2, hi3, hi4⟩ := u8info
          go_wp2_with (first
            | (at_make; refine wpList_make_full w5 rfl _ _ 22 rfl w5.heap.size 5 ui (.int .u8 0) 1 Try.underlying22 hi1 hi2 hi3 .i64 .i64 _ _ (199 + r5) rfl rfl (by go_num) (by go_num) (by rw [hi4]; omega) (by unfold maxLen; omega) (Nat.le_refl _) ?_
               rintro w6 ho6 hg6
               rw [made_zeroN] at ho6
               have hcv := conv_own ho6
               have hb6 : Below w5.heap.size w5 w6 := (Below.refl _ _).grown hg6 (Nat.le_refl _) (fun k hk => by cases hk)
               have hX6 := (unhide H5).step (Nigh.of_below hb6) ((unhide H5).s.same (hb6.block B hB5)) (by omega) (by omega)
               have hT : (strOfNums (List.replicate (199 + r5) 0)).size ≤ 300 := by
                 rw [strOfNums_size, List.length_replicate]
                 omega
               obtain ⟨c0, c1, c2, c3, f0, f1, f2, f3⟩ := row4 hX6.x
               have HO := hide (hX6.set3 (strOfNums (List.replicate (199 + r5) 0)) hT (by omega) (by omega) (by omega))
               clear hX6 ho6 hg6 hb6 hT H5))
          go_meet
          exact ⟨_, unhide HO⟩
    case rest =>
      clear H3 f w3
      obtain ⟨f, hf⟩ := hcut
      obtain ⟨c0, c1, c2, c3, f0, f1, f2, f3⟩ := row4 hf.x
      obtain ⟨y0, y1, y2, y3, z0, z1, z2, z3⟩ := row4 hf.r
      have FIN := hide (Fst.fin hf (by omega) hBw)
      clear hf
      go_wp2
      refine bodyPost_ret (v := nbV f) (by simp [results, Try.results43, asAddr, (unhide FIN).2.2.1]) rfl ⟨f, rfl, (unhide FIN).2.2.2, (unhide FIN).1, (unhide FIN).2.1⟩
end Go.Proofs.Ytjgnldkncoighaa
namespace Go.Proofs.Ytjgnldkncoighaa
open Go.RowKit
set_option maxHeartbeats 1000000 in
theorem drawNb (w : World) (sl : Value) (n : Nat) (hn : n ≤ maxLen) (hD : Dat w w.heap.size sl n) :
    Calls Try.prog 16 #[sl] w fun e w' => ∃ f : Nb, e = .returned (nbV f) ∧ f.text.size ≤ 300 ∧ Below w.heap.size w w' := by
  have HA : Hid (Below w.heap.size w (w.alloc (.cells #[.int .i64 0, .int .i64 0, .int .i64 0, .string ⟨#[]⟩] 30))) := hide ((Below.refl _ _).alloc (Nat.le_refl _) _)
  have hs : (w.alloc (.cells #[.int .i64 0, .int .i64 0, .int .i64 0, .string ⟨#[]⟩] 30)).heap.size = w.heap.size + 1 := by simp
  have c := src_new (w.alloc (.cells #[.int .i64 0, .int .i64 0, .int .i64 0, .string ⟨#[]⟩] 30)) sl n hn ((hD.below (unhide HA)).mono (by omega))
  have HD := hide ((hD.below (unhide HA)).mono (show w.heap.size ≤ w.heap.size + 1 by omega))
  have HN := hide (heap_alloc_new w (.cells #[.int .i64 0, .int .i64 0, .int .i64 0, .string ⟨#[]⟩] 30))
  rw [hs] at c
  clear hD
  go_enter Try.func16, Try.ntmps16
  go_wp2_with fail
  refine c.mono ?_
  rintro e w1 ⟨rfl, hS1, hb1⟩
  have HS1 := hide hS1
  have hl1 := hS1.lt
  have HN1 := hide ((hb1.block w.heap.size (by omega)).trans (unhide HN))
  have HB1 := hide ((unhide HA).trans (hb1.mono (by omega)))
  have HD1 := hide ((unhide HD).below hb1)
  clear hS1 c hb1 HN
  go_wp2_with fail
  refine (src_frame w1 (w.heap.size + 1) sl n hn (unhide HS1) (unhide HD1)).mono ?_
  rintro e w2 ⟨f, rfl, ht, _, hn2⟩
  have hN2 := (hn2.block w.heap.size (by omega) (by omega)).trans (unhide HN1)
  have hl2 : w.heap.size + 1 < w2.heap.size := by have := hn2.size; omega
  have HB2 := hide ((unhide HB1).trans ((hn2.below (by omega)).mono (show w.heap.size ≤ w.heap.size + 1 by omega)))
  have HL := hide (loadNf (heap_setCell_same _ _ 3 _ _ (.string f.text) (heap_setCell_same _ _ 2 _ _ (.int .i64 f.nr) (heap_setCell_same _ _ 1 _ _ (.int .i64 f.ns) (heap_setCell_same _ _ 0 _ _ (.int .i64 f.kind) hN2)))))
  have HF : Hid (Below w.heap.size w ((((w2.setCell ⟨w.heap.size, 0, none⟩ (.int .i64 f.kind)).setCell ⟨w.heap.size, 1, none⟩ (.int .i64 f.ns)).setCell ⟨w.heap.size, 2, none⟩ (.int .i64 f.nr)).setCell ⟨w.heap.size, 3, none⟩ (.string f.text))) := hide (((((unhide HB2).setCell (p := ⟨w.heap.size, 0, none⟩) (Nat.le_refl _) _).setCell (p := ⟨w.heap.size, 1, none⟩) (Nat.le_refl _) _).setCell (p := ⟨w.heap.size, 2, none⟩) (Nat.le_refl _) _).setCell (p := ⟨w.heap.size, 3, none⟩) (Nat.le_refl _) _)
  obtain ⟨c0, c1, c2, c3, f0, f1, f2, f3⟩ := row4 hN2
  clear hn2 hN2 HB1 HN1 HB2
  go_wp2
  refine bodyPost_ret (v := nbV f) (by simp [results, Try.results16, asAddr, (unhide HL)]) rfl ⟨f, rfl, ht, unhide HF⟩
set_option maxHeartbeats 1000000 in
theorem drawNr (w : World) (sl : Value) (n : Nat) (hn : n ≤ maxLen) (hD : Dat w w.heap.size sl n) :
    Calls Try.prog 18 #[sl] w fun e w' => ∃ u : ByteArray, e = .returned (.string u) ∧ u.size ≤ 1000 ∧ Below w.heap.size w w' := by
  have c := src_new w sl n hn hD
  have HD := hide hD
  clear hD
  go_enter Try.func18, Try.ntmps18
  go_wp2_with fail
  refine c.mono ?_
  rintro e w1 ⟨rfl, hS1, hb1⟩
  have HS1 := hide hS1
  have hl1 := hS1.lt
  have HB1 := hide hb1
  clear hS1 c hb1
  go_wp2_with fail
  refine (src_frame w1 w.heap.size sl n hn (unhide HS1) ((unhide HD).below (unhide HB1))).mono ?_
  rintro e w2 ⟨f, rfl, ht, hS2, hn2⟩
  have hl2 := hS2.lt
  have HS2 := hide hS2
  have HB2 := hide ((unhide HB1).trans (hn2.below (by omega)))
  clear hS2 hn2 HB1 HS1
  go_wp2_with fail
  refine (sNbBytes f w2).mono ?_
  rintro e w3 ⟨rfl, hb3⟩
  have HS3 := hide ((unhide HS2).same (hb3.block w.heap.size hl2))
  have HB3 := hide ((unhide HB2).trans (hb3.mono (by omega)))
  have hts : (nbTold f).size ≤ 1000 := by
    cases h : nbOk f
    · rw [told_no h]; exact Nat.zero_le _
    · have e : (nbTold f).size = f.text.size + 1 := by
        rw [told_yes h, ByteArray.size_append, txt_size]
        simp
        omega
      omega
  generalize nbTold f = t at *
  clear hb3 HS2 HB2
  go_wp2_with fail
  refine (src_one w3 w.heap.size sl n 3 (by decide) hn (unhide HS3) ((unhide HD).below (unhide HB3))).mono ?_
  rintro e w4 ⟨b, rfl, hS4, ht4⟩
  have HS4 := hide hS4
  have HB4 := hide ((unhide HB3).trans ht4.below)
  clear hS4 ht4 HS3 HB3
  cases b
  · go_wp2
    go_ret
    exact ⟨t, rfl, hts, unhide HB4⟩
  · go_wp2_with fail
    refine (src_n w4 w.heap.size sl n 3 (by decide) hn (unhide HS4) ((unhide HD).below (unhide HB4))).mono ?_
    rintro e w5 ⟨r, rfl, hr, hS5, ht5⟩
    have HS5 := hide hS5
    have HB5 := hide ((unhide HB4).trans ht5.below)
    have hl5 := hS5.lt
    have hr' : r < 100000 := by omega
    have hr2 : r ≤ 1000 := by omega
    clear hS5 ht5 HS4 HB4 hr
    go_wp2_with fail
    refine (src_bytes w5 w.heap.size sl n r hr' hn (unhide HS5) ((unhide HD).below (unhide HB5))).mono ?_
    rintro e w6 ⟨xs, rfl, hxs, _, hb6⟩
    have HB6 := hide ((unhide HB5).trans hb6)
    have hx : (strOfNums xs).size ≤ 1000 := by rw [strOfNums_size]; omega
    generalize strOfNums xs = u at *
    clear hb6 HB5 hxs
    go_wp2
    go_ret
    exact ⟨u, rfl, hx, unhide HB6⟩
end Go.Proofs.Ytjgnldkncoighaa
