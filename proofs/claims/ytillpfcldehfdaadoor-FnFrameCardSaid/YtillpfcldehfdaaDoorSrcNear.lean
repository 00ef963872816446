/- The drawer's bytes once more, said so that a caller may keep memory above the drawer: of the old blocks the drawer's alone is turned; no condition. -/
import Derived.Test.YtillpfcldehfdaaDoorDrawFr
import Derived.Test.YtillpfcldehfdaaDoorSrcNigh
namespace Go.Proofs.YtillpfcldehfdaaDoor
open Go.RowKit
set_option maxHeartbeats 1000000 in
theorem src_edge_n (w : World) (B : Nat) (sl : Value) (n : Nat) (hn : n ≤ maxLen) (hS : Src w B sl n) (hD : Dat w B sl n) :
    Calls Tryd.prog 79 #[.pointer (some ⟨B, 0, none⟩)] w fun e w' => ∃ x : Int, e = .returned (.int .i64 x) ∧ -9223372036854775808 ≤ x ∧ x ≤ 9223372036854775807 ∧ Src w' B sl n ∧ Nigh B w w' := by
  have hBw := hS.lt
  have HS := hide hS
  have HD := hide hD
  clear hS hD
  go_enter Tryd.func79, Tryd.ntmps79
  go_wp2_with fail
  refine (src_n _ B sl n 14 (by decide) hn ((unhide HS).same (Below.heap_alloc _ _ _ hBw)) ((unhide HD).below ((Below.refl _ _).alloc (by omega) _))).mono ?_
  rintro e w1 ⟨r, rfl, hr, hS1, ht1⟩
  have hr2 : r < 14 := by omega
  obtain ⟨x, hx, hx1, hx2⟩ := lit_cell ((ht1.block w.heap.size (by omega)).trans (heap_alloc_last w _)) (by decide) r (by simpa using hr2)
  have hb2 : Nigh B w w1 := ((Nigh.refl _ _).alloc _).trans (Nigh.of_touch ht1)
  clear ht1 hr
  have HS1 := hide hS1
  clear hS1
  go_wp2
  go_ret
  exact ⟨x, rfl, hx1, hx2, unhide HS1, hb2⟩

set_option maxHeartbeats 1000000 in
theorem src_accm_n (w : World) (B : Nat) (sl : Value) (n : Nat) (hn : n ≤ maxLen) (hS : Src w B sl n) (hD : Dat w B sl n) :
    Calls Tryd.prog 53 #[.pointer (some ⟨B, 0, none⟩)] w fun e w' => ∃ x : Int, e = .returned (.int .i64 x) ∧ -9223372036854775808 ≤ x ∧ x ≤ 9223372036854775807 ∧ Src w' B sl n ∧ Nigh B w w' := by
  have HD := hide hD
  have hB0 := hS.lt
  have c := src_one w B sl n 10 (by decide) hn hS hD
  clear hS hD
  go_enter Tryd.func53, Tryd.ntmps53
  go_wp2_with fail
  refine c.mono ?_
  rintro e w1 ⟨b, rfl, hS1, ht1⟩
  have hn1 : Nigh B w w1 := Nigh.of_touch ht1
  have hb1 : Below B w w1 := ht1.below
  have HS1 := hide hS1
  have hBw1 := hS1.lt
  clear hS1 ht1 c
  cases b
  · go_wp2_with fail
    refine (src_n _ B sl n 4 (by decide) hn ((unhide HS1).same (Below.heap_alloc _ _ _ hBw1)) ((unhide HD).below (hb1.alloc (by omega) _))).mono ?_
    rintro e w3 ⟨r, rfl, hr, hS3, ht3⟩
    have hr2 : r < 4 := by omega
    obtain ⟨y, hy, hy1, hy2⟩ := lit_cell ((ht3.block w1.heap.size (by omega)).trans (heap_alloc_last w1 _)) (by decide) r (by simpa using hr2)
    have hb4 : Nigh B w w3 := (hn1.alloc _).trans (Nigh.of_touch ht3)
    have HS3 := hide hS3
    clear hS3 ht3 hr
    go_wp2
    go_ret
    exact ⟨y, rfl, hy1, hy2, unhide HS3, hb4⟩
  · go_wp2_with fail
    refine (src_edge_n w1 B sl n hn (unhide HS1) ((unhide HD).below hb1)).mono ?_
    rintro e w2 ⟨x, rfl, hx1, hx2, hS2, hb2⟩
    have hBw := hS2.lt
    have HS2 := hide hS2
    clear hS2
    go_wp2_with fail
    have hn3 := hn1.trans hb2
    have hb3 := hn3.below (by omega)
    refine (src_n _ B sl n 4 (by decide) hn ((unhide HS2).same (Below.heap_alloc _ _ _ hBw)) ((unhide HD).below (hb3.alloc (by omega) _))).mono ?_
    rintro e w3 ⟨r, rfl, hr, hS3, ht3⟩
    have hr2 : r < 4 := by omega
    obtain ⟨y, hy, hy1, hy2⟩ := lit_cell ((ht3.block w2.heap.size (by omega)).trans (heap_alloc_last w2 _)) (by
      intro v hv
      simp only [List.mem_cons, List.not_mem_nil, or_false] at hv
      rcases hv with rfl | rfl | rfl | rfl
      all_goals simp [okI64, hx1, hx2]) r (by simpa using hr2)
    have hb4 : Nigh B w w3 := (hn3.alloc _).trans (Nigh.of_touch ht3)
    have HS3 := hide hS3
    clear hS3 ht3 hr
    go_wp2
    go_ret
    exact ⟨y, rfl, hy1, hy2, unhide HS3, hb4⟩
set_option maxHeartbeats 2000000 in
theorem src_odd_n (w : World) (B : Nat) (sl : Value) (n : Nat) (k : Nat) (hk : k < 100000) (hn : n ≤ maxLen) (hS : Src w B sl n) (hD : Dat w B sl n) :
    Calls Tryd.prog 52 #[.pointer (some ⟨B, 0, none⟩), .int .i64 k] w fun e w' => ∃ u : ByteArray, e = .returned (.string u) ∧ u.size = k ∧ Src w' B sl n ∧ Nigh B w w' := by
  have HD := hide hD
  have hB0 := hS.lt
  have c := src_bytes_n w B sl n k hk hn hS hD
  clear hS hD
  go_enter Tryd.func52, Tryd.ntmps52
  go_wp2_with fail
  refine c.mono ?_
  rintro e w1 ⟨xs, rfl, hxl, hS1, hb1⟩
  have hts : (strOfNums xs).size = k := by rw [strOfNums_size]; exact hxl
  generalize strOfNums xs = t at *
  obtain ⟨vb, W2, hcv, hrow, hb2⟩ := rowB_of t w1 (by omega)
  have hBw := hS1.lt
  have hS2 := hS1.same (hb2.block B hBw)
  have hs1 := hb1.size
  have hb12 : Nigh B w W2 := hb1.trans (Nigh.of_below hb2)
  have htl : t.data.toList.length = k := by rw [Array.length_toList]; exact hts
  have hrow2 : RowB W2 w.heap.size vb t.data.toList := hrow.imp id fun ⟨g, cap, cur, fz, e1, e2, e3⟩ => ⟨g, cap, cur, fz, e1, by omega, e3⟩
  obtain ⟨ad, cp, hv⟩ := hrow2.form
  rw [htl] at hv
  have HR := hide hrow2
  have HS2 := hide hS2
  clear hrow hrow2 hS1 hS2 hb1 hb2 c
  subst hv
  go_wp2_with fail
  go_loopw [6] (fun y wr => ∃ (i : Nat) (l : List UInt8), i ≤ k ∧ y = .int .i64 i ∧ l.length = k ∧ RowB wr w.heap.size (.slice ad k cp) l ∧ Src wr B sl n ∧ Nigh B w wr) (fun y _ => k - (intOf y).toNat)
  case atStart => exact ⟨0, t.data.toList, Nat.zero_le _, rfl, htl, unhide HR, unhide HS2, hb12⟩
  case round =>
    obtain ⟨i, l, hi, rfl, hl, hR, hS3, hb3⟩ := hrel
    by_cases hlt : i < k
    · have d1 : (i : Int) < (k : Int) := by omega
      have c := src_one wr B sl n 3 (by decide) hn hS3 ((unhide HD).below (hb3.below (by omega)))
      have HR3 := hide hR
      clear hcv HR HS2 hR hS3
      go_wp2_with fail
      refine c.mono ?_
      rintro e w4 ⟨b, rfl, hS4, ht4⟩
      have hb4 := hb3.trans (Nigh.of_touch ht4)
      have hR4 := (unhide HR3).touch ht4 (by omega)
      have hlt4 := hS4.lt
      have HS4 := hide hS4
      have HR4 := hide hR4
      clear c hS4 hR4 ht4 HR3
      cases b
      · go_wp2_with fail
        go_roundw
        case rel => exact ⟨i + 1, l, by omega, by go_num, hl, unhide HR4, unhide HS4, hb4⟩
        case measure => simp [intOf]; omega
      · go_wp2_with fail
        refine (src_n _ B sl n 9 (by decide) hn ((unhide HS4).same (Below.heap_alloc _ _ _ hlt4)) ((unhide HD).below ((hb4.alloc _).below (by omega)))).mono ?_
        rintro e w5 ⟨r, rfl, hr, hS5, ht5⟩
        have hr2 : r < 9 := by omega
        obtain ⟨c, hc⟩ := lit_u8 ((ht5.block w4.heap.size (by omega)).trans (heap_alloc_last w4 _)) (by decide) r (by simpa using hr2)
        have hb5 : Nigh B w w5 := (hb4.alloc _).trans (Nigh.of_touch ht5)
        have hR5 := ((unhide HR4).old ((Below.refl w4.heap.size w4).alloc (Nat.le_refl _) (.cells #[.int .u8 126, .int .u8 125, .int .u8 93, .int .u8 94, .int .u8 17, .int .u8 19, .int .u8 0, .int .u8 31, .int .u8 32] 5)) (Nat.le_refl _)).touch ht5 (by omega)
        obtain ⟨g, cap, hg⟩ := hR5.some (by omega)
        rw [hl] at hg
        cases hg
        rw [← hl] at hR5
        obtain ⟨hR6, ⟨y, hy⟩, hf, hgB⟩ := hR5.turn i (by omega) c
        rw [hl] at hR6
        have HR6 := hide hR6
        have HS6 := hide (hS5.same (Below.heap_setCell w5 ⟨g, i, none⟩ (.int .u8 c.toNat) B (by show B ≠ g; omega)))
        have HB6 := hide (hb5.setCell ⟨g, i, none⟩ (.int .u8 c.toNat) hgB)
        clear hR5 hR6 hS5 ht5 hr HR4 HS4
        go_wp2_with fail
        go_roundw
        case rel => exact ⟨i + 1, l.set i c, by omega, by go_num, by rw [List.length_set]; exact hl, unhide HR6, unhide HS6, unhide HB6⟩
        case measure => simp [intOf]; omega
    · have d1 : ¬ ((i : Int) < (k : Int)) := by omega
      have hcv2 := hR.conv
      clear hcv
      go_wp2
      go_ret
      exact ⟨txt l, rfl, by rw [txt_size]; exact hl, hS3, hb3⟩
end Go.Proofs.YtillpfcldehfdaaDoor
