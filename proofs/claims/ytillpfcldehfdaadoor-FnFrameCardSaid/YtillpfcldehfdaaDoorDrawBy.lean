/- The draws of chapter 3, begun: an accm, and bytes of which many are odd ones; what lay in memory stands. -/
import Derived.Test.YtillpfcldehfdaaDoorEdge
import Derived.Test.YtillpfcldehfdaaDoorRowB
namespace Go.Proofs.YtillpfcldehfdaaDoor
open Go.RowKit
set_option maxHeartbeats 1000000 in
theorem src_accm (w : World) (B : Nat) (sl : Value) (n : Nat) (hn : n ≤ maxLen) (hS : Src w B sl n) (hD : Dat w B sl n) :
    Calls Tryd.prog 53 #[.pointer (some ⟨B, 0, none⟩)] w fun e w' => ∃ x : Int, e = .returned (.int .i64 x) ∧ -9223372036854775808 ≤ x ∧ x ≤ 9223372036854775807 ∧ Src w' B sl n ∧ Below B w w' := by
  have HD := hide hD
  have c := src_one w B sl n 10 (by decide) hn hS hD
  clear hS hD
  go_enter Tryd.func53, Tryd.ntmps53
  go_wp2_with fail
  refine c.mono ?_
  rintro e w1 ⟨b, rfl, hS1, ht1⟩
  have hb1 : Below B w w1 := ht1.below
  have HS1 := hide hS1
  have hBw1 := hS1.lt
  clear hS1 ht1 c
  cases b
  · go_wp2_with fail
    refine (src_n _ B sl n 4 (by decide) hn ((unhide HS1).same (Below.heap_alloc _ _ _ hBw1)) ((unhide HD).below (hb1.alloc (by omega) _))).mono ?_
    rintro e w3 ⟨r, rfl, hr, hS3, ht3⟩
    have hr2 : r < 4 := by omega
    obtain ⟨y, hy, hy1, hy2⟩ := lit_cell ((ht3.block w1.heap.size (by omega)).trans (heap_alloc_last w1 _)) (by decide) r (by simpa using hr2)
    have hb4 : Below B w w3 := (hb1.alloc (by omega) _).trans ht3.below
    have HS3 := hide hS3
    clear hS3 ht3 hr
    go_wp2
    go_ret
    exact ⟨y, rfl, hy1, hy2, unhide HS3, hb4⟩
  · go_wp2_with fail
    refine (src_edge w1 B sl n hn (unhide HS1) ((unhide HD).below hb1)).mono ?_
    rintro e w2 ⟨x, rfl, hx1, hx2, hS2, hb2⟩
    have hBw := hS2.lt
    have HS2 := hide hS2
    clear hS2
    go_wp2_with fail
    have hb3 := hb1.trans hb2
    refine (src_n _ B sl n 4 (by decide) hn ((unhide HS2).same (Below.heap_alloc _ _ _ hBw)) ((unhide HD).below (hb3.alloc (by omega) _))).mono ?_
    rintro e w3 ⟨r, rfl, hr, hS3, ht3⟩
    have hr2 : r < 4 := by omega
    obtain ⟨y, hy, hy1, hy2⟩ := lit_cell ((ht3.block w2.heap.size (by omega)).trans (heap_alloc_last w2 _)) (by
      intro v hv
      simp only [List.mem_cons, List.not_mem_nil, or_false] at hv
      rcases hv with rfl | rfl | rfl | rfl
      all_goals simp [okI64, hx1, hx2]) r (by simpa using hr2)
    have hb4 : Below B w w3 := (hb3.alloc (by omega) _).trans ht3.below
    have HS3 := hide hS3
    clear hS3 ht3 hr
    go_wp2
    go_ret
    exact ⟨y, rfl, hy1, hy2, unhide HS3, hb4⟩
/-- A cell that holds a byte. -/
def okU8 : Value → Bool
  | .int .u8 n => decide (0 ≤ n ∧ n < 256)
  | _ => false
theorem lit_u8 {w : World} {g : Nat} {cs : Array Value} {T : TypeId} (h : w.heap[g]? = some (.cells cs T)) (ha : ∀ v ∈ cs.toList, okU8 v = true) (r : Nat) (hr : r < cs.size) : ∃ c : UInt8, w.cell? ⟨g, r, none⟩ = some (.int .u8 c.toNat) := by
  have h1 := ha cs[r] (by simp)
  unfold okU8 at h1
  split at h1
  · rename_i n hn
    have h2 : 0 ≤ n ∧ n < 256 := by simpa using h1
    refine ⟨UInt8.ofNat n.toNat, ?_⟩
    rw [cell_of_row w g r cs T (0, 0) h, Array.getElem?_eq_getElem hr, hn]
    have : (UInt8.ofNat n.toNat).toNat = n.toNat := by simp; omega
    rw [this]
    congr 2
    omega
  · cases h1
/-- A byte of a row turned. -/
theorem RowB.turn {w : World} {base g cap : Nat} {l : List UInt8} (h : RowB w base (.slice (some ⟨g, 0, none⟩) l.length cap) l) (i : Nat) (hi : i < l.length) (c : UInt8) :
    RowB (w.setCell ⟨g, i, none⟩ (.int .u8 c.toNat)) base (.slice (some ⟨g, 0, none⟩) l.length cap) (l.set i c) ∧ (∃ y, w.cell? ⟨g, i, none⟩ = some y) ∧ w.frozen? ⟨g, i, none⟩ = false ∧ base ≤ g := by
  rcases h with ⟨h, _⟩ | ⟨g', cap', cur, fz, e, q2, q3, q4, q5, q6, q7, q8⟩
  · cases h
  · cases e
    refine ⟨Or.inr ⟨g, cap, cur.setIfInBounds i (.int .u8 c.toNat), fz, by rw [List.length_set], q2, ?_, by rw [List.length_set]; exact q4, q5, by simpa using q6, ?_, q8⟩, ⟨cur[i]'(by omega), by rw [cell_of_row _ _ _ _ _ _ q3, Array.getElem?_eq_getElem (by omega)]⟩, ?_, q2⟩
    · rw [setCell_eq_setRow _ g i cur 5 fz _ q3]
      exact setRow_heap _ g cur _ 5 _ q3
    · rw [List.length_set, Array.toList_setIfInBounds, List.take_set, q7]
      simp [vals, nums, List.map_set]
    · unfold World.frozen?
      rw [q3]
      have := q8 i (by omega)
      simp
      omega
theorem RowB.touch {w w' : World} {B base : Nat} {v : Value} {l : List UInt8} (h : RowB w base v l) (ht : Touch B w w') (hB : B < base) : RowB w' base v l :=
  h.keep fun g _ _ hg _ => ht.block g (by omega)
theorem RowB.old {w w' : World} {base N : Nat} {v : Value} {l : List UInt8} (h : RowB w base v l) (hb : Below N w w') (hN : w.heap.size ≤ N) : RowB w' base v l :=
  h.keep fun g _ _ _ hg => hb.block g (Nat.lt_of_lt_of_le (Array.getElem?_eq_some_iff.1 hg).1 hN)
theorem RowB.some {w : World} {base : Nat} {v : Value} {l : List UInt8} (h : RowB w base v l) (hl : 0 < l.length) : ∃ g cap, v = .slice (some ⟨g, 0, none⟩) l.length cap := by
  rcases h with ⟨_, rfl⟩ | ⟨g, cap, _, _, e, _⟩
  · exact absurd hl (by simp)
  · exact ⟨g, cap, e⟩
set_option maxHeartbeats 2000000 in
theorem src_odd (w : World) (B : Nat) (sl : Value) (n : Nat) (k : Nat) (hk : k < 100000) (hn : n ≤ maxLen) (hS : Src w B sl n) (hD : Dat w B sl n) :
    Calls Tryd.prog 52 #[.pointer (some ⟨B, 0, none⟩), .int .i64 k] w fun e w' => ∃ u : ByteArray, e = .returned (.string u) ∧ u.size = k ∧ Src w' B sl n ∧ Below B w w' := by
  have HD := hide hD
  have c := src_bytes w B sl n k hk hn hS hD
  clear hS hD
  go_enter Tryd.func52, Tryd.ntmps52
  go_wp2_with fail
  refine c.mono ?_
  rintro e w1 ⟨xs, rfl, hxl, hS1, hb1⟩
  have hts : (strOfNums xs).size = k := by rw [strOfNums_size]; exact hxl
  generalize strOfNums xs = t at *
  obtain ⟨vb, W2, hcv, hrow, hb2⟩ := rowB_of t w1 (by omega)
  have hBw := hS1.lt
  have hS2 := hS1.same (hb2.block B hBw)
  have hb12 : Below B w W2 := hb1.trans (hb2.mono (by omega))
  have htl : t.data.toList.length = k := by rw [Array.length_toList]; exact hts
  have hrow2 : RowB W2 (B + 1) vb t.data.toList := hrow.imp id fun ⟨g, cap, cur, fz, e1, e2, e3⟩ => ⟨g, cap, cur, fz, e1, by omega, e3⟩
  obtain ⟨ad, cp, hv⟩ := hrow2.form
  rw [htl] at hv
  have HR := hide hrow2
  have HS2 := hide hS2
  clear hrow hrow2 hS1 hS2 hb1 hb2 c
  subst hv
  go_wp2_with fail
  go_loopw [6] (fun y wr => ∃ (i : Nat) (l : List UInt8), i ≤ k ∧ y = .int .i64 i ∧ l.length = k ∧ RowB wr (B + 1) (.slice ad k cp) l ∧ Src wr B sl n ∧ Below B w wr) (fun y _ => k - (intOf y).toNat)
  case atStart => exact ⟨0, t.data.toList, Nat.zero_le _, rfl, htl, unhide HR, unhide HS2, hb12⟩
  case round =>
    obtain ⟨i, l, hi, rfl, hl, hR, hS3, hb3⟩ := hrel
    by_cases hlt : i < k
    · have d1 : (i : Int) < (k : Int) := by omega
      have c := src_one wr B sl n 3 (by decide) hn hS3 ((unhide HD).below hb3)
      have HR3 := hide hR
      clear hcv HR HS2 hR hS3
      go_wp2_with fail
      refine c.mono ?_
      rintro e w4 ⟨b, rfl, hS4, ht4⟩
      have hb4 := hb3.trans ht4.below
      have hR4 := (unhide HR3).touch ht4 (by omega)
      have hlt4 := hS4.lt
      have HS4 := hide hS4
      have HR4 := hide hR4
      clear c hS4 hR4 ht4 HR3
      cases b
      · go_wp2_with fail
        go_roundw
        case rel => exact ⟨i + 1, l, by omega, by go_num, hl, unhide HR4, unhide HS4, hb4⟩
        case measure => simp [intOf]; omega
      · go_wp2_with fail
        refine (src_n _ B sl n 9 (by decide) hn ((unhide HS4).same (Below.heap_alloc _ _ _ hlt4)) ((unhide HD).below (hb4.alloc (by omega) _))).mono ?_
        rintro e w5 ⟨r, rfl, hr, hS5, ht5⟩
        have hr2 : r < 9 := by omega
        obtain ⟨c, hc⟩ := lit_u8 ((ht5.block w4.heap.size (by omega)).trans (heap_alloc_last w4 _)) (by decide) r (by simpa using hr2)
        have hb5 : Below B w w5 := (hb4.alloc (by omega) _).trans ht5.below
        have hR5 := ((unhide HR4).old ((Below.refl w4.heap.size w4).alloc (Nat.le_refl _) (.cells #[.int .u8 126, .int .u8 125, .int .u8 93, .int .u8 94, .int .u8 17, .int .u8 19, .int .u8 0, .int .u8 31, .int .u8 32] 5)) (Nat.le_refl _)).touch ht5 (by omega)
        obtain ⟨g, cap, hg⟩ := hR5.some (by omega)
        rw [hl] at hg
        cases hg
        rw [← hl] at hR5
        obtain ⟨hR6, ⟨y, hy⟩, hf, hgB⟩ := hR5.turn i (by omega) c
        rw [hl] at hR6
        have HR6 := hide hR6
        have HS6 := hide (hS5.same (Below.heap_setCell w5 ⟨g, i, none⟩ (.int .u8 c.toNat) B (by show B ≠ g; omega)))
        have HB6 := hide (hb5.setCell (p := ⟨g, i, none⟩) (by show B ≤ g; omega) (.int .u8 c.toNat))
        clear hR5 hR6 hS5 ht5 hr HR4 HS4
        go_wp2_with fail
        go_roundw
        case rel => exact ⟨i + 1, l.set i c, by omega, by go_num, by rw [List.length_set]; exact hl, unhide HR6, unhide HS6, unhide HB6⟩
        case measure => simp [intOf]; omega
    · have d1 : ¬ ((i : Int) < (k : Int)) := by omega
      have hcv2 := hR.conv
      clear hcv
      go_wp2
      go_ret
      exact ⟨txt l, rfl, by rw [txt_size]; exact hl, hS3, hb3⟩
end Go.Proofs.YtillpfcldehfdaaDoor
