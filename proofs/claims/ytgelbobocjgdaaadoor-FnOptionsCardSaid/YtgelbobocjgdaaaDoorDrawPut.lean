/- A number's bytes, the model's (l05Put): a text of new memory, and what lay there stands. -/
import Derived.Test.YtgelbobocjgdaaaDoorTxt
import Derived.Test.YtgelbobocjgdaaaDoorEdge
import Derived.Test.YtgelbobocjgdaaaDoorSrcNigh
namespace Go.Proofs.YtgelbobocjgdaaaDoor
open Go.RowKit
theorem map_set (xs : List Int) (k : Nat) (z : Int) : ((xs.map (Value.int .u8)).toArray.setIfInBounds k (.int .u8 z)) = ((xs.set k z).map (Value.int .u8)).toArray := by
  simp [List.map_set]
theorem u8_low (z : Int) : IntKind.u8.wrap z = z % 256 := by rw [IntKind.wrap_u8]
theorem made_zeroL (n : Nat) : (madeCells (Value.int .u8 0).cells (n * 1)).toList = (List.replicate n (0 : Int)).map (Value.int .u8) := by
  apply List.ext_getElem
  · simp [madeCells, Value.cells]
  · intro i h1 h2
    simp [madeCells, Value.cells, Nat.mod_one]
theorem row_own {w : World} {g n : Nat} {xs : List Int} (h : w.heap[g]? = some (.cells (xs.map (Value.int .u8)).toArray 5)) (hn : xs.length = n) (hm : n ≤ 1000) : w.ownsRow g 5 1 (.slice (some ⟨g, 0, none⟩) n n) n (xs.map (Value.int .u8)) :=
  ⟨by simp [hn], Or.inr ⟨g, n, _, rfl, Nat.le_refl _, h, Nat.le_refl _, by unfold maxLen; omega, by simp [hn], by rw [List.toList_toArray, Nat.mul_one, List.take_of_length_le (by simp [hn])]⟩⟩
set_option maxHeartbeats 2000000 in
theorem put5 (z : Int) (n : Nat) (w : World) (hn : n ≤ 8) (hz : 0 ≤ z) (hz2 : z ≤ 4294967295) :
    Calls Tryd.prog 95 #[.int .i64 z, .int .i64 n] w fun e w' => ∃ t : ByteArray, e = .returned (.string t) ∧ t.size = n ∧ Below w.heap.size w w' := by
  obtain ⟨ui, hi1, hi2, hi3, hi4⟩ := u8info
  go_enter Tryd.func95, Tryd.ntmps95
  go_wp2_with (first
    | (at_make; refine wpList_make_full w rfl _ _ 22 rfl w.heap.size 5 ui (.int .u8 0) 1 Tryd.underlying22 hi1 hi2 hi3 .i64 .i64 _ _ n rfl rfl rfl rfl (by rw [hi4]; omega) (by unfold maxLen; omega) (Nat.le_refl _) ?_; rintro w1 ho1 hg1; rw [made_zeroL] at ho1; have HO1 := hide ho1; have HG1 := hide hg1; clear ho1 hg1))
  have hb1 : Below w.heap.size w w1 := (Below.refl _ _).grown (unhide HG1) (Nat.le_refl _) (fun k hk => by cases hk)
  have hc1 : w1.heap[w.heap.size]? = some (.cells ((List.replicate n (0 : Int)).map (Value.int .u8)).toArray 5) := by
    rcases (unhide HO1).2 with ⟨k, _⟩ | ⟨g', cap, cur, k1, _, k3, _, _, k6, k7⟩
    · cases k
    · simp only [Value.slice.injEq, Option.some.injEq, Addr.mk.injEq, true_and, and_true] at k1
      obtain ⟨rfl, rfl⟩ := k1
      have hcur : cur = ((List.replicate n (0 : Int)).map (Value.int .u8)).toArray := by
        apply Array.ext'
        rw [List.toList_toArray, ← k7, List.take_of_length_le (by rw [Array.length_toList, k6]; omega)]
      rw [k3, hcur]
  have HC := hide (And.intro hc1 hb1)
  clear HO1 HG1 hb1 hc1
  go_loopw [0, 6] (fun x y wr => ∃ (j : Nat) (q : Int) (xs : List Int), j ≤ n ∧ y = .int .i64 ((j : Int) - 1) ∧ x = .int .i64 q ∧ 0 ≤ q ∧ q ≤ 4294967295 ∧ xs.length = n ∧ wr.heap[w.heap.size]? = some (.cells (xs.map (Value.int .u8)).toArray 5) ∧ Below w.heap.size w wr) (fun _ y _ => ((intOf y) + 1).toNat)
  case atStart => exact ⟨n, z, List.replicate n 0, Nat.le_refl _, rfl, rfl, hz, hz2, by simp, (unhide HC).1, (unhide HC).2⟩
  case round =>
    obtain ⟨j, q, xs, hj, rfl, rfl, hq0, hq1, hxs, hc, hb⟩ := hrel
    clear HC
    rcases j with _ | j
    · have hcv := conv_own (row_own hc hxs (by omega))
      have d1 : ¬ ((0 : Int) ≤ ((0 : Nat) : Int) - 1) := by omega
      go_wp2
      go_ret
      exact ⟨_, rfl, by rw [strOfNums_size, hxs], hb⟩
    · rw [show ((j + 1 : Nat) : Int) - 1 = (j : Int) by omega]
      have d1 : (0 : Int) ≤ (j : Int) := by omega
      have d2 : (j : Int) < (n : Int) := by omega
      obtain ⟨y0, hy0⟩ : ∃ y, wr.cell? ⟨w.heap.size, j, none⟩ = some y := ⟨.int .u8 (xs[j]'(by omega)), by rw [cell_of_row _ _ _ _ _ _ hc]; simp⟩
      have f0 : wr.frozen? ⟨w.heap.size, j, none⟩ = false := frz hc _
      have HH := hide hc
      have hbs := hb.size
      clear hc
      go_wp2
      go_roundw
      case rel =>
        refine ⟨j, q / 256, xs.set j (q % 256), by omega, by go_num, rfl, by omega, by omega, by rw [List.length_set]; exact hxs, ?_, hb.setCell (p := ⟨w.heap.size, j, none⟩) (Nat.le_refl _) _⟩
        rw [heap_setCell_same _ _ j _ _ _ (unhide HH), map_set]
      case measure => simp [intOf]
end Go.Proofs.YtgelbobocjgdaaaDoor
