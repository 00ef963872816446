/- A sum behind a text, of both widths: the walk of sumBehind, over the contracts of sumTable and of the library's decoder: it answers the sum of the text's bytes; what lay in memory stands; under the library's two tables as they are laid. -/
import Derived.Test.YtillpfcldehfdaaDoorTable
import Derived.Test.YtillpfcldehfdaaDoorModel
import Derived.Test.YtillpfcldehfdaaDoorDec
import Derived.Lib.OthersKept
import Derived.Lib.RuneCountTail
namespace Go.Proofs.YtillpfcldehfdaaDoor
open Go.RowKit

theorem decode (s : ByteArray) (w : World) (hT : Lib.Utf8Tabs 1 2 w) :
    Calls Tryd.prog 77 #[.string s] w fun e w' => e = .returned (.tuple #[.int .i32 (Lib.decodeGo s).1, .int .i64 (Lib.decodeGo s).2]) ∧ Below w.heap.size w w' :=
  Any.utf8_DecodeRuneInString Tryd.laysDec s w hT
theorem width_le (n b0 b1 b2 b3 : Nat) (h : 1 ≤ n) : (Lib.decodeN n b0 b1 b2 b3).2 ≤ n := by
  unfold Lib.decodeN
  repeat' split
  all_goals simp only []
  all_goals omega
/-- Where a character of a text ends. -/
def wid (s : ByteArray) (pos : Nat) : Nat := (Utf8.decode s pos).2
theorem wid_le (s : ByteArray) (pos : Nat) (h : pos < s.size) : pos + wid s pos ≤ s.size := by
  unfold wid
  rw [Lib.decode_at]
  have := width_le (s.size - pos) (s.get! pos).toNat (s.get! (pos + 1)).toNat (s.get! (pos + 2)).toNat (s.get! (pos + 3)).toNat (by omega)
  omega
theorem wid_pos (s : ByteArray) (pos : Nat) : 1 ≤ wid s pos := by
  unfold wid
  rw [Lib.decode_at]
  unfold Lib.decodeN
  repeat' split
  all_goals simp only []
  all_goals omega
theorem tail_wid (s : ByteArray) (pos : Nat) (h : pos < s.size) : (Lib.decodeGo (s.extract pos s.size)).2 = wid s pos := by
  unfold Lib.decodeGo wid
  rw [Lib.tail_decode, if_neg (by rw [Lib.tail_size]; omega), Nat.add_zero]

theorem idx_u16 (n b : Nat) (hb : b < 256) : bits .xor .u8 ((n : Int) % 256) (b : Int) = ((n % 256 ^^^ b : Nat) : Int) ∧ n % 256 ^^^ b < 256 := by
  refine ⟨?_, Nat.xor_lt_two_pow (n := 8) (by omega) hb⟩
  have := u8_xor_nat (n % 256) b (by omega) hb
  rw [← this]
  rfl
theorem next_u16 (r n b : Nat) (hn : n < 65536) (hr : r < 65536) (hb : b < 256) :
    bits .xor .u16 ((n : Int) / 256) ((Fcs.stp r 8 (n % 256 ^^^ b) : Nat) : Int) = ((Fcs.stp r 8 (n ^^^ b) : Nat) : Int) := by
  have hq := stp_lt_u16 r (n % 256 ^^^ b) 8 (by have := (idx_u16 n b hb).2; omega) hr
  rw [← Fcs.table_step r n b hb]
  have := u16_xor_nat (n / 256) (Fcs.stp r 8 (n % 256 ^^^ b)) (by omega) hq
  rw [← this]
  rfl

set_option maxHeartbeats 1000000 in
set_option maxRecDepth 100000 in
theorem behind_u16 (s r : Nat) (t : ByteArray) (w : World) (hs : s < 65536) (hr : r < 65536) (ht : t.size ≤ maxLen)
    (hT : Lib.Utf8Tabs 1 2 w) :
    Calls Tryd.prog 47 #[.int .u16 s, .int .u16 r, .string t] w fun e w' => e = .returned (.int .u16 (Fcs.sumL r s t.data.toList : Nat)) ∧ Below w.heap.size w w' := by
  unfold maxLen at ht
  have hv := (zero_of_info tabInfo_u16).1
  have hi := (zero_of_info tabInfo_u16).2
  have hsz := tabC_size .u16 r 256
  go_enter Tryd.func47, Tryd.ntmps47
  go_wp2_with fail
  refine (table_u16 r _ hr).mono ?_
  rintro e w1 ⟨rfl, hw1⟩
  have hb1 : Below w.heap.size w w1 := by
    rw [hw1]
    exact ((Below.refl _ _).alloc (Nat.le_refl _) _).alloc (by simp) _
  clear hw1
  have hz1 : w.heap.size ≤ w1.heap.size := hb1.size
  go_wp2_with (first
    | (refine wpList_store_row _ rfl 116 _ _ rfl w1.heap.size (Array.replicate 256 (.int .u16 0)) (tabC .u16 r 256) rfl rfl (heap_alloc_last w1 _) (by rw [hsz]; exact hi) (by rw [hsz, Array.size_replicate]) (tabC_one _ _ _) ?_; rw [World.setRow_alloc_new]))
  go_loopw [0] (fun x wr => ∃ pos : Nat, pos ≤ t.size ∧ x = .int .u16 (Fcs.sumL r s (t.data.toList.take pos) : Nat) ∧ wr.heap[w1.heap.size + 1]? = some (.stringIter t pos) ∧ (∀ j, j < 256 → wr.cell? ⟨w1.heap.size, j, none⟩ = some (.int .u16 (Fcs.stp r 8 j : Nat))) ∧ Below w1.heap.size w1 wr) (fun _ wr => t.size - wr.iterPos (w1.heap.size + 1))
  case atStart =>
    refine ⟨0, Nat.zero_le _, rfl, ?_, ?_, ?_⟩
    · have := World.iter_heap (w1.alloc (.cells (tabC .u16 r 256) 116)) t 0
      simpa using this
    · intro j hj
      have h1 := World.cell?_of_block (w := w1.alloc (.cells (tabC .u16 r 256) 116)) (w' := (w1.alloc (.cells (tabC .u16 r 256) 116)).iter t 0) (a := ⟨w1.heap.size, j, none⟩) (by
        simp only [World.iter]
        exact Below.heap_alloc _ _ _ (by simp))
      rw [h1, cell_of_row _ _ j (tabC .u16 r 256) 116 (0, 0) (heap_alloc_last w1 _)]
      exact tabC_at .u16 r j hj
    · exact ((Below.refl _ _).alloc (Nat.le_refl _) _).alloc (by simp) _
  case round =>
    obtain ⟨pos, hpl, rfl, hit, hcl, hbw⟩ := hrel
    have hn : Fcs.sumL r s (t.data.toList.take pos) < 65536 := sumL_lt16 r s _ hs hr
    have hsz1 : w1.heap.size + 1 < wr.heap.size := (Array.getElem?_eq_some_iff.1 hit).1
    have HCL := hide hcl
    clear hcl
    by_cases hp : pos < t.size
    · have hnx : ∀ ty, (Instr.next (.pointer (some ⟨w1.heap.size + 1, 0, none⟩)) true ty).run Tryd.prog wr = _ := fun ty => Lib.run_next_any_at wr (w1.heap.size + 1) t pos ty hit hp
      have hit2 := Lib.iterAt_heap wr (w1.heap.size + 1) t pos (pos + (Utf8.decode t pos).2) hit
      have hbw2 := Lib.below_iterAt hbw (k := w1.heap.size + 1) (by omega) t (pos + (Utf8.decode t pos).2)
      have hsz2 : w1.heap.size + 1 < (wr.iterAt (w1.heap.size + 1) t (pos + (Utf8.decode t pos).2)).heap.size := by rw [Lib.iterAt_size]; omega
      generalize hw2 : wr.iterAt (w1.heap.size + 1) t (pos + (Utf8.decode t pos).2) = w2 at *
      have HW2 := hide hw2
      clear hw2
      have hT2 : Lib.Utf8Tabs 1 2 w2 := Utf8Tabs_below hT (hb1.trans (hbw2.mono hz1))
      have HC2 : Hid (∀ j, j < 256 → w2.cell? ⟨w1.heap.size, j, none⟩ = some (.int .u16 (Fcs.stp r 8 j : Nat))) := by
        refine hide fun j hj => ?_
        rw [← unhide HCL j hj, ← unhide HW2]
        exact World.cell?_of_block (Lib.iterAt_other wr (w1.heap.size + 1) w1.heap.size t _ (by show w1.heap.size ≠ w1.heap.size + 1; omega))
      go_wp2_with fail
      refine (decode (t.extract pos t.size) w2 hT2).mono ?_
      rintro e w3 ⟨rfl, hb3⟩
      rw [tail_wid t pos hp]
      have HC3 : Hid (∀ j, j < 256 → w3.cell? ⟨w1.heap.size, j, none⟩ = some (.int .u16 (Fcs.stp r 8 j : Nat))) := by
        refine hide fun j hj => ?_
        rw [← unhide HC2 j hj]
        exact hb3.cell (p := ⟨w1.heap.size, j, none⟩) (by show w1.heap.size < w2.heap.size; omega)
      have hwl := wid_le t pos hp
      have hwp := wid_pos t pos
      have HD : Hid ((Utf8.decode t pos).2 = wid t pos) := rfl
      generalize wid t pos = wd at *
      go_wp2
      go_loop [0, 11] (fun x i => ∃ k : Nat, pos ≤ k ∧ k ≤ pos + wd ∧ i = .int .i64 k ∧ x = .int .u16 (Fcs.sumL r s (t.data.toList.take k) : Nat)) (fun _ i => pos + wd - (intOf i).toNat)
      case atStart => exact ⟨pos, Nat.le_refl _, by omega, rfl, rfl⟩
      case round =>
        obtain ⟨k, hk1, hk2, rfl, rfl⟩ := hrel
        clear hn
        have hn : Fcs.sumL r s (t.data.toList.take k) < 65536 := sumL_lt16 r s _ hs hr
        by_cases hlt : k < pos + wd
        · have hkt : k < t.size := by omega
          have HS : Hid (Fcs.sumL r s (t.data.toList.take (k + 1)) = Fcs.stp r 8 (Fcs.sumL r s (t.data.toList.take k) ^^^ t[k].toNat)) := by
            refine hide ?_
            rw [take_snoc t k hkt, Fcs.sumL_snoc]
          generalize Fcs.sumL r s (t.data.toList.take k) = n at *
          have hb : t[k].toNat < 256 := t[k].toNat_lt
          have hx8 := idx_u16 n t[k].toNat hb
          have hx := next_u16 r n t[k].toNat hn hr hb
          obtain ⟨hx8, hm⟩ := hx8
          have hc := unhide HC3 _ hm
          rw [← unhide HS] at hx
          generalize n % 256 ^^^ t[k].toNat = m at *
          generalize hq : Fcs.sumL r s (t.data.toList.take (k + 1)) = q at *
          have HQ := hide hq
          clear hq
          go_wp2
          go_round
          case rel => exact ⟨k + 1, by omega, by omega, by go_num, by rw [unhide HQ]⟩
          case measure => simp [intOf]; omega
        · obtain rfl : k = pos + wd := by omega
          go_wp2
          go_roundw
          case rel =>
            refine ⟨pos + wd, hwl, rfl, ?_, unhide HC3, hbw2.trans (hb3.mono (by omega))⟩
            rw [hb3.block _ hsz2, hit2, unhide HD]
          case measure =>
            have e3 : w3.heap[w1.heap.size + 1]? = some (.stringIter t (pos + wd)) := by rw [hb3.block _ hsz2, hit2, unhide HD]
            simp only [World.iterPos, e3, hit]
            omega
    · have hnx : ∀ ty, (Instr.next (.pointer (some ⟨w1.heap.size + 1, 0, none⟩)) true ty).run Tryd.prog wr = _ := fun ty => Lib.run_next_end_at wr (w1.heap.size + 1) t pos ty hit hp
      go_wp2
      go_ret
      exact ⟨ret_int (by rw [List.take_of_length_le (by simp; omega)]), hb1.trans (hbw.mono hz1)⟩
theorem idx_u32 (n b : Nat) (hb : b < 256) : bits .xor .u8 ((n : Int) % 256) (b : Int) = ((n % 256 ^^^ b : Nat) : Int) ∧ n % 256 ^^^ b < 256 := by
  refine ⟨?_, Nat.xor_lt_two_pow (n := 8) (by omega) hb⟩
  have := u8_xor_nat (n % 256) b (by omega) hb
  rw [← this]
  rfl
theorem next_u32 (r n b : Nat) (hn : n < 4294967296) (hr : r < 4294967296) (hb : b < 256) :
    bits .xor .u32 ((n : Int) / 256) ((Fcs.stp r 8 (n % 256 ^^^ b) : Nat) : Int) = ((Fcs.stp r 8 (n ^^^ b) : Nat) : Int) := by
  have hq := stp_lt_u32 r (n % 256 ^^^ b) 8 (by have := (idx_u32 n b hb).2; omega) hr
  rw [← Fcs.table_step r n b hb]
  have := u32_xor_nat (n / 256) (Fcs.stp r 8 (n % 256 ^^^ b)) (by omega) hq
  rw [← this]
  rfl

set_option maxHeartbeats 1000000 in
set_option maxRecDepth 100000 in
theorem behind_u32 (s r : Nat) (t : ByteArray) (w : World) (hs : s < 4294967296) (hr : r < 4294967296) (ht : t.size ≤ maxLen)
    (hT : Lib.Utf8Tabs 1 2 w) :
    Calls Tryd.prog 45 #[.int .u32 s, .int .u32 r, .string t] w fun e w' => e = .returned (.int .u32 (Fcs.sumL r s t.data.toList : Nat)) ∧ Below w.heap.size w w' := by
  unfold maxLen at ht
  have hv := (zero_of_info tabInfo_u32).1
  have hi := (zero_of_info tabInfo_u32).2
  have hsz := tabC_size .u32 r 256
  go_enter Tryd.func45, Tryd.ntmps45
  go_wp2_with fail
  refine (table_u32 r _ hr).mono ?_
  rintro e w1 ⟨rfl, hw1⟩
  have hb1 : Below w.heap.size w w1 := by
    rw [hw1]
    exact ((Below.refl _ _).alloc (Nat.le_refl _) _).alloc (by simp) _
  clear hw1
  have hz1 : w.heap.size ≤ w1.heap.size := hb1.size
  go_wp2_with (first
    | (refine wpList_store_row _ rfl 112 _ _ rfl w1.heap.size (Array.replicate 256 (.int .u32 0)) (tabC .u32 r 256) rfl rfl (heap_alloc_last w1 _) (by rw [hsz]; exact hi) (by rw [hsz, Array.size_replicate]) (tabC_one _ _ _) ?_; rw [World.setRow_alloc_new]))
  go_loopw [0] (fun x wr => ∃ pos : Nat, pos ≤ t.size ∧ x = .int .u32 (Fcs.sumL r s (t.data.toList.take pos) : Nat) ∧ wr.heap[w1.heap.size + 1]? = some (.stringIter t pos) ∧ (∀ j, j < 256 → wr.cell? ⟨w1.heap.size, j, none⟩ = some (.int .u32 (Fcs.stp r 8 j : Nat))) ∧ Below w1.heap.size w1 wr) (fun _ wr => t.size - wr.iterPos (w1.heap.size + 1))
  case atStart =>
    refine ⟨0, Nat.zero_le _, rfl, ?_, ?_, ?_⟩
    · have := World.iter_heap (w1.alloc (.cells (tabC .u32 r 256) 112)) t 0
      simpa using this
    · intro j hj
      have h1 := World.cell?_of_block (w := w1.alloc (.cells (tabC .u32 r 256) 112)) (w' := (w1.alloc (.cells (tabC .u32 r 256) 112)).iter t 0) (a := ⟨w1.heap.size, j, none⟩) (by
        simp only [World.iter]
        exact Below.heap_alloc _ _ _ (by simp))
      rw [h1, cell_of_row _ _ j (tabC .u32 r 256) 112 (0, 0) (heap_alloc_last w1 _)]
      exact tabC_at .u32 r j hj
    · exact ((Below.refl _ _).alloc (Nat.le_refl _) _).alloc (by simp) _
  case round =>
    obtain ⟨pos, hpl, rfl, hit, hcl, hbw⟩ := hrel
    have hn : Fcs.sumL r s (t.data.toList.take pos) < 4294967296 := sumL_lt32 r s _ hs hr
    have hsz1 : w1.heap.size + 1 < wr.heap.size := (Array.getElem?_eq_some_iff.1 hit).1
    have HCL := hide hcl
    clear hcl
    by_cases hp : pos < t.size
    · have hnx : ∀ ty, (Instr.next (.pointer (some ⟨w1.heap.size + 1, 0, none⟩)) true ty).run Tryd.prog wr = _ := fun ty => Lib.run_next_any_at wr (w1.heap.size + 1) t pos ty hit hp
      have hit2 := Lib.iterAt_heap wr (w1.heap.size + 1) t pos (pos + (Utf8.decode t pos).2) hit
      have hbw2 := Lib.below_iterAt hbw (k := w1.heap.size + 1) (by omega) t (pos + (Utf8.decode t pos).2)
      have hsz2 : w1.heap.size + 1 < (wr.iterAt (w1.heap.size + 1) t (pos + (Utf8.decode t pos).2)).heap.size := by rw [Lib.iterAt_size]; omega
      generalize hw2 : wr.iterAt (w1.heap.size + 1) t (pos + (Utf8.decode t pos).2) = w2 at *
      have HW2 := hide hw2
      clear hw2
      have hT2 : Lib.Utf8Tabs 1 2 w2 := Utf8Tabs_below hT (hb1.trans (hbw2.mono hz1))
      have HC2 : Hid (∀ j, j < 256 → w2.cell? ⟨w1.heap.size, j, none⟩ = some (.int .u32 (Fcs.stp r 8 j : Nat))) := by
        refine hide fun j hj => ?_
        rw [← unhide HCL j hj, ← unhide HW2]
        exact World.cell?_of_block (Lib.iterAt_other wr (w1.heap.size + 1) w1.heap.size t _ (by show w1.heap.size ≠ w1.heap.size + 1; omega))
      go_wp2_with fail
      refine (decode (t.extract pos t.size) w2 hT2).mono ?_
      rintro e w3 ⟨rfl, hb3⟩
      rw [tail_wid t pos hp]
      have HC3 : Hid (∀ j, j < 256 → w3.cell? ⟨w1.heap.size, j, none⟩ = some (.int .u32 (Fcs.stp r 8 j : Nat))) := by
        refine hide fun j hj => ?_
        rw [← unhide HC2 j hj]
        exact hb3.cell (p := ⟨w1.heap.size, j, none⟩) (by show w1.heap.size < w2.heap.size; omega)
      have hwl := wid_le t pos hp
      have hwp := wid_pos t pos
      have HD : Hid ((Utf8.decode t pos).2 = wid t pos) := rfl
      generalize wid t pos = wd at *
      go_wp2
      go_loop [0, 11] (fun x i => ∃ k : Nat, pos ≤ k ∧ k ≤ pos + wd ∧ i = .int .i64 k ∧ x = .int .u32 (Fcs.sumL r s (t.data.toList.take k) : Nat)) (fun _ i => pos + wd - (intOf i).toNat)
      case atStart => exact ⟨pos, Nat.le_refl _, by omega, rfl, rfl⟩
      case round =>
        obtain ⟨k, hk1, hk2, rfl, rfl⟩ := hrel
        clear hn
        have hn : Fcs.sumL r s (t.data.toList.take k) < 4294967296 := sumL_lt32 r s _ hs hr
        by_cases hlt : k < pos + wd
        · have hkt : k < t.size := by omega
          have HS : Hid (Fcs.sumL r s (t.data.toList.take (k + 1)) = Fcs.stp r 8 (Fcs.sumL r s (t.data.toList.take k) ^^^ t[k].toNat)) := by
            refine hide ?_
            rw [take_snoc t k hkt, Fcs.sumL_snoc]
          generalize Fcs.sumL r s (t.data.toList.take k) = n at *
          have hb : t[k].toNat < 256 := t[k].toNat_lt
          have hx8 := idx_u32 n t[k].toNat hb
          have hx := next_u32 r n t[k].toNat hn hr hb
          obtain ⟨hx8, hm⟩ := hx8
          have hc := unhide HC3 _ hm
          rw [← unhide HS] at hx
          generalize n % 256 ^^^ t[k].toNat = m at *
          generalize hq : Fcs.sumL r s (t.data.toList.take (k + 1)) = q at *
          have HQ := hide hq
          clear hq
          go_wp2
          go_round
          case rel => exact ⟨k + 1, by omega, by omega, by go_num, by rw [unhide HQ]⟩
          case measure => simp [intOf]; omega
        · obtain rfl : k = pos + wd := by omega
          go_wp2
          go_roundw
          case rel =>
            refine ⟨pos + wd, hwl, rfl, ?_, unhide HC3, hbw2.trans (hb3.mono (by omega))⟩
            rw [hb3.block _ hsz2, hit2, unhide HD]
          case measure =>
            have e3 : w3.heap[w1.heap.size + 1]? = some (.stringIter t (pos + wd)) := by rw [hb3.block _ hsz2, hit2, unhide HD]
            simp only [World.iterPos, e3, hit]
            omega
    · have hnx : ∀ ty, (Instr.next (.pointer (some ⟨w1.heap.size + 1, 0, none⟩)) true ty).run Tryd.prog wr = _ := fun ty => Lib.run_next_end_at wr (w1.heap.size + 1) t pos ty hit hp
      go_wp2
      go_ret
      exact ⟨ret_int (by rw [List.take_of_length_le (by simp; omega)]), hb1.trans (hbw.mono hz1)⟩
end Go.Proofs.YtillpfcldehfdaaDoor
