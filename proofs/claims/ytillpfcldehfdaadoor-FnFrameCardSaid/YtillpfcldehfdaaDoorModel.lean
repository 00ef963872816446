/- The model's own sum (l01Sum of the verifier's package spec): it answers the sum of the bytes, where sum and rule are below 2 to the 32; the world stays as it was. -/
import Derived.Test.YtillpfcldehfdaaDoorOwn
import Derived.Test.YtillpfcldehfdaaDoorShift
namespace Go.Proofs.YtillpfcldehfdaaDoor
open Go.RowKit

theorem and1_u64 (n : Nat) (h : n < 4294967296) : bits .and .u64 (n : Int) 1 = ((n % 2 : Nat) : Int) := by
  have := u64_and_nat n 1 (by omega) (by decide)
  rw [nat_mask1] at this
  exact this
theorem xor2_u64 (n r : Nat) (h : n < 4294967296) (hr : r < 4294967296) : bits .xor .u64 ((n : Int) / 2) (r : Int) = ((n / 2 ^^^ r : Nat) : Int) := by
  have := u64_xor_nat (n / 2) r (by omega) (by omega)
  rw [← this]
  rfl
theorem xorb_u64 (n b : Nat) (h : n < 4294967296) (hb : b < 256) : bits .xor .u64 (n : Int) (b : Int) = ((n ^^^ b : Nat) : Int) :=
  u64_xor_nat n b (by omega) (by omega)
theorem xorb_lt (n b : Nat) (h : n < 4294967296) (hb : b < 256) : n ^^^ b < 4294967296 := Nat.xor_lt_two_pow (n := 32) h (by omega)
theorem sumL_lt32 (r s : Nat) (l : List UInt8) (hs : s < 4294967296) (hr : r < 4294967296) : Fcs.sumL r s l < 4294967296 := Fcs.sumL_lt (n := 32) (by decide) hr l s hs
theorem sumL_lt16 (r s : Nat) (l : List UInt8) (hs : s < 65536) (hr : r < 65536) : Fcs.sumL r s l < 65536 := Fcs.sumL_lt (n := 16) (by decide) hr l s hs

set_option maxHeartbeats 1000000 in
theorem modelSum (s r : Nat) (t : ByteArray) (w : World) (hs : s < 4294967296) (hr : r < 4294967296) (ht : t.size ≤ maxLen) :
    Calls Tryd.prog 51 #[.int .u64 s, .string t, .int .u64 r] w fun e w' => e = .returned (.int .u64 (Fcs.sumL r s t.data.toList : Nat)) ∧ w' = w := by
  unfold maxLen at ht
  go_enter Tryd.func51, Tryd.ntmps51
  go_wp2
  go_loop [0, 7] (fun x i => ∃ (k : Nat), k ≤ t.size ∧ i = .int .i64 k ∧ x = .int .u64 (Fcs.sumL r s (t.data.toList.take k) : Nat)) (fun _ i => t.size - (intOf i).toNat)
  case atStart => exact ⟨0, Nat.zero_le _, rfl, rfl⟩
  case round =>
    obtain ⟨k, hk, rfl, rfl⟩ := hrel
    have hn := sumL_lt32 r s (t.data.toList.take k) hs hr
    by_cases hlt : k < t.size
    · have HS : Hid (Fcs.sumL r s (t.data.toList.take (k + 1)) = Fcs.stp r 8 (Fcs.sumL r s (t.data.toList.take k) ^^^ t[k].toNat)) := by
        refine hide ?_
        rw [take_snoc t k hlt, Fcs.sumL_snoc]
      generalize Fcs.sumL r s (t.data.toList.take k) = n at *
      have hb : t[k].toNat < 256 := t[k].toNat_lt
      have hx := xorb_u64 n t[k].toNat hn hb
      have hm := xorb_lt n t[k].toNat hn hb
      go_wp2
      clear hx hb
      generalize n ^^^ t[k].toNat = m at *
      go_loop [0, 8] (fun x i => ∃ (j : Nat), j ≤ 8 ∧ i = .int .i64 j ∧ x = .int .u64 (Fcs.stp r j m : Nat)) (fun _ i => 8 - (intOf i).toNat)
      case atStart => exact ⟨0, by omega, rfl, rfl⟩
      case round =>
        obtain ⟨j, hj, rfl, rfl⟩ := hrel
        have hq : Fcs.stp r j m < 4294967296 := stp_lt_u32 r m j hm hr
        have HT : Hid (Fcs.stp r (j + 1) m = Fcs.step r (Fcs.stp r j m)) := hide rfl
        generalize hg : Fcs.stp r j m = q at *
        have HG := hide hg
        clear hg
        by_cases hl8 : j < 8
        · by_cases hodd : q % 2 = 1
          · have hb : (bits .and .u64 (q : Int) 1 == 1) = true := by rw [and1_u64 q hq, hodd]; rfl
            have HB := hide hodd
            clear hodd
            go_wp2
            go_round
            case rel => exact ⟨j + 1, by omega, by go_num, by rw [unhide HT, xor2_u64 q r hq hr, Fcs.step, if_pos (unhide HB)]⟩
            case measure => simp [intOf]; omega
          · have hb : (bits .and .u64 (q : Int) 1 == 1) = false := by
              rw [and1_u64 q hq, show q % 2 = 0 by omega]; rfl
            have HB := hide hodd
            clear hodd
            go_wp2
            go_round
            case rel => exact ⟨j + 1, by omega, by go_num, by rw [unhide HT, Fcs.step, if_neg (unhide HB)]; rfl⟩
            case measure => simp [intOf]; omega
        · have e8 : j = 8 := by omega
          have HK := hide e8
          clear e8
          go_wp2
          go_round
          case rel => exact ⟨k + 1, by omega, by go_num, by rw [unhide HS, ← unhide HG, unhide HK]⟩
          case measure => simp [intOf]; omega
    · go_wp2
      go_ret
      exact ⟨ret_int (by rw [List.take_of_length_le (by simp; omega)]), rfl⟩
end Go.Proofs.YtillpfcldehfdaaDoor
