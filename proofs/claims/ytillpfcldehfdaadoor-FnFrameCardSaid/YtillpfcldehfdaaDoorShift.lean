/- Eight shifts of a sum, of both widths: the walk of shiftEight; no condition but that the numbers fit their kinds. -/
import Derived.Test.YtillpfcldehfdaaDoorBase
import Derived.Test.YtillpfcldehfdaaDoorMath
namespace Go.Proofs.YtillpfcldehfdaaDoor
open Go.RowKit
theorem and1_u16 (n : Nat) (h : n < 65536) : bits .and .u16 (n : Int) 1 = ((n % 2 : Nat) : Int) := by
  have := u16_and_nat n 1 h (by decide)
  rw [nat_mask1] at this
  exact this
theorem xor2_u16 (n r : Nat) (h : n < 65536) (hr : r < 65536) : bits .xor .u16 ((n : Int) / 2) (r : Int) = ((n / 2 ^^^ r : Nat) : Int) := by
  have := u16_xor_nat (n / 2) r (by omega) hr
  rw [← this]
  rfl
theorem stp_lt_u16 (r s k : Nat) (hs : s < 65536) (hr : r < 65536) : Fcs.stp r k s < 65536 := Fcs.stp_lt (n := 16) hr hs k
set_option maxHeartbeats 400000 in
/-- Eight shifts of a sum of 16 bits. -/
theorem shift_u16 (s r : Nat) (w : World) (hs : s < 65536) (hr : r < 65536) :
    Calls Tryd.prog 94 #[.int .u16 s, .int .u16 r] w fun e w' => e = .returned (.int .u16 (Fcs.stp r 8 s : Nat)) ∧ w' = w := by
  go_enter Tryd.func94, Tryd.ntmps94
  go_wp2
  go_loop [0, 6] (fun x i => ∃ (k : Nat), k ≤ 8 ∧ i = .int .i64 k ∧ x = .int .u16 (Fcs.stp r k s : Nat)) (fun _ i => 8 - (intOf i).toNat)
  case atStart => exact ⟨0, by omega, rfl, rfl⟩
  case round =>
    obtain ⟨k, hk, rfl, rfl⟩ := hrel
    have hn := stp_lt_u16 r s k hs hr
    have HS : Hid (Fcs.stp r (k + 1) s = Fcs.step r (Fcs.stp r k s)) := hide rfl
    generalize hg : Fcs.stp r k s = n at *
    have HG := hide hg
    clear hg
    by_cases hlt : k < 8
    · by_cases hodd : n % 2 = 1
      · have hb : (bits .and .u16 (n : Int) 1 == 1) = true := by rw [and1_u16 n hn, hodd]; rfl
        have HB := hide hodd
        clear hodd
        go_wp2
        go_round
        case rel => exact ⟨k + 1, by omega, by go_num, by rw [unhide HS, xor2_u16 n r hn hr, Fcs.step, if_pos (unhide HB)]⟩
        case measure => simp [intOf]; omega
      · have hb : (bits .and .u16 (n : Int) 1 == 1) = false := by
          rw [and1_u16 n hn, show n % 2 = 0 by omega]; rfl
        have HB := hide hodd
        clear hodd
        go_wp2
        go_round
        case rel => exact ⟨k + 1, by omega, by go_num, by rw [unhide HS, Fcs.step, if_neg (unhide HB)]; rfl⟩
        case measure => simp [intOf]; omega
    · have e8 : k = 8 := by omega
      have HK := hide e8
      clear e8
      go_wp2
      go_ret
      refine ⟨ret_int ?_, rfl⟩
      rw [← unhide HG, unhide HK]
theorem and1_u32 (n : Nat) (h : n < 4294967296) : bits .and .u32 (n : Int) 1 = ((n % 2 : Nat) : Int) := by
  have := u32_and_nat n 1 h (by decide)
  rw [nat_mask1] at this
  exact this
theorem xor2_u32 (n r : Nat) (h : n < 4294967296) (hr : r < 4294967296) : bits .xor .u32 ((n : Int) / 2) (r : Int) = ((n / 2 ^^^ r : Nat) : Int) := by
  have := u32_xor_nat (n / 2) r (by omega) hr
  rw [← this]
  rfl
theorem stp_lt_u32 (r s k : Nat) (hs : s < 4294967296) (hr : r < 4294967296) : Fcs.stp r k s < 4294967296 := Fcs.stp_lt (n := 32) hr hs k
set_option maxHeartbeats 400000 in
/-- Eight shifts of a sum of 32 bits. -/
theorem shift_u32 (s r : Nat) (w : World) (hs : s < 4294967296) (hr : r < 4294967296) :
    Calls Tryd.prog 92 #[.int .u32 s, .int .u32 r] w fun e w' => e = .returned (.int .u32 (Fcs.stp r 8 s : Nat)) ∧ w' = w := by
  go_enter Tryd.func92, Tryd.ntmps92
  go_wp2
  go_loop [0, 6] (fun x i => ∃ (k : Nat), k ≤ 8 ∧ i = .int .i64 k ∧ x = .int .u32 (Fcs.stp r k s : Nat)) (fun _ i => 8 - (intOf i).toNat)
  case atStart => exact ⟨0, by omega, rfl, rfl⟩
  case round =>
    obtain ⟨k, hk, rfl, rfl⟩ := hrel
    have hn := stp_lt_u32 r s k hs hr
    have HS : Hid (Fcs.stp r (k + 1) s = Fcs.step r (Fcs.stp r k s)) := hide rfl
    generalize hg : Fcs.stp r k s = n at *
    have HG := hide hg
    clear hg
    by_cases hlt : k < 8
    · by_cases hodd : n % 2 = 1
      · have hb : (bits .and .u32 (n : Int) 1 == 1) = true := by rw [and1_u32 n hn, hodd]; rfl
        have HB := hide hodd
        clear hodd
        go_wp2
        go_round
        case rel => exact ⟨k + 1, by omega, by go_num, by rw [unhide HS, xor2_u32 n r hn hr, Fcs.step, if_pos (unhide HB)]⟩
        case measure => simp [intOf]; omega
      · have hb : (bits .and .u32 (n : Int) 1 == 1) = false := by
          rw [and1_u32 n hn, show n % 2 = 0 by omega]; rfl
        have HB := hide hodd
        clear hodd
        go_wp2
        go_round
        case rel => exact ⟨k + 1, by omega, by go_num, by rw [unhide HS, Fcs.step, if_neg (unhide HB)]; rfl⟩
        case measure => simp [intOf]; omega
    · have e8 : k = 8 := by omega
      have HK := hide e8
      clear e8
      go_wp2
      go_ret
      refine ⟨ret_int ?_, rfl⟩
      rw [← unhide HG, unhide HK]
end Go.Proofs.YtillpfcldehfdaaDoor
