/- Tail, the program's and the model's: of a text of at most 8000 bytes the sum's bits turned, the lowest byte first; what lay in memory stands; under the library's two tables as they are laid. -/
import Derived.Test.YtillpfcldehfdaaDoorBehind
import Derived.Test.YtillpfcldehfdaaDoorLow
namespace Go.Proofs.YtillpfcldehfdaaDoor
open Go.RowKit
theorem ret_str {a b : List Int} (h : a = b) : Ending.returned (.string (strOfNums a)) = .returned (.string (strOfNums b)) := by rw [h]
/-- What Tail answers of a text that is not too long. -/
def tail4 (q : Nat) : List Int := [(4294967295 - q : Int) % 256, (4294967295 - q : Int) / 256 % 256, (4294967295 - q : Int) / 65536 % 256, (4294967295 - q : Int) / 16777216]
def tail2 (q : Nat) : List Int := [(65535 - q : Int) % 256, (65535 - q : Int) / 256]
def tailB (l : List UInt8) (wide : Bool) : ByteArray := if wide then strOfNums (tail4 (Fcs.sumL 3988292384 4294967295 l)) else strOfNums (tail2 (Fcs.sumL 33800 65535 l))

theorem ones_xor (n q : Nat) (h : q < 2 ^ n) : (2 ^ n - 1) ^^^ q = 2 ^ n - 1 - q := by
  apply Nat.eq_of_testBit_eq
  intro i
  rw [Nat.testBit_xor, Nat.testBit_two_pow_sub_one, show 2 ^ n - 1 - q = 2 ^ n - (q + 1) by omega, Nat.testBit_two_pow_sub_succ h]
  by_cases hi : i < n
  · simp [hi]
  · have : q.testBit i = false := Nat.testBit_lt_two_pow (Nat.lt_of_lt_of_le h (Nat.pow_le_pow_right (by decide) (by omega)))
    simp [hi, this]
theorem flip_u16 (q : Nat) (h : q < 65536) : ∃ m : Nat, bits .xor .u16 IntKind.u16.max (q : Int) = (m : Int) ∧ m = 65535 - q :=
  ⟨65535 ^^^ q, u16_xor_nat 65535 q (by decide) h, ones_xor 16 q h⟩
theorem unsigned_u16 : IntKind.u16.signed = false := rfl
theorem flip_u32 (q : Nat) (h : q < 4294967296) : ∃ m : Nat, bits .xor .u32 IntKind.u32.max (q : Int) = (m : Int) ∧ m = 4294967295 - q :=
  ⟨4294967295 ^^^ q, u32_xor_nat 4294967295 q (by decide) h, ones_xor 32 q h⟩
theorem unsigned_u32 : IntKind.u32.signed = false := rfl
theorem flip_u64 (q : Nat) (h : q < 18446744073709551616) : ∃ m : Nat, bits .xor .u64 IntKind.u64.max (q : Int) = (m : Int) ∧ m = 18446744073709551615 - q :=
  ⟨18446744073709551615 ^^^ q, u64_xor_nat 18446744073709551615 q (by decide) h, ones_xor 64 q h⟩
theorem unsigned_u64 : IntKind.u64.signed = false := rfl

set_option maxHeartbeats 400000 in
theorem tailSize (b : Bool) (w : World) : Calls Tryd.prog 46 #[.bool b] w fun e w' => e = .returned (.int .i64 (if b then 4 else 2)) ∧ w' = w := by
  cases b
  all_goals
    go_enter Tryd.func46, Tryd.ntmps46
    go_wp2
    go_ret
    exact ⟨rfl, rfl⟩

set_option maxHeartbeats 400000 in
theorem specTail (t : ByteArray) (b : Bool) (w : World) (ht : t.size ≤ maxLen) :
    Calls Tryd.prog 49 #[.string t, .bool b] w fun e w' => e = .returned (.string (tailB t.data.toList b)) ∧ Below w.heap.size w w' := by
  cases b
  · have hq := sumL_lt16 33800 65535 t.data.toList (by decide) (by decide)
    have c : Calls Tryd.prog 51 #[.int .u64 65535, .string t, .int .u64 33800] w fun e w' => e = .returned (.int .u64 (Fcs.sumL 33800 65535 t.data.toList : Nat)) ∧ w' = w := modelSum 65535 33800 t w (by decide) (by decide) ht
    have HV : Hid (tailB t.data.toList false = strOfNums (tail2 (Fcs.sumL 33800 65535 t.data.toList))) := hide rfl
    generalize tailB t.data.toList false = V at *
    generalize Fcs.sumL 33800 65535 t.data.toList = q at *
    have hc := conv2
    have hsg := unsigned_u64
    obtain ⟨m, hx, hm⟩ := flip_u64 q (by omega)
    have HM := hide hm
    clear hm
    go_enter Tryd.func49, Tryd.ntmps49
    go_wp2_with fail
    refine c.mono ?_
    rintro e w1 ⟨rfl, rfl⟩
    go_wp2_with fail
    go_ret
    refine ⟨?_, (Below.refl _ _).alloc (Nat.le_refl _) _⟩
    rw [unhide HV]
    refine ret_str ?_
    have hm := unhide HM
    simp only [tail2, List.cons.injEq, and_true]
    omega
  · have hq := sumL_lt32 3988292384 4294967295 t.data.toList (by decide) (by decide)
    have c : Calls Tryd.prog 51 #[.int .u64 4294967295, .string t, .int .u64 3988292384] w fun e w' => e = .returned (.int .u64 (Fcs.sumL 3988292384 4294967295 t.data.toList : Nat)) ∧ w' = w := modelSum 4294967295 3988292384 t w (by decide) (by decide) ht
    have HV : Hid (tailB t.data.toList true = strOfNums (tail4 (Fcs.sumL 3988292384 4294967295 t.data.toList))) := hide rfl
    generalize tailB t.data.toList true = V at *
    generalize Fcs.sumL 3988292384 4294967295 t.data.toList = q at *
    have hc := conv4
    have hsg := unsigned_u64
    obtain ⟨m, hx, hm⟩ := flip_u64 q (by omega)
    have HM := hide hm
    clear hm
    go_enter Tryd.func49, Tryd.ntmps49
    go_wp2_with fail
    refine c.mono ?_
    rintro e w1 ⟨rfl, rfl⟩
    go_wp2_with fail
    go_ret
    refine ⟨?_, (Below.refl _ _).alloc (Nat.le_refl _) _⟩
    rw [unhide HV]
    refine ret_str ?_
    have hm := unhide HM
    simp only [tail4, List.cons.injEq, and_true]
    omega

set_option maxHeartbeats 400000 in
theorem implTail (t : ByteArray) (b : Bool) (w : World) (ht : t.size ≤ maxLen) (h8 : t.size ≤ 8000)
    (hT : Lib.Utf8Tabs 1 2 w) :
    Calls Tryd.prog 7 #[.string t, .bool b] w fun e w' => e = .returned (.string (tailB t.data.toList b)) ∧ Below w.heap.size w w' := by
  have d1 : ¬ ((8000 : Int) < (t.size : Int)) := by omega
  cases b
  · have hq := sumL_lt16 33800 65535 t.data.toList (by decide) (by decide)
    have c : Calls Tryd.prog 47 #[.int .u16 65535, .int .u16 33800, .string t] w fun e w' => e = .returned (.int .u16 (Fcs.sumL 33800 65535 t.data.toList : Nat)) ∧ Below w.heap.size w w' := behind_u16 65535 33800 t w (by decide) (by decide) ht hT
    have HV : Hid (tailB t.data.toList false = strOfNums (tail2 (Fcs.sumL 33800 65535 t.data.toList))) := hide rfl
    generalize tailB t.data.toList false = V at *
    generalize Fcs.sumL 33800 65535 t.data.toList = q at *
    have hsg := unsigned_u16
    obtain ⟨m, hx, hm⟩ := flip_u16 q (by omega)
    have hml : m < 65536 := by omega
    have HM := hide hm
    clear hm
    go_enter Tryd.func7, Tryd.ntmps7
    go_wp2_with fail
    refine c.mono ?_
    rintro e w1 ⟨rfl, hb1⟩
    go_wp2_with fail
    refine (tailSize false _).mono ?_
    rintro e w2 ⟨rfl, rfl⟩
    go_wp2_with fail
    refine (low2 m _).mono ?_
    rintro e w3 ⟨rfl, hb3⟩
    go_wp2
    go_ret
    refine ⟨?_, hb1.trans (hb3.mono hb1.size)⟩
    rw [unhide HV]
    refine ret_str ?_
    have hm := unhide HM
    simp only [tail2, List.cons.injEq, and_true]
    omega
  · have hq := sumL_lt32 3988292384 4294967295 t.data.toList (by decide) (by decide)
    have c : Calls Tryd.prog 45 #[.int .u32 4294967295, .int .u32 3988292384, .string t] w fun e w' => e = .returned (.int .u32 (Fcs.sumL 3988292384 4294967295 t.data.toList : Nat)) ∧ Below w.heap.size w w' := behind_u32 4294967295 3988292384 t w (by decide) (by decide) ht hT
    have HV : Hid (tailB t.data.toList true = strOfNums (tail4 (Fcs.sumL 3988292384 4294967295 t.data.toList))) := hide rfl
    generalize tailB t.data.toList true = V at *
    generalize Fcs.sumL 3988292384 4294967295 t.data.toList = q at *
    have hsg := unsigned_u32
    obtain ⟨m, hx, hm⟩ := flip_u32 q (by omega)
    have hml : m < 4294967296 := by omega
    have HM := hide hm
    clear hm
    go_enter Tryd.func7, Tryd.ntmps7
    go_wp2_with fail
    refine c.mono ?_
    rintro e w1 ⟨rfl, hb1⟩
    go_wp2_with fail
    refine (tailSize true _).mono ?_
    rintro e w2 ⟨rfl, rfl⟩
    go_wp2_with fail
    refine (low4 m _ hml).mono ?_
    rintro e w3 ⟨rfl, hb3⟩
    go_wp2
    go_ret
    refine ⟨?_, hb1.trans (hb3.mono hb1.size)⟩
    rw [unhide HV]
    refine ret_str ?_
    have hm := unhide HM
    simp only [tail4, List.cons.injEq, and_true]
    omega

/-- What Tail answers. -/
def tailV (t : ByteArray) (b : Bool) : ByteArray := if t.size ≤ 8000 then tailB t.data.toList b else ⟨#[]⟩
theorem implTailAll (t : ByteArray) (b : Bool) (w : World) (ht : t.size ≤ maxLen) (hT : Lib.Utf8Tabs 1 2 w) :
    Calls Tryd.prog 7 #[.string t, .bool b] w fun e w' => e = .returned (.string (tailV t b)) ∧ Below w.heap.size w w' := by
  by_cases h8 : t.size ≤ 8000
  · rw [show tailV t b = tailB t.data.toList b from if_pos h8]
    exact implTail t b w ht h8 hT
  · rw [show tailV t b = ⟨#[]⟩ from if_neg h8]
    have d1 : (8000 : Int) < (t.size : Int) := by omega
    unfold maxLen at ht
    go_enter Tryd.func7, Tryd.ntmps7
    go_wp2
    go_ret
    exact ⟨rfl, Below.refl _ _⟩
end Go.Proofs.YtillpfcldehfdaaDoor
