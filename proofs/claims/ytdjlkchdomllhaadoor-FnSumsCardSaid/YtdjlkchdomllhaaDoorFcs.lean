/- Fcs16 and Fcs32, the program's and the model's: each answers 0 of a text of more than 8000 bytes or of a sum beyond its width, else the sum of the bytes; then the laws FnExactFcs16 and FnExactFcs32 return true and leave what lay in memory; under the library's two tables as they are laid. -/
import Derived.Test.YtdjlkchdomllhaaDoorBehind
namespace Go.Proofs.YtdjlkchdomllhaaDoor
open Go.RowKit

set_option maxHeartbeats 400000 in
theorem is_true (x a b : Int) (w : World) (h1 : a ≤ x) (h2 : x ≤ b) :
    Calls Tryd.prog 24 #[.int .i64 x, .int .i64 a, .int .i64 b] w fun e w' => e = .returned (.bool true) ∧ w' = w := by
  have d1 : decide (x ≥ a) = true := decide_eq_true h1
  have d2 : decide (x ≤ b) = true := decide_eq_true h2
  go_enter Tryd.func24, Tryd.ntmps24
  go_wp2
  all_goals first | (go_ret; exact ⟨rfl, rfl⟩) | (exfalso; omega)
set_option maxHeartbeats 400000 in
theorem is_false (x a b : Int) (w : World) (h : x < a ∨ b < x) :
    Calls Tryd.prog 24 #[.int .i64 x, .int .i64 a, .int .i64 b] w fun e w' => e = .returned (.bool false) ∧ w' = w := by
  by_cases h1 : x < a
  · have d1 : decide (x ≥ a) = false := decide_eq_false (by omega)
    go_enter Tryd.func24, Tryd.ntmps24
    go_wp2
    all_goals first | (go_ret; exact ⟨rfl, rfl⟩) | (exfalso; omega)
  · have d1 : decide (x ≥ a) = true := decide_eq_true (by omega)
    have d2 : decide (x ≤ b) = false := decide_eq_false (by omega)
    go_enter Tryd.func24, Tryd.ntmps24
    go_wp2
    all_goals first | (go_ret; exact ⟨rfl, rfl⟩) | (exfalso; omega)

/-- What Fcs16 answers. -/
def fcs16 (x : Int) (l : List UInt8) : Int := if l.length ≤ 8000 ∧ 0 ≤ x ∧ x ≤ 65535 then ((Fcs.sumL 33800 x.toNat l : Nat) : Int) else 0
theorem fcs16_pos {x : Int} {t : ByteArray} (h1 : t.size ≤ 8000) (h2 : 0 ≤ x) (h3 : x ≤ 65535) : fcs16 x t.data.toList = ((Fcs.sumL 33800 x.toNat t.data.toList : Nat) : Int) :=
  if_pos ⟨by simpa using h1, h2, h3⟩
theorem fcs16_neg {x : Int} {t : ByteArray} (h : ¬ (t.size ≤ 8000 ∧ 0 ≤ x ∧ x ≤ 65535)) : fcs16 x t.data.toList = 0 :=
  if_neg (by simpa using h)

set_option maxHeartbeats 400000 in
theorem implFcs16 (x : Int) (t : ByteArray) (w : World) (hx1 : -9223372036854775808 ≤ x) (hx2 : x ≤ 9223372036854775807) (ht : t.size ≤ maxLen)
    (hT : Lib.Utf8Tabs 0 1 w) :
    Calls Tryd.prog 8 #[.int .i64 x, .string t] w fun e w' => e = .returned (.int .i64 (fcs16 x t.data.toList)) ∧ Below w.heap.size w w' := by
  have ht' := ht
  unfold maxLen at ht
  by_cases h1 : t.size ≤ 8000
  · by_cases h2 : 0 ≤ x
    · by_cases h3 : x ≤ 65535
      · have HV := hide (fcs16_pos h1 h2 h3)
        obtain ⟨n, rfl⟩ := Int.eq_ofNat_of_zero_le h2
        have hn : n < 65536 := by omega
        have hq := sumL_lt16 33800 n t.data.toList hn (by decide)
        have c : Calls Tryd.prog 21 #[.int .u16 (n : Int), .int .u16 33800, .string t] w fun e w' => e = .returned (.int .u16 (Fcs.sumL 33800 n t.data.toList : Nat)) ∧ Below w.heap.size w w' := behind_u16 n 33800 t w hn (by decide) ht' hT
        generalize fcs16 (n : Int) t.data.toList = V at *
        rw [Int.toNat_natCast] at HV
        generalize Fcs.sumL 33800 n t.data.toList = q at *
        go_enter Tryd.func8, Tryd.ntmps8
        go_wp2_with fail
        refine c.mono ?_
        rintro e w1 ⟨rfl, hb⟩
        go_wp2
        go_ret
        exact ⟨ret_int (unhide HV).symm, hb⟩
      · rw [fcs16_neg (by omega)]
        go_enter Tryd.func8, Tryd.ntmps8
        go_wp2
        all_goals first | (exfalso; omega) | (go_ret; exact ⟨rfl, Below.refl _ _⟩)
    · rw [fcs16_neg (by omega)]
      go_enter Tryd.func8, Tryd.ntmps8
      go_wp2
      all_goals first | (exfalso; omega) | (go_ret; exact ⟨rfl, Below.refl _ _⟩)
  · rw [fcs16_neg (by omega)]
    go_enter Tryd.func8, Tryd.ntmps8
    go_wp2
    all_goals first | (exfalso; omega) | (go_ret; exact ⟨rfl, Below.refl _ _⟩)

set_option maxHeartbeats 400000 in
theorem specFcs16 (x : Int) (t : ByteArray) (w : World) (hx1 : -9223372036854775808 ≤ x) (hx2 : x ≤ 9223372036854775807) (ht : t.size ≤ maxLen) :
    Calls Tryd.prog 9 #[.int .i64 x, .string t] w fun e w' => e = .returned (.int .i64 (fcs16 x t.data.toList)) ∧ w' = w := by
  have ht' := ht
  unfold maxLen at ht
  by_cases h1 : t.size ≤ 8000
  · have d1 : ¬ ((8000 : Int) < (t.size : Int)) := by omega
    by_cases h2 : 0 ≤ x ∧ x ≤ 65535
    · obtain ⟨h2, h3⟩ := h2
      have HV := hide (fcs16_pos h1 h2 h3)
      obtain ⟨n, rfl⟩ := Int.eq_ofNat_of_zero_le h2
      have hn : n < 65536 := by omega
      have hq := sumL_lt16 33800 n t.data.toList hn (by decide)
      have c : Calls Tryd.prog 25 #[.int .u64 (n : Int), .string t, .int .u64 33800] w fun e w' => e = .returned (.int .u64 (Fcs.sumL 33800 n t.data.toList : Nat)) ∧ w' = w := modelSum n 33800 t w (by omega) (by decide) ht'
      generalize fcs16 (n : Int) t.data.toList = V at *
      rw [Int.toNat_natCast] at HV
      generalize Fcs.sumL 33800 n t.data.toList = q at *
      go_enter Tryd.func9, Tryd.ntmps9
      go_wp2_with fail
      refine (is_true _ _ _ _ (by omega) (by omega)).mono ?_
      rintro e w1 ⟨rfl, rfl⟩
      go_wp2_with fail
      refine c.mono ?_
      rintro e w1 ⟨rfl, rfl⟩
      go_wp2
      go_ret
      exact ⟨ret_int (unhide HV).symm, rfl⟩
    · rw [fcs16_neg (by omega)]
      go_enter Tryd.func9, Tryd.ntmps9
      go_wp2_with fail
      refine (is_false _ _ _ _ (by omega)).mono ?_
      rintro e w1 ⟨rfl, rfl⟩
      go_wp2
      all_goals first | (exfalso; omega) | (go_ret; exact ⟨rfl, rfl⟩)
  · have d1 : (8000 : Int) < (t.size : Int) := by omega
    rw [fcs16_neg (by omega)]
    go_enter Tryd.func9, Tryd.ntmps9
    go_wp2
    all_goals first | (exfalso; omega) | (go_ret; exact ⟨rfl, rfl⟩)
/-- What Fcs32 answers. -/
def fcs32 (x : Int) (l : List UInt8) : Int := if l.length ≤ 8000 ∧ 0 ≤ x ∧ x ≤ 4294967295 then ((Fcs.sumL 3988292384 x.toNat l : Nat) : Int) else 0
theorem fcs32_pos {x : Int} {t : ByteArray} (h1 : t.size ≤ 8000) (h2 : 0 ≤ x) (h3 : x ≤ 4294967295) : fcs32 x t.data.toList = ((Fcs.sumL 3988292384 x.toNat t.data.toList : Nat) : Int) :=
  if_pos ⟨by simpa using h1, h2, h3⟩
theorem fcs32_neg {x : Int} {t : ByteArray} (h : ¬ (t.size ≤ 8000 ∧ 0 ≤ x ∧ x ≤ 4294967295)) : fcs32 x t.data.toList = 0 :=
  if_neg (by simpa using h)

set_option maxHeartbeats 400000 in
theorem implFcs32 (x : Int) (t : ByteArray) (w : World) (hx1 : -9223372036854775808 ≤ x) (hx2 : x ≤ 9223372036854775807) (ht : t.size ≤ maxLen)
    (hT : Lib.Utf8Tabs 0 1 w) :
    Calls Tryd.prog 10 #[.int .i64 x, .string t] w fun e w' => e = .returned (.int .i64 (fcs32 x t.data.toList)) ∧ Below w.heap.size w w' := by
  have ht' := ht
  unfold maxLen at ht
  by_cases h1 : t.size ≤ 8000
  · by_cases h2 : 0 ≤ x
    · by_cases h3 : x ≤ 4294967295
      · have HV := hide (fcs32_pos h1 h2 h3)
        obtain ⟨n, rfl⟩ := Int.eq_ofNat_of_zero_le h2
        have hn : n < 4294967296 := by omega
        have hq := sumL_lt32 3988292384 n t.data.toList hn (by decide)
        have c : Calls Tryd.prog 19 #[.int .u32 (n : Int), .int .u32 3988292384, .string t] w fun e w' => e = .returned (.int .u32 (Fcs.sumL 3988292384 n t.data.toList : Nat)) ∧ Below w.heap.size w w' := behind_u32 n 3988292384 t w hn (by decide) ht' hT
        generalize fcs32 (n : Int) t.data.toList = V at *
        rw [Int.toNat_natCast] at HV
        generalize Fcs.sumL 3988292384 n t.data.toList = q at *
        go_enter Tryd.func10, Tryd.ntmps10
        go_wp2_with fail
        refine c.mono ?_
        rintro e w1 ⟨rfl, hb⟩
        go_wp2
        go_ret
        exact ⟨ret_int (unhide HV).symm, hb⟩
      · rw [fcs32_neg (by omega)]
        go_enter Tryd.func10, Tryd.ntmps10
        go_wp2
        all_goals first | (exfalso; omega) | (go_ret; exact ⟨rfl, Below.refl _ _⟩)
    · rw [fcs32_neg (by omega)]
      go_enter Tryd.func10, Tryd.ntmps10
      go_wp2
      all_goals first | (exfalso; omega) | (go_ret; exact ⟨rfl, Below.refl _ _⟩)
  · rw [fcs32_neg (by omega)]
    go_enter Tryd.func10, Tryd.ntmps10
    go_wp2
    all_goals first | (exfalso; omega) | (go_ret; exact ⟨rfl, Below.refl _ _⟩)

set_option maxHeartbeats 400000 in
theorem specFcs32 (x : Int) (t : ByteArray) (w : World) (hx1 : -9223372036854775808 ≤ x) (hx2 : x ≤ 9223372036854775807) (ht : t.size ≤ maxLen) :
    Calls Tryd.prog 11 #[.int .i64 x, .string t] w fun e w' => e = .returned (.int .i64 (fcs32 x t.data.toList)) ∧ w' = w := by
  have ht' := ht
  unfold maxLen at ht
  by_cases h1 : t.size ≤ 8000
  · have d1 : ¬ ((8000 : Int) < (t.size : Int)) := by omega
    by_cases h2 : 0 ≤ x ∧ x ≤ 4294967295
    · obtain ⟨h2, h3⟩ := h2
      have HV := hide (fcs32_pos h1 h2 h3)
      obtain ⟨n, rfl⟩ := Int.eq_ofNat_of_zero_le h2
      have hn : n < 4294967296 := by omega
      have hq := sumL_lt32 3988292384 n t.data.toList hn (by decide)
      have c : Calls Tryd.prog 25 #[.int .u64 (n : Int), .string t, .int .u64 3988292384] w fun e w' => e = .returned (.int .u64 (Fcs.sumL 3988292384 n t.data.toList : Nat)) ∧ w' = w := modelSum n 3988292384 t w (by omega) (by decide) ht'
      generalize fcs32 (n : Int) t.data.toList = V at *
      rw [Int.toNat_natCast] at HV
      generalize Fcs.sumL 3988292384 n t.data.toList = q at *
      go_enter Tryd.func11, Tryd.ntmps11
      go_wp2_with fail
      refine (is_true _ _ _ _ (by omega) (by omega)).mono ?_
      rintro e w1 ⟨rfl, rfl⟩
      go_wp2_with fail
      refine c.mono ?_
      rintro e w1 ⟨rfl, rfl⟩
      go_wp2
      go_ret
      exact ⟨ret_int (unhide HV).symm, rfl⟩
    · rw [fcs32_neg (by omega)]
      go_enter Tryd.func11, Tryd.ntmps11
      go_wp2_with fail
      refine (is_false _ _ _ _ (by omega)).mono ?_
      rintro e w1 ⟨rfl, rfl⟩
      go_wp2
      all_goals first | (exfalso; omega) | (go_ret; exact ⟨rfl, rfl⟩)
  · have d1 : (8000 : Int) < (t.size : Int) := by omega
    rw [fcs32_neg (by omega)]
    go_enter Tryd.func11, Tryd.ntmps11
    go_wp2
    all_goals first | (exfalso; omega) | (go_ret; exact ⟨rfl, rfl⟩)
end Go.Proofs.YtdjlkchdomllhaaDoor
