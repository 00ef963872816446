/- Frame, the program's and the model's: a flag, what is stuffed of a text and its Tail, a flag; what lay in memory stands; under the library's two tables as they are laid. -/
import Derived.Test.YtillpfcldehfdaaDoorStuff
import Derived.Test.YtillpfcldehfdaaDoorGoodImpl
namespace Go.Proofs.YtillpfcldehfdaaDoor
open Go.RowKit
theorem tailB_size (l : List UInt8) (b : Bool) : (tailB l b).size = tailN b := by
  cases b
  · exact strOfNums_size _
  · exact strOfNums_size _
/-- A flag's text. -/
def flagT : ByteArray := ⟨#[126]⟩
/-- What Frame answers. -/
def frameV (t : ByteArray) (x : Int) (b : Bool) : ByteArray := if 1 ≤ t.size ∧ t.size ≤ 300 ∧ accOk x = true then ⟨#[126]⟩ ++ txt (Hd.stuff x.toNat (t ++ tailB t.data.toList b).data.toList) ++ ⟨#[126]⟩ else ⟨#[]⟩
theorem stuff_sz (a : Nat) (u : ByteArray) : (txt (Hd.stuff a u.data.toList)).size ≤ 2 * u.size := by
  rw [txt_size]
  have := Hd.stuff_len a u.data.toList
  have e : u.data.toList.length = u.size := (Lib.size_eq u).symm
  omega
set_option maxHeartbeats 400000 in
theorem implFrame_at (t : ByteArray) (a : Nat) (b : Bool) (w : World) (h1 : 1 ≤ t.size) (h2 : t.size ≤ 300) (ha : a < 4294967296) (hT : Lib.Utf8Tabs 1 2 w) :
    Calls Tryd.prog 17 #[.string t, .int .i64 a, .bool b] w fun e w' => e = .returned (.string (⟨#[126]⟩ ++ txt (Hd.stuff a (t ++ tailB t.data.toList b).data.toList) ++ ⟨#[126]⟩)) ∧ Below w.heap.size w w' := by
  have d1 : ¬ ((t.size : Int) < 1) := by omega
  have d2 : ¬ ((300 : Int) < (t.size : Int)) := by omega
  have c1 := accmRight a w
  rw [accOk_nat ha] at c1
  have c2 := implTail t b w (by unfold maxLen; omega) (by omega) hT
  have hs := tailB_size t.data.toList b
  have hb4 := tailN_le b
  generalize tailB t.data.toList b = T at *
  have hU : (t ++ T).size ≤ 304 := by rw [ByteArray.size_append]; omega
  have hcat : ¬ (9223372036854775807 < t.size + T.size) := by omega
  have C3 := hide fun w => implStuff (t ++ T) a w ha (by omega)
  have hV := stuff_sz a (t ++ T)
  obtain ⟨U, hUe⟩ : ∃ U, t ++ T = U := ⟨_, rfl⟩
  rw [hUe] at hU C3 hV
  rw [hUe]
  generalize txt (Hd.stuff a U.data.toList) = V at *
  have HC := hide hcat
  have HV := hide hV
  clear hcat hV
  go_enter Tryd.func17, Tryd.ntmps17
  go_wp2_with (first
    | (go_at_call 54; refine c1.mono ?_; rintro e w1 ⟨rfl, hw⟩; replace hw := hw.symm; subst hw))
  refine c2.mono ?_
  rintro e w2 ⟨rfl, hb2⟩
  have hcat := unhide HC
  go_wp2_with fail
  refine (unhide C3 _).mono ?_
  rintro e w3 ⟨rfl, hb3⟩
  clear hcat HC hUe
  have hV := unhide HV
  have hcat2 : ¬ (9223372036854775807 < (ByteArray.mk #[126]).size + V.size) := by rw [show (ByteArray.mk #[126]).size = 1 from rfl]; omega
  obtain ⟨Z, hZ⟩ : ∃ Z, ByteArray.mk #[126] ++ V = Z := ⟨_, rfl⟩
  have hZs : Z.size = 1 + V.size := by rw [← hZ, ByteArray.size_append]; rfl
  have hcat3 : ¬ (9223372036854775807 < Z.size + (ByteArray.mk #[126]).size) := by rw [show (ByteArray.mk #[126]).size = 1 from rfl]; omega
  clear hZs
  go_wp2
  go_ret
  exact ⟨by rw [hZ]; rfl, hb2.trans (hb3.mono hb2.size)⟩
set_option maxHeartbeats 400000 in
theorem specFrame_at (t : ByteArray) (a : Nat) (b : Bool) (w : World) (h1 : 1 ≤ t.size) (h2 : t.size ≤ 300) (ha : a < 4294967296) :
    Calls Tryd.prog 18 #[.string t, .int .i64 a, .bool b] w fun e w' => e = .returned (.string (⟨#[126]⟩ ++ txt (Hd.stuff a (t ++ tailB t.data.toList b).data.toList) ++ ⟨#[126]⟩)) ∧ Below w.heap.size w w' := by
  have d1 : ¬ ((t.size : Int) < 1) := by omega
  have d2 : ¬ ((300 : Int) < (t.size : Int)) := by omega
  have c1 := specAccm a w
  rw [accOk_nat ha] at c1
  have c2 := specTail t b w (by unfold maxLen; omega)
  have hs := tailB_size t.data.toList b
  have hb4 := tailN_le b
  generalize tailB t.data.toList b = T at *
  have hU : (t ++ T).size ≤ 304 := by rw [ByteArray.size_append]; omega
  have hcat : ¬ (9223372036854775807 < t.size + T.size) := by omega
  have C3 := hide fun w => specStuff (t ++ T) a w ha (by omega)
  have hV := stuff_sz a (t ++ T)
  obtain ⟨U, hUe⟩ : ∃ U, t ++ T = U := ⟨_, rfl⟩
  rw [hUe] at hU C3 hV
  rw [hUe]
  generalize txt (Hd.stuff a U.data.toList) = V at *
  have HC := hide hcat
  have HV := hide hV
  clear hcat hV
  go_enter Tryd.func18, Tryd.ntmps18
  go_wp2_with (first
    | (go_at_call 55; refine c1.mono ?_; rintro e w1 ⟨rfl, hw⟩; replace hw := hw.symm; subst hw))
  refine c2.mono ?_
  rintro e w2 ⟨rfl, hb2⟩
  have hcat := unhide HC
  go_wp2_with fail
  refine (unhide C3 _).mono ?_
  rintro e w3 ⟨rfl, hb3⟩
  clear hcat HC hUe
  have hV := unhide HV
  have hcat2 : ¬ (9223372036854775807 < (ByteArray.mk #[126]).size + V.size) := by rw [show (ByteArray.mk #[126]).size = 1 from rfl]; omega
  obtain ⟨Z, hZ⟩ : ∃ Z, ByteArray.mk #[126] ++ V = Z := ⟨_, rfl⟩
  have hZs : Z.size = 1 + V.size := by rw [← hZ, ByteArray.size_append]; rfl
  have hcat3 : ¬ (9223372036854775807 < Z.size + (ByteArray.mk #[126]).size) := by rw [show (ByteArray.mk #[126]).size = 1 from rfl]; omega
  clear hZs
  go_wp2
  go_ret
  exact ⟨by rw [hZ]; rfl, hb2.trans (hb3.mono hb2.size)⟩
set_option maxHeartbeats 400000 in
theorem implFrameAll (t : ByteArray) (x : Int) (b : Bool) (w : World) (ht : t.size ≤ maxLen) (hT : Lib.Utf8Tabs 1 2 w) :
    Calls Tryd.prog 17 #[.string t, .int .i64 x, .bool b] w fun e w' => e = .returned (.string (frameV t x b)) ∧ Below w.heap.size w w' := by
  unfold maxLen at ht
  by_cases h1 : 1 ≤ t.size
  · by_cases h2 : t.size ≤ 300
    · by_cases hx : accOk x = true
      · obtain ⟨a, rfl, ha⟩ := accOk_get hx
        rw [show frameV t a b = _ from if_pos ⟨h1, h2, hx⟩, Int.toNat_natCast]
        exact implFrame_at t a b w h1 h2 ha hT
      · rw [show frameV t x b = _ from if_neg fun h => hx h.2.2]
        have d1 : ¬ ((t.size : Int) < 1) := by omega
        have d2 : ¬ ((300 : Int) < (t.size : Int)) := by omega
        have c1 := accmRight x w
        rw [Bool.not_eq_true] at hx
        rw [hx] at c1
        go_enter Tryd.func17, Tryd.ntmps17
        go_wp2_with (first
          | (go_at_call 54; refine c1.mono ?_; rintro e w1 ⟨rfl, rfl⟩))
        go_ret
        exact ⟨rfl, Below.refl _ _⟩
    · rw [show frameV t x b = _ from if_neg fun h => h2 h.2.1]
      have d1 : ¬ ((t.size : Int) < 1) := by omega
      have d2 : (300 : Int) < (t.size : Int) := by omega
      go_enter Tryd.func17, Tryd.ntmps17
      go_wp2
      go_ret
      exact ⟨rfl, Below.refl _ _⟩
  · rw [show frameV t x b = _ from if_neg fun h => h1 h.1]
    have d1 : (t.size : Int) < 1 := by omega
    go_enter Tryd.func17, Tryd.ntmps17
    go_wp2
    go_ret
    exact ⟨rfl, Below.refl _ _⟩
set_option maxHeartbeats 400000 in
theorem specFrameAll (t : ByteArray) (x : Int) (b : Bool) (w : World) (ht : t.size ≤ maxLen) :
    Calls Tryd.prog 18 #[.string t, .int .i64 x, .bool b] w fun e w' => e = .returned (.string (frameV t x b)) ∧ Below w.heap.size w w' := by
  unfold maxLen at ht
  by_cases h1 : 1 ≤ t.size
  · by_cases h2 : t.size ≤ 300
    · by_cases hx : accOk x = true
      · obtain ⟨a, rfl, ha⟩ := accOk_get hx
        rw [show frameV t a b = _ from if_pos ⟨h1, h2, hx⟩, Int.toNat_natCast]
        exact specFrame_at t a b w h1 h2 ha
      · rw [show frameV t x b = _ from if_neg fun h => hx h.2.2]
        have d1 : ¬ ((t.size : Int) < 1) := by omega
        have d2 : ¬ ((300 : Int) < (t.size : Int)) := by omega
        have c1 := specAccm x w
        rw [Bool.not_eq_true] at hx
        rw [hx] at c1
        go_enter Tryd.func18, Tryd.ntmps18
        go_wp2_with (first
          | (go_at_call 55; refine c1.mono ?_; rintro e w1 ⟨rfl, rfl⟩))
        go_ret
        exact ⟨rfl, Below.refl _ _⟩
    · rw [show frameV t x b = _ from if_neg fun h => h2 h.2.1]
      have d1 : ¬ ((t.size : Int) < 1) := by omega
      have d2 : (300 : Int) < (t.size : Int) := by omega
      go_enter Tryd.func18, Tryd.ntmps18
      go_wp2
      go_ret
      exact ⟨rfl, Below.refl _ _⟩
  · rw [show frameV t x b = _ from if_neg fun h => h1 h.1]
    have d1 : (t.size : Int) < 1 := by omega
    go_enter Tryd.func18, Tryd.ntmps18
    go_wp2
    go_ret
    exact ⟨rfl, Below.refl _ _⟩
end Go.Proofs.YtillpfcldehfdaaDoor
