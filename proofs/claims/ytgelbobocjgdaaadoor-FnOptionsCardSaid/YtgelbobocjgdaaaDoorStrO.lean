/- Small words of bytes and texts: cuts of a text, its first bytes; no condition. -/
import Derived.Test.YtgelbobocjgdaaaDoorLies
namespace Go.Proofs.YtgelbobocjgdaaaDoor
open Go.RowKit
theorem wrap_sm (x : Int) (h1 : 0 ≤ x) (h2 : x < 9223372036854775808) : wrap64 x = x := by unfold wrap64; omega
theorem wU8 (c : UInt8) : wrap64 (c.toNat : Int) = (c.toNat : Int) := wrap_sm _ (by omega) (by have := c.toNat_lt; omega)
theorem wMul (c : UInt8) : wrap64 (256 * (c.toNat : Int)) = 256 * (c.toNat : Int) := wrap_sm _ (by omega) (by have := c.toNat_lt; omega)
theorem wSum (c d : UInt8) : wrap64 (256 * (c.toNat : Int) + (d.toNat : Int)) = 256 * (c.toNat : Int) + (d.toNat : Int) := wrap_sm _ (by omega) (by have := c.toNat_lt; have := d.toNat_lt; omega)
theorem wU8a : ∀ c : UInt8, wrap64 (c.toNat : Int) = (c.toNat : Int) := wU8
theorem wI64a : ∀ c : UInt8, IntKind.i64.wrap (c.toNat : Int) = (c.toNat : Int) := fun c => by rw [IntKind.wrap_i64]; have := c.toNat_lt; omega
theorem four_of {t : ByteArray} (h : 4 ≤ t.size) : t.data.toList = t[0] :: t[1] :: t[2] :: t[3] :: t.data.toList.drop 4 := by
  have hl := len_dat t
  have e0 : t.data.toList = t[0] :: t.data.toList.drop 1 := List.drop_eq_getElem_cons (i := 0) (l := t.data.toList) (by omega)
  have e1 : t.data.toList.drop 1 = t[1] :: t.data.toList.drop 2 := List.drop_eq_getElem_cons (i := 1) (by omega)
  have e2 : t.data.toList.drop 2 = t[2] :: t.data.toList.drop 3 := List.drop_eq_getElem_cons (i := 2) (by omega)
  have e3 : t.data.toList.drop 3 = t[3] :: t.data.toList.drop 4 := List.drop_eq_getElem_cons (i := 3) (by omega)
  rw [← e3, ← e2, ← e1]
  exact e0
theorem txt_ext (t : ByteArray) (m n : Nat) : t.extract m n = txt ((t.data.toList.drop m).take (n - m)) := by
  apply ByteArray.ext
  apply Array.ext'
  simp only [txt, ByteArray.data_extract, Array.toList_extract, List.extract_eq_take_drop]
theorem txt_end (U : ByteArray) (n : Nat) : U.extract n U.size = txt (U.data.toList.drop n) := by
  have hl := len_dat U
  rw [txt_ext, List.take_of_length_le (by rw [List.length_drop]; omega)]
theorem two_of {t : ByteArray} (h : 2 ≤ t.size) : t.data.toList = t[0] :: t[1] :: t.data.toList.drop 2 := by
  have hl := len_dat t
  have e0 : t.data.toList = t[0] :: t.data.toList.drop 1 := List.drop_eq_getElem_cons (i := 0) (l := t.data.toList) (by omega)
  have e1 : t.data.toList.drop 1 = t[1] :: t.data.toList.drop 2 := List.drop_eq_getElem_cons (i := 1) (by omega)
  rw [← e1]
  exact e0
end Go.Proofs.YtgelbobocjgdaaaDoor
