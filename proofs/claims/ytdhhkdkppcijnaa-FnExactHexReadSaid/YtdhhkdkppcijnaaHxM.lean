/- Hex of a text, as mathematics: each byte as two digits; and the digit at a place of the text of digits; no condition. -/
import Derived.Test.YtdhhkdkppcijnaaTxt
import Derived.Test.YtdhhkdkppcijnaaInts
namespace Go.Proofs.Ytdhhkdkppcijnaa
open Go.RowKit
/-- The sixteen digits. -/
def hxD : List UInt8 := [48, 49, 50, 51, 52, 53, 54, 55, 56, 57, 97, 98, 99, 100, 101, 102]
/-- The digit of a number. -/
def dg (n : Nat) : UInt8 := hxD.getD n 0
def hex1 (c : UInt8) : List UInt8 := [dg (c.toNat / 16), dg (c.toNat % 16)]
def hexL (l : List UInt8) : List UInt8 := l.flatMap hex1
theorem hexL_snoc (l : List UInt8) (c : UInt8) : hexL (l ++ [c]) = hexL l ++ hex1 c := by simp [hexL]
theorem hexL_len (l : List UInt8) : (hexL l).length = 2 * l.length := by
  induction l with
  | nil => rfl
  | cons c l ih =>
    show (hex1 c ++ hexL l).length = _
    rw [List.length_append, ih, List.length_cons]
    show 2 + _ = _
    omega
/-- What Hex answers. -/
def hexV (t : ByteArray) : ByteArray := if t.size ≤ 4000 then txt (hexL t.data.toList) else ⟨#[]⟩
/-- The text of the digits. -/
def hxS : ByteArray := ⟨#[48, 49, 50, 51, 52, 53, 54, 55, 56, 57, 97, 98, 99, 100, 101, 102]⟩
theorem dg_at (n : Nat) (h : n < 16) : ∀ g, hxS[n]'g = dg n := by
  have : n = 0 ∨ n = 1 ∨ n = 2 ∨ n = 3 ∨ n = 4 ∨ n = 5 ∨ n = 6 ∨ n = 7 ∨ n = 8 ∨ n = 9 ∨ n = 10 ∨ n = 11 ∨ n = 12 ∨ n = 13 ∨ n = 14 ∨ n = 15 := by omega
  rcases this with rfl | rfl | rfl | rfl | rfl | rfl | rfl | rfl | rfl | rfl | rfl | rfl | rfl | rfl | rfl | rfl <;> intro _ <;> rfl
theorem dg_index (n : Nat) (h : n < 16) (W : World) : (Instr.index 9 (.string ⟨#[48, 49, 50, 51, 52, 53, 54, 55, 56, 57, 97, 98, 99, 100, 101, 102]⟩) (.int .u8 (n : Int))).run Try.prog W = .ok (.int .u8 ((dg n).toNat : Int)) W := by
  have hs : (hxS.size : Int) = 16 := rfl
  show (Instr.index 9 (.string hxS) (.int .u8 (n : Int))).run Try.prog W = _
  have h1 : (0 : Int) ≤ (n : Int) ∧ (n : Int) < hxS.size := by omega
  rw [run_index_string _ _ _ _ _ Try.underlying9, dif_pos h1]
  simp only [Int.toNat_natCast, dg_at n h]
end Go.Proofs.Ytdhhkdkppcijnaa
