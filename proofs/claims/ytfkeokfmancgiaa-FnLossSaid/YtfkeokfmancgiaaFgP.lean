/- How many pieces: the program's pieceCount; the model's l01Min; memory stands. -/
import Derived.Test.YtfkeokfmancgiaaFgA
namespace Go.Proofs.Ytfkeokfmancgiaa
open Go.RowKit
def cnt (L s : Nat) : Nat := max 1 ((L + s - 1) / s)
theorem cnt_int (L s : Nat) (hs : 1 ≤ s) : ((cnt L s : Nat) : Int) = max 1 (((L : Int) + (s : Int) - 1) / (s : Int)) := by
  have e : (L : Int) + (s : Int) - 1 = ((L + s - 1 : Nat) : Int) := by omega
  rw [e, ← Int.natCast_ediv]
  unfold cnt
  omega
theorem cnt_pos (L s : Nat) : 1 ≤ cnt L s := by unfold cnt; omega
/-- A piece that is not the last one is whole. -/
theorem cnt_lt {L s i : Nat} (hs : 1 ≤ s) (h : i + 1 < cnt L s) : i * s + s < L := by
  unfold cnt at h
  have h1 : i + 2 ≤ (L + s - 1) / s := by omega
  have h2 := (Nat.le_div_iff_mul_le (by omega : 0 < s)).1 h1
  have h3 : (i + 2) * s = i * s + s + s := by rw [Nat.add_mul]; omega
  omega
theorem cnt_end (L s : Nat) (hs : 1 ≤ s) : L ≤ cnt L s * s := by
  have h1 : (L + s - 1) / s ≤ cnt L s := by unfold cnt; omega
  have h2 := Nat.mul_le_mul_right s h1
  have h3 := Nat.div_add_mod (L + s - 1) s
  have h4 := Nat.mod_lt (L + s - 1) (show s > 0 by omega)
  rw [Nat.mul_comm] at h3
  omega
theorem cnt_at {L s i : Nat} (hs : 1 ≤ s) (h : i < cnt L s) : i * s ≤ L := by
  cases i with
  | zero => omega
  | succ i =>
    have := cnt_lt hs (i := i) h
    rw [Nat.add_mul, Nat.one_mul]
    omega
theorem cnt_last {L s i : Nat} (hs : 1 ≤ s) (h : i < cnt L s) : (i = cnt L s - 1) ↔ (L ≤ i * s + s) := by
  constructor
  · intro e
    have h1 := cnt_end L s hs
    have h2 := cnt_pos L s
    rw [show cnt L s = i + 1 by omega, Nat.add_mul, Nat.one_mul] at h1
    exact h1
  · intro e
    by_cases h1 : i + 1 < cnt L s
    · have := cnt_lt hs h1
      omega
    · omega
set_option maxHeartbeats 1000000 in
theorem iPieces (L s : Nat) (w : World) (hL : L ≤ 2000) (hs : 1 ≤ s ∧ s ≤ 200) : Calls Try.prog 34 #[.int .i64 L, .int .i64 s] w fun e w' => e = .returned (.int .i64 (cnt L s : Nat)) ∧ w' = w := by
  have h1 : 0 ≤ (L : Int) + (s : Int) - 1 := by omega
  have h2 : 0 < (s : Int) := by omega
  go_enter Try.func34, Try.ntmps34
  go_wp2
  · go_ret
    exact ⟨ret_int (by rw [cnt_int L s hs.1]; omega), rfl⟩
  · go_ret
    exact ⟨ret_int (by rw [cnt_int L s hs.1]; omega), rfl⟩
set_option maxHeartbeats 1000000 in
theorem sMin9 (x y : Int) (w : World) : Calls Try.prog 37 #[.int .i64 x, .int .i64 y] w fun e w' => e = .returned (.int .i64 (min x y)) ∧ w' = w := by
  by_cases h : x < y
  · rw [show min x y = x by omega]
    go_enter Try.func37, Try.ntmps37
    go_wp2
    go_ret
    exact ⟨rfl, rfl⟩
  · rw [show min x y = y by omega]
    go_enter Try.func37, Try.ntmps37
    go_wp2
    go_ret
    exact ⟨rfl, rfl⟩
theorem sMinN (a b : Nat) (w : World) : Calls Try.prog 37 #[.int .i64 a, .int .i64 b] w fun e w' => e = .returned (.int .i64 (min a b : Nat)) ∧ w' = w := by
  refine (sMin9 a b w).mono ?_
  rintro e w' ⟨rfl, rfl⟩
  exact ⟨ret_int (by omega), rfl⟩
/-- The pieces of a text. -/
def cutL (t : ByteArray) (s : Nat) (q : Int) (n : Nat) : List Fg := (List.range n).map fun (i : Nat) => ⟨q + (i : Int), ((i : Int) == 0), ((i : Int) == (n : Int) - 1), t.extract (i * s) (min (i * s + s) t.size)⟩
theorem cutL_len (t : ByteArray) (s : Nat) (q : Int) (n : Nat) : (cutL t s q n).length = n := by simp [cutL]
theorem cutL_get (t : ByteArray) (s : Nat) (q : Int) (n i : Nat) (h : i < n) : (cutL t s q n)[i]? = some ⟨q + (i : Int), ((i : Int) == 0), ((i : Int) == (n : Int) - 1), t.extract (i * s) (min (i * s + s) t.size)⟩ := by simp [cutL, h]
/-- May it be cut? -/
def cutOk (t : ByteArray) (z q : Int) : Prop := t.size ≤ 2000 ∧ (1 ≤ z ∧ z ≤ 200) ∧ (0 ≤ q ∧ q ≤ 16777215)
instance (t : ByteArray) (z q : Int) : Decidable (cutOk t z q) := by unfold cutOk; infer_instance
/-- What Cut answers. -/
def cutF (t : ByteArray) (z q : Int) : List Fg := if cutOk t z q then (if cnt t.size z.toNat ≤ 40 ∧ q + (cnt t.size z.toNat : Nat) - 1 ≤ 16777215 then cutL t z.toNat q (cnt t.size z.toNat) else []) else []
end Go.Proofs.Ytfkeokfmancgiaa
