/- Plain mathematics of check sums: shifting a sum by eight bits, the table of 256, sums over bytes, and their bounds; no condition but those named at each theorem. -/
namespace Go.Proofs.YtillpfcldehfdaaDoor
namespace Fcs
/-- One shift of a sum by one bit. -/
def step (r s : Nat) : Nat := if s % 2 = 1 then (s / 2) ^^^ r else s / 2
/-- Some shifts, one behind the other. -/
def stp (r : Nat) : Nat → Nat → Nat
  | 0, s => s
  | k + 1, s => step r (stp r k s)
/-- A sum behind some bytes. -/
def sumL (r s : Nat) (l : List UInt8) : Nat := l.foldl (fun s b => stp r 8 (s ^^^ b.toNat)) s

theorem step_eq (r s : Nat) : step r s = (s / 2) ^^^ (if s % 2 = 1 then r else 0) := by
  unfold step; split <;> simp

theorem xor_half (a b : Nat) : (a ^^^ b) / 2 = (a / 2) ^^^ (b / 2) := by
  have := Nat.shiftRight_xor_distrib (a := a) (b := b) (i := 1)
  simpa [Nat.shiftRight_eq_div_pow] using this
theorem xor_div256 (a b : Nat) : (a ^^^ b) / 256 = (a / 256) ^^^ (b / 256) := by
  have := Nat.shiftRight_xor_distrib (a := a) (b := b) (i := 8)
  simpa [Nat.shiftRight_eq_div_pow] using this
theorem xor_mod256 (a b : Nat) : (a ^^^ b) % 256 = (a % 256) ^^^ (b % 256) := by
  have := Nat.xor_mod_two_pow (a := a) (b := b) (n := 8)
  simpa using this
theorem xor_odd (a b : Nat) : (a ^^^ b) % 2 = (a + b) % 2 := by
  have h := Nat.xor_mod_two_pow (a := a) (b := b) (n := 1)
  rw [Nat.pow_one] at h
  rw [h]
  rcases Nat.mod_two_eq_zero_or_one a with ha | ha <;> rcases Nat.mod_two_eq_zero_or_one b with hb | hb <;> rw [ha, hb, Nat.add_mod, ha, hb] <;> decide

theorem step_even (r a b : Nat) : step r ((2 * a) ^^^ b) = a ^^^ step r b := by
  rw [step_eq, step_eq, xor_half, xor_odd]
  have e1 : 2 * a / 2 = a := by omega
  have e2 : (2 * a + b) % 2 = b % 2 := by omega
  rw [e1, e2, Nat.xor_assoc]

theorem stp_high (r : Nat) : ∀ (k a b : Nat), stp r k ((2 ^ k * a) ^^^ b) = a ^^^ stp r k b
  | 0, a, b => by simp [stp]
  | k + 1, a, b => by
    have e : 2 ^ (k + 1) * a = 2 ^ k * (2 * a) := by rw [Nat.pow_succ, Nat.mul_assoc]
    rw [stp, e, stp_high r k (2 * a) b, step_even, stp]

theorem split256 (s : Nat) : (2 ^ 8 * (s / 256)) ^^^ (s % 256) = s := by
  apply Nat.eq_of_testBit_eq
  intro i
  rw [Nat.testBit_xor, Nat.testBit_two_pow_mul]
  rw [show s % 256 = s % 2 ^ 8 from rfl, show s / 256 = s / 2 ^ 8 from rfl, Nat.testBit_mod_two_pow, Nat.testBit_div_two_pow]
  by_cases h : 8 ≤ i
  · have : ¬ i < 8 := by omega
    simp [h, this]
  · have : i < 8 := by omega
    simp [h, this]

/-- Eight shifts: the upper bits go down, the lowest byte decides what is put to them. -/
theorem stp8 (r s : Nat) : stp r 8 s = (s / 256) ^^^ stp r 8 (s % 256) := by
  have := stp_high r 8 (s / 256) (s % 256)
  rw [split256] at this
  exact this

theorem byte_div (b : Nat) (h : b < 256) : b / 256 = 0 := by omega
/-- The table's way of going on by one byte is the document's. -/
theorem table_step (r s b : Nat) (h : b < 256) : (s / 256) ^^^ stp r 8 ((s % 256) ^^^ b) = stp r 8 (s ^^^ b) := by
  rw [stp8 r (s ^^^ b), xor_div256, xor_mod256, byte_div b h, Nat.mod_eq_of_lt h, Nat.xor_zero]

theorem step_lt {n r s : Nat} (hr : r < 2 ^ n) (hs : s < 2 ^ n) : step r s < 2 ^ n := by
  rw [step_eq]
  refine Nat.xor_lt_two_pow (by omega) ?_
  split
  · exact hr
  · exact Nat.two_pow_pos n
theorem stp_lt {n r s : Nat} (hr : r < 2 ^ n) (hs : s < 2 ^ n) : ∀ k, stp r k s < 2 ^ n
  | 0 => hs
  | k + 1 => step_lt hr (stp_lt hr hs k)
theorem byte_lt_pow {n : Nat} (hn : 8 ≤ n) {b : Nat} (h : b < 256) : b < 2 ^ n :=
  Nat.lt_of_lt_of_le h (Nat.pow_le_pow_right (n := 2) (by decide) hn)
theorem sumL_lt {n r : Nat} (hn : 8 ≤ n) (hr : r < 2 ^ n) : ∀ (l : List UInt8) (s : Nat), s < 2 ^ n → sumL r s l < 2 ^ n
  | [], _, hs => hs
  | b :: l, _, hs => sumL_lt hn hr l _ (stp_lt hr (Nat.xor_lt_two_pow hs (byte_lt_pow hn b.toNat_lt)) 8)
theorem sumL_append (r s : Nat) (l m : List UInt8) : sumL r s (l ++ m) = sumL r (sumL r s l) m := by
  simp [sumL, List.foldl_append]
theorem sumL_snoc (r s : Nat) (l : List UInt8) (b : UInt8) : sumL r s (l ++ [b]) = stp r 8 (sumL r s l ^^^ b.toNat) := by
  simp [sumL, List.foldl_append]
end Fcs
end Go.Proofs.YtillpfcldehfdaaDoor
