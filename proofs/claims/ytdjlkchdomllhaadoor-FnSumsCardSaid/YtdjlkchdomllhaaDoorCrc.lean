/- Plain mathematics of check sums: a sum behind a text and its Tail is always the same one; a text with one byte turned has another sum; so what is Good is no longer so with one byte turned. -/
import Derived.Test.YtdjlkchdomllhaaDoorGoodImpl
namespace Go.Proofs.YtdjlkchdomllhaaDoor
namespace Fcs
theorem stp_add (r s : Nat) (j : Nat) : ∀ k, stp r (j + k) s = stp r k (stp r j s)
  | 0 => rfl
  | k + 1 => by
    rw [← Nat.add_assoc, stp, stp_add r s j k, stp]
/-- One byte of a number is fed. -/
theorem feed (r s m k : Nat) : stp r (8 + k) (s ^^^ m) = stp r k (stp r 8 (s ^^^ m % 256) ^^^ m / 256) := by
  have e : s ^^^ m = (2 ^ 8 * (m / 256)) ^^^ (s ^^^ m % 256) := by
    have := split256 m
    calc s ^^^ m = s ^^^ ((2 ^ 8 * (m / 256)) ^^^ (m % 256)) := by rw [this]
      _ = _ := by rw [← Nat.xor_assoc, ← Nat.xor_assoc, Nat.xor_comm s]
  rw [stp_add, e, stp_high, Nat.xor_comm]
theorem step_inj {n r a b : Nat} (hr : r < 2 ^ (n + 1)) (hr2 : 2 ^ n ≤ r) (ha : a < 2 ^ (n + 1)) (hb : b < 2 ^ (n + 1)) (h : step r a = step r b) : a = b := by
  have top : r.testBit n = true := by
    rw [Nat.testBit_eq_decide_div_mod_eq]
    have : r / 2 ^ n = 1 := Nat.div_eq_of_lt_le (by omega) (by rw [Nat.pow_succ] at hr; omega)
    simp [this]
  have low : ∀ c, c < 2 ^ (n + 1) → (c / 2).testBit n = false := fun c hc => Nat.testBit_lt_two_pow (by rw [Nat.pow_succ] at hc; omega)
  have bit : ∀ c, c < 2 ^ (n + 1) → (step r c).testBit n = decide (c % 2 = 1) := fun c hc => by
    rw [step_eq, Nat.testBit_xor, low c hc]
    by_cases ho : c % 2 = 1
    · simp [ho, top]
    · simp [ho]
  have hpar : decide (a % 2 = 1) = decide (b % 2 = 1) := by rw [← bit a ha, ← bit b hb, h]
  rw [step_eq, step_eq] at h
  by_cases ho : a % 2 = 1
  · have ho' : b % 2 = 1 := by simpa [ho] using hpar
    rw [if_pos ho, if_pos ho'] at h
    have : a / 2 = b / 2 := by
      have := congrArg (· ^^^ r) h
      simpa [Nat.xor_assoc] using this
    omega
  · have ho' : ¬ b % 2 = 1 := by simpa [ho] using hpar
    rw [if_neg ho, if_neg ho', Nat.xor_zero, Nat.xor_zero] at h
    omega
theorem stp_inj {n r : Nat} (hr : r < 2 ^ (n + 1)) (hr2 : 2 ^ n ≤ r) : ∀ (k : Nat) {a b : Nat}, a < 2 ^ (n + 1) → b < 2 ^ (n + 1) → stp r k a = stp r k b → a = b
  | 0, _, _, _, _, h => h
  | k + 1, _, _, ha, hb, h => stp_inj hr hr2 k ha hb (step_inj hr hr2 (stp_lt hr ha k) (stp_lt hr hb k) h)
theorem xor_left {s a b : Nat} (h : s ^^^ a = s ^^^ b) : a = b := by
  have := congrArg (s ^^^ ·) h
  simpa [← Nat.xor_assoc] using this
theorem xor_right {s a b : Nat} (h : a ^^^ s = b ^^^ s) : a = b := by
  rw [Nat.xor_comm a, Nat.xor_comm b] at h
  exact xor_left h
theorem sumL_inj {n r : Nat} (hn : 8 ≤ n + 1) (hr : r < 2 ^ (n + 1)) (hr2 : 2 ^ n ≤ r) : ∀ (l : List UInt8) {a b : Nat}, a < 2 ^ (n + 1) → b < 2 ^ (n + 1) → sumL r a l = sumL r b l → a = b
  | [], _, _, _, _, h => h
  | c :: l, a, b, ha, hb, h => by
    have xa := Nat.xor_lt_two_pow ha (byte_lt_pow hn c.toNat_lt)
    have xb := Nat.xor_lt_two_pow hb (byte_lt_pow hn c.toNat_lt)
    exact xor_right (stp_inj hr hr2 8 xa xb (sumL_inj hn hr hr2 l (stp_lt hr xa 8) (stp_lt hr xb 8) h))
/-- Another byte, another sum. -/
theorem sumL_turn {n r s : Nat} (hn : 8 ≤ n + 1) (hr : r < 2 ^ (n + 1)) (hr2 : 2 ^ n ≤ r) (hs : s < 2 ^ (n + 1)) (l m : List UInt8) (c d : UInt8) (h : c ≠ d) :
    sumL r s (l ++ c :: m) ≠ sumL r s (l ++ d :: m) := by
  intro e
  rw [sumL_append, sumL_append] at e
  have hq := sumL_lt hn hr l s hs
  have xc := Nat.xor_lt_two_pow hq (byte_lt_pow hn c.toNat_lt)
  have xd := Nat.xor_lt_two_pow hq (byte_lt_pow hn d.toNat_lt)
  have e2 := xor_left (stp_inj hr hr2 8 xc xd (sumL_inj hn hr hr2 m (stp_lt hr xc 8) (stp_lt hr xd 8) e))
  exact h (UInt8.toNat_inj.1 e2)
end Fcs
open Go.RowKit

/-- The rule, the first sum, and the sum behind a text and its Tail. -/
def ruleB (b : Bool) : Nat := if b then 3988292384 else 33800
def initB (b : Bool) : Nat := if b then 4294967295 else 65535
def residB (b : Bool) : Nat := if b then 3736805603 else 61624
theorem tail_data2 (q : Nat) (h : q < 65536) : (strOfNums (tail2 q)).data.toList = [UInt8.ofNat ((65535 - q) % 256), UInt8.ofNat ((65535 - q) / 256)] := by
  have e0 : ((65535 - q : Int) % 256).toNat = (65535 - q) % 256 := by omega
  have e1 : ((65535 - q : Int) / 256).toNat = (65535 - q) / 256 := by omega
  simp [strOfNums, tail2, e0, e1]
theorem tail_data4 (q : Nat) (h : q < 4294967296) : (strOfNums (tail4 q)).data.toList = [UInt8.ofNat ((4294967295 - q) % 256), UInt8.ofNat ((4294967295 - q) / 256 % 256), UInt8.ofNat ((4294967295 - q) / 65536 % 256), UInt8.ofNat ((4294967295 - q) / 16777216)] := by
  have e0 : ((4294967295 - q : Int) % 256).toNat = (4294967295 - q) % 256 := by omega
  have e1 : ((4294967295 - q : Int) / 256 % 256).toNat = (4294967295 - q) / 256 % 256 := by omega
  have e2 : ((4294967295 - q : Int) / 65536 % 256).toNat = (4294967295 - q) / 65536 % 256 := by omega
  have e3 : ((4294967295 - q : Int) / 16777216).toNat = (4294967295 - q) / 16777216 := by omega
  simp [strOfNums, tail4, e0, e1, e2, e3]
theorem ofNat_toNat {k : Nat} (h : k < 256) : (UInt8.ofNat k).toNat = k := by simp; omega
theorem xor_flip (n s : Nat) (h : s < 2 ^ n) : s ^^^ (2 ^ n - 1 - s) = 2 ^ n - 1 := by
  rw [← ones_xor n s h, Nat.xor_comm (2 ^ n - 1), ← Nat.xor_assoc, Nat.xor_self, Nat.zero_xor]
theorem resid2 (q : Nat) (h : q < 65536) : Fcs.sumL 33800 q [UInt8.ofNat ((65535 - q) % 256), UInt8.ofNat ((65535 - q) / 256)] = 61624 := by
  have hx := xor_flip 16 q h
  have f1 := Fcs.feed 33800 q (65535 - q) 8
  have e1 : q ^^^ (65535 - q) = 65535 := hx
  rw [e1] at f1
  show Fcs.stp 33800 8 (Fcs.stp 33800 8 (q ^^^ (UInt8.ofNat ((65535 - q) % 256)).toNat) ^^^ (UInt8.ofNat ((65535 - q) / 256)).toNat) = 61624
  rw [ofNat_toNat (by omega), ofNat_toNat (by omega), ← f1]
  decide
theorem resid4 (q : Nat) (h : q < 4294967296) : Fcs.sumL 3988292384 q [UInt8.ofNat ((4294967295 - q) % 256), UInt8.ofNat ((4294967295 - q) / 256 % 256), UInt8.ofNat ((4294967295 - q) / 65536 % 256), UInt8.ofNat ((4294967295 - q) / 16777216)] = 3736805603 := by
  have e1 : q ^^^ (4294967295 - q) = 4294967295 := xor_flip 32 q h
  generalize hm : 4294967295 - q = m at *
  have f1 := Fcs.feed 3988292384 q m 24
  rw [e1] at f1
  have f2 := Fcs.feed 3988292384 (Fcs.stp 3988292384 8 (q ^^^ m % 256)) (m / 256) 16
  have f3 := Fcs.feed 3988292384 (Fcs.stp 3988292384 8 (Fcs.stp 3988292384 8 (q ^^^ m % 256) ^^^ m / 256 % 256)) (m / 65536) 8
  have d1 : m / 256 / 256 = m / 65536 := by omega
  have d2 : m / 65536 / 256 = m / 16777216 := by omega
  rw [d1] at f2
  rw [d2] at f3
  show Fcs.stp 3988292384 8 (Fcs.stp 3988292384 8 (Fcs.stp 3988292384 8 (Fcs.stp 3988292384 8 (q ^^^ (UInt8.ofNat (m % 256)).toNat) ^^^ (UInt8.ofNat (m / 256 % 256)).toNat) ^^^ (UInt8.ofNat (m / 65536 % 256)).toNat) ^^^ (UInt8.ofNat (m / 16777216)).toNat) = 3736805603
  rw [ofNat_toNat (by omega), ofNat_toNat (by omega), ofNat_toNat (by omega), ofNat_toNat (by omega), ← f3, ← f2, ← f1]
  decide +kernel
/-- Behind a text and its Tail the sum is always the same one. -/
theorem resid (l : List UInt8) (b : Bool) : Fcs.sumL (ruleB b) (initB b) (l ++ (tailB l b).data.toList) = residB b := by
  rw [Fcs.sumL_append]
  cases b
  · have hq := sumL_lt16 33800 65535 l (by decide) (by decide)
    show Fcs.sumL 33800 (Fcs.sumL 33800 65535 l) (strOfNums (tail2 (Fcs.sumL 33800 65535 l))).data.toList = 61624
    rw [tail_data2 _ hq, resid2 _ hq]
  · have hq := sumL_lt32 3988292384 4294967295 l (by decide) (by decide)
    show Fcs.sumL 3988292384 (Fcs.sumL 3988292384 4294967295 l) (strOfNums (tail4 (Fcs.sumL 3988292384 4294967295 l))).data.toList = 3736805603
    rw [tail_data4 _ hq, resid4 _ hq]
theorem tailB_len (l : List UInt8) (b : Bool) : (tailB l b).data.toList.length = tailN b := by
  cases b
  · show (strOfNums (tail2 _)).data.toList.length = 2
    simp [strOfNums, tail2]
  · show (strOfNums (tail4 _)).data.toList.length = 4
    simp [strOfNums, tail4]
theorem extract_list (s : ByteArray) (i j : Nat) : (s.extract i j).data.toList = (s.data.toList.drop i).take (j - i) := by
  rw [ByteArray.data_extract, Array.toList_extract, List.extract_eq_take_drop]
theorem ba_ext {a b : ByteArray} (h : a.data.toList = b.data.toList) : a = b := by
  cases a; cases b; congr 1; exact Array.toList_inj.1 h

/-- A text and its Tail behind it is Good. -/
theorem good_tail (t u : ByteArray) (b : Bool) (ht : t.size ≤ 7996) (hu : u.data.toList = t.data.toList ++ (tailB t.data.toList b).data.toList) : goodV u b = true := by
  have hl := tailB_len t.data.toList b
  have hus : u.size = t.size + tailN b := by
    have := congrArg List.length hu
    simp only [List.length_append, Array.length_toList] at this
    rw [Array.length_toList] at hl
    rw [hl] at this
    exact this
  have h4 := tailN_le b
  unfold goodV
  rw [if_pos ⟨by omega, by omega⟩]
  have e0 : u.size - tailN b = t.size := by omega
  have ts : t.data.toList.length = t.size := by simp
  have e1 : u.extract 0 (u.size - tailN b) = t := ba_ext (by
    rw [extract_list, e0, hu, List.drop_zero, Nat.sub_zero, ← ts]
    exact List.take_left)
  have e2 : u.extract (u.size - tailN b) u.size = tailB t.data.toList b := ba_ext (by
    rw [extract_list, e0, hu, List.drop_append_of_le_length (by omega), List.drop_of_length_le (by omega), List.nil_append]
    exact List.take_of_length_le (by omega))
  have e3 : tailV t b = tailB t.data.toList b := if_pos (by omega)
  rw [e1, e2, e3]
  simp
/-- The sum behind what is Good. -/
theorem good_resid (u : ByteArray) (b : Bool) (h : goodV u b = true) : Fcs.sumL (ruleB b) (initB b) u.data.toList = residB b := by
  unfold goodV at h
  split at h
  · rename_i hc
    have e := eq_of_beq h
    rw [Lib.toList_data, Lib.toList_data] at e
    have e3 : tailV (u.extract 0 (u.size - tailN b)) b = tailB (u.extract 0 (u.size - tailN b)).data.toList b := if_pos (by rw [extract_size u _ (by omega)]; omega)
    rw [e3] at e
    have hsplit : u.data.toList = (u.extract 0 (u.size - tailN b)).data.toList ++ (u.extract (u.size - tailN b) u.size).data.toList := by
      rw [extract_list, extract_list, List.drop_zero, Nat.sub_zero]
      conv => lhs; rw [← List.take_append_drop (u.size - tailN b) u.data.toList]
      congr 1
      exact (List.take_of_length_le (by simp)).symm
    rw [hsplit, e]
    exact resid _ b
  · cases h
/-- With one byte turned it is Good no more. -/
theorem good_turn (u v : ByteArray) (b : Bool) (l m : List UInt8) (c d : UInt8) (hu : u.data.toList = l ++ c :: m) (hv : v.data.toList = l ++ d :: m) (hcd : c ≠ d) (h : goodV u b = true) : goodV v b = false := by
  cases hg : goodV v b with
  | false => rfl
  | true =>
    have h1 := good_resid u b h
    have h2 := good_resid v b hg
    rw [hu] at h1
    rw [hv, ← h1] at h2
    cases b
    · exact absurd h2.symm (Fcs.sumL_turn (n := 15) (by decide) (by decide) (by decide) (by decide) l m c d hcd)
    · exact absurd h2.symm (Fcs.sumL_turn (n := 31) (by decide) (by decide) (by decide) (by decide) l m c d hcd)
end Go.Proofs.YtdjlkchdomllhaaDoor
