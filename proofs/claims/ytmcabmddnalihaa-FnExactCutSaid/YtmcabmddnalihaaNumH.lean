/- A number of up to four bytes, the highest first: the program's highestFirst, the model's l05Get; what lay in memory stands. -/
import Derived.Test.YtmcabmddnalihaaLies
namespace Go.Proofs.Ytmcabmddnalihaa
open Go.RowKit
theorem numOf_go (l : List UInt8) (n : Nat) : l.foldl (fun n c => 256 * n + c.toNat) n < (n + 1) * 256 ^ l.length := by
  induction l generalizing n with
  | nil => simp
  | cons c l ih =>
    have h := ih (256 * n + c.toNat)
    have hc := c.toNat_lt
    rw [List.foldl_cons, List.length_cons, Nat.pow_succ, Nat.mul_comm (256 ^ l.length) 256, ← Nat.mul_assoc]
    exact Nat.lt_of_lt_of_le h (Nat.mul_le_mul_right _ (by omega))
theorem numOf_lt (l : List UInt8) : numOf l < 256 ^ l.length := by
  have := numOf_go l 0
  rw [Nat.zero_add, Nat.one_mul] at this
  exact this
theorem numOf_lt3 (l : List UInt8) (h : l.length < 4) : numOf l < 16777216 := by
  have h1 := numOf_lt l
  have h2 : 256 ^ l.length ≤ 256 ^ 3 := Nat.pow_le_pow_right (by decide) (by omega)
  omega
theorem numOf_lt4 (l : List UInt8) (h : l.length ≤ 4) : numOf l < 4294967296 := by
  have h1 := numOf_lt l
  have h2 : 256 ^ l.length ≤ 256 ^ 4 := Nat.pow_le_pow_right (by decide) h
  omega
theorem or8w (a b : Nat) (ha : a < 16777216) (hb : b < 256) : bits .or .i64 ((a : Int) * 256) (b : Int) = ((256 * a + b : Nat) : Int) := by
  have h1 : a * 256 ||| b = a * 2 ^ 8 + b := by
    rw [Nat.mul_comm, show (256 : Nat) = 2 ^ 8 from rfl, ← Nat.two_pow_add_eq_or_of_lt (by omega), Nat.mul_comm]
  show IntKind.i64.wrap ((BitVec.ofInt 64 ((a : Int) * 256) ||| BitVec.ofInt 64 (b : Int)).toNat : Int) = _
  rw [show (a : Int) * 256 = ((a * 256 : Nat) : Int) by omega, BitVec.toNat_or, ofInt_u64 (a * 256) (by omega), ofInt_u64 b (by omega), h1, IntKind.wrap_i64]
  omega
theorem i64_or_nat (a b : Nat) (ha : a < 4294967296) (hb : b < 4294967296) : bits .or .i64 (a : Int) (b : Int) = ((a ||| b : Nat) : Int) := by
  have h3 : a ||| b < 2 ^ 32 := Nat.or_lt_two_pow (by omega) (by omega)
  show IntKind.i64.wrap ((BitVec.ofInt 64 (a : Int) ||| BitVec.ofInt 64 (b : Int)).toNat : Int) = _
  rw [BitVec.toNat_or, ofInt_u64 a (by omega), ofInt_u64 b (by omega), IntKind.wrap_i64]
  omega
theorem numOf_snoc (l : List UInt8) (k : Nat) (hlt : k < l.length) : numOf (l.take (k + 1)) = 256 * numOf (l.take k) + l[k].toNat := by
  unfold numOf
  rw [List.take_succ_eq_append_getElem hlt, List.foldl_append]
  rfl
set_option maxHeartbeats 1000000 in
theorem highest4 (B off cap : Nat) (l : List UInt8) (w : World) (hl4 : l.length ≤ 4) (hl : Lies w B off l) :
    Calls Try.prog 36 #[.slice (some ⟨B, off, none⟩) l.length cap] w fun e w' => e = .returned (.int .i64 (numOf l : Nat)) ∧ w' = w := by
  go_enter Try.func36, Try.ntmps36
  go_wp2
  go_loop [3, 8] (fun n i => ∃ (k : Nat), k ≤ l.length ∧ i = .int .i64 k ∧ n = .int .i64 (numOf (l.take k) : Nat)) (fun _ i => l.length - (intOf i).toNat)
  case atStart => exact ⟨0, Nat.zero_le _, rfl, rfl⟩
  case round =>
    obtain ⟨k, hk, rfl, rfl⟩ := hrel
    by_cases hlt : k < l.length
    · have hc := hl k hlt
      have HS := hide (numOf_snoc l k hlt)
      have hn : numOf (l.take k) < 16777216 := numOf_lt3 _ (by rw [List.length_take]; omega)
      have ho := or8w (numOf (l.take k)) l[k].toNat hn l[k].toNat_lt
      have HW : Hid (wrap64 (l[k].toNat : Int) = (l[k].toNat : Int)) := hide (by have := l[k].toNat_lt; unfold wrap64; omega)
      generalize numOf (l.take k) = n at *
      have d1 : (k : Int) < (l.length : Int) := by omega
      clear hl
      go_wp2
      go_round
      case rel => exact ⟨k + 1, by omega, by go_num, by rw [unhide HW, ho, unhide HS]⟩
      case measure => simp [intOf]; omega
    · have HK := hide (List.take_of_length_le (l := l) (i := k) (by omega))
      have d1 : ¬ ((k : Int) < (l.length : Int)) := by omega
      go_wp2
      go_ret
      exact ⟨by rw [unhide HK]; rfl, rfl⟩
set_option maxHeartbeats 1000000 in
theorem specGetYes (t : ByteArray) (many : Nat) (w : World) (hm : many ≤ 4) (h : t.size = many) :
    Calls Try.prog 34 #[.string t, .int .i64 many] w fun e w' => e = .returned (.tuple #[.int .i64 (numOf t.data.toList : Nat), .bool true]) ∧ w' = w := by
  subst h
  have d0 : ((t.size : Int) == (t.size : Int)) = true := beq_self_eq_true _
  go_enter Try.func34, Try.ntmps34
  go_wp2_with fail
  go_loop [6, 7] (fun n i => ∃ k : Nat, k ≤ t.size ∧ i = .int .i64 k ∧ n = .int .i64 (numOf (t.data.toList.take k) : Nat)) (fun _ i => t.size - (intOf i).toNat)
  case atStart => exact ⟨0, Nat.zero_le _, rfl, rfl⟩
  case round =>
    obtain ⟨k, hk, rfl, rfl⟩ := hrel
    by_cases hlt : k < t.size
    · have hl2 : k < t.data.toList.length := by rw [len_dat]; exact hlt
      have HS : Hid (numOf (t.data.toList.take (k + 1)) = 256 * numOf (t.data.toList.take k) + (t[k]'hlt).toNat) := hide (numOf_snoc t.data.toList k hl2)
      have hn : numOf (t.data.toList.take k) < 16777216 := numOf_lt3 _ (by rw [List.length_take]; omega)
      have hc := (t[k]'hlt).toNat_lt
      generalize numOf (t.data.toList.take k) = n at *
      have d1 : decide ((k : Int) < (t.size : Int)) = true := decide_eq_true (by omega)
      clear hl2
      go_wp2
      go_round
      case rel => exact ⟨k + 1, by omega, by go_num, by rw [unhide HS]; congr 1⟩
      case measure => simp [intOf]; omega
    · have e : k = t.size := by omega
      subst e
      have HK := hide (List.take_of_length_le (l := t.data.toList) (i := t.size) (by rw [len_dat]; omega))
      have d1 : decide ((t.size : Int) < (t.size : Int)) = false := decide_eq_false (by omega)
      go_wp2
      go_ret2
      exact ⟨by rw [unhide HK]; rfl, rfl⟩
end Go.Proofs.Ytmcabmddnalihaa
