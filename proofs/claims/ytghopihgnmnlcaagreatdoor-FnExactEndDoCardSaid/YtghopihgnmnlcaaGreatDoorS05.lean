/- Bytes that lie in memory, read as a number, as a text ; a text as bytes of its own; what lay in memory stands. A number of up to four bytes, the highest first: the program's numberOf, the model's l05Get; the number of bytes, and what bits of numbers are; what lay in memory stands. How many bytes an option of a kind has; no condition. How a line is by the options that were agreed to; what each rule of the program makes of a line; what lay in memory stands. The six cells of a block of six; no condition. Rows of two cells, and two blocks made one behind the other. -/
import Derived.Test.YtghopihgnmnlcaaGreatDoorS00
import Derived.Deep.DeepCutAuto
import Derived.Lib.AppendStr
import Derived.ArgAppend
import Derived.Test.YtghopihgnmnlcaaGreatDoorS04
import Derived.Deep.WholeRow
import Derived.Laws.ResultCell
import Derived.Deep.RegionHeld3
namespace Go.Proofs.YtghopihgnmnlcaaGreatDoor
open Go.RowKit
theorem len_dat (t : ByteArray) : t.data.toList.length = t.size := by rw [Array.length_toList]; rfl
/-- These bytes lie here. -/
def Lies (w : World) (B off : Nat) (l : List UInt8) : Prop := ∀ i (h : i < l.length), w.cell? ⟨B, off + i, none⟩ = some (.int .u8 l[i].toNat)
theorem Lies.below {w w' : World} {B off N : Nat} {l : List UInt8} (h : Lies w B off l) (hb : Below N w w') (hB : B < N) : Lies w' B off l :=
  fun i hi => (hb.cell (p := ⟨B, off + i, none⟩) hB).trans (h i hi)
theorem Lies.drop {w : World} {B off : Nat} {l : List UInt8} (h : Lies w B off l) (n : Nat) : Lies w B (off + n) (l.drop n) := fun i hi => by
  rw [List.length_drop] at hi
  rw [Nat.add_assoc, h (n + i) (by omega)]
  simp
theorem or8 (a b : Nat) (ha : a < 256) (hb : b < 256) : bits .or .i64 ((a : Int) * 256) (b : Int) = ((256 * a + b : Nat) : Int) := by
  have h1 : a * 256 ||| b = a * 2 ^ 8 + b := by
    rw [Nat.mul_comm, show (256 : Nat) = 2 ^ 8 from rfl, ← Nat.two_pow_add_eq_or_of_lt (by omega), Nat.mul_comm]
  show IntKind.i64.wrap ((BitVec.ofInt 64 ((a : Int) * 256) ||| BitVec.ofInt 64 (b : Int)).toNat : Int) = _
  rw [show (a : Int) * 256 = ((a * 256 : Nat) : Int) by omega, BitVec.toNat_or, ofInt_u64 (a * 256) (by omega), ofInt_u64 b (by omega), h1, IntKind.wrap_i64]
  omega
/-- The number of some bytes, the highest first. -/
def numOf (l : List UInt8) : Nat := l.foldl (fun n c => 256 * n + c.toNat) 0
set_option maxHeartbeats 1000000 in
theorem highest (B off cap : Nat) (l : List UInt8) (w : World) (hl2 : l.length ≤ 2) (hl : Lies w B off l) :
    Calls Tryz.prog 153 #[.slice (some ⟨B, off, none⟩) l.length cap] w fun e w' => e = .returned (.int .i64 (numOf l : Nat)) ∧ w' = w := by
  go_enter Tryz.func153, Tryz.ntmps153
  go_wp2
  go_loop [3, 8] (fun n i => ∃ (k : Nat), k ≤ l.length ∧ i = .int .i64 k ∧ n = .int .i64 (numOf (l.take k) : Nat)) (fun _ i => l.length - (intOf i).toNat)
  case atStart => exact ⟨0, Nat.zero_le _, rfl, rfl⟩
  case round =>
    obtain ⟨k, hk, rfl, rfl⟩ := hrel
    by_cases hlt : k < l.length
    · have hc := hl k hlt
      have HS : Hid (numOf (l.take (k + 1)) = 256 * numOf (l.take k) + l[k].toNat) := hide (by unfold numOf; rw [List.take_succ_eq_append_getElem hlt, List.foldl_append]; rfl)
      have hk2 : k < 2 := by omega
      have hn : numOf (l.take k) < 256 := by
        rcases l with _ | ⟨c, _ | ⟨d, r⟩⟩
        · simp at hlt
        · simp at hlt
          subst hlt
          simp [numOf]
        · have := c.toNat_lt
          rcases Nat.lt_or_ge k 1 with h | h
          · have hk0 : k = 0 := by omega
            subst hk0
            simp [numOf]
          · have hk1 : k = 1 := by omega
            subst hk1
            simpa [numOf] using this
      have ho := or8 (numOf (l.take k)) l[k].toNat hn l[k].toNat_lt
      have HW : Hid (wrap64 (l[k].toNat : Int) = (l[k].toNat : Int)) := hide (by have := l[k].toNat_lt; unfold wrap64; omega)
      generalize numOf (l.take k) = n at *
      have d1 : (k : Int) < (l.length : Int) := by omega
      clear hl
      go_wp2
      go_round
      case rel => exact ⟨k + 1, by omega, by go_num, by rw [unhide HW, ho, unhide HS]⟩
      case measure => simp [intOf]; omega
    · have HK := hide (List.take_of_length_le (l := l) (i := k) (by omega))
      have d1 : ¬ ((k : Int) < (l.length : Int)) := by omega
      go_wp2
      go_ret
      exact ⟨by rw [unhide HK]; rfl, rfl⟩
/-- A text as bytes of its own. -/
theorem bytes_of (t : ByteArray) (W : World) : ∃ cap W', (convert 9 22 (.string t)).run Tryz.prog W = .ok (.slice (some ⟨W.heap.size, 0, none⟩) t.data.toList.length cap) W' ∧ t.data.toList.length ≤ cap ∧ Lies W' W.heap.size 0 t.data.toList ∧ Below W.heap.size W W' ∧ W.heap.size < W'.heap.size := by
  have h := run_bytes_of_string (P := Tryz.prog) W 9 22 5 t Tryz.underlying9 Tryz.underlying22 Tryz.underlying5
  have hg := grownCap_ge W t.size 0 5
  refine ⟨_, _, by rw [len_dat]; exact h, by rw [len_dat]; omega, ?_, (Below.refl _ _).drew.alloc (Nat.le_refl _) _, by simp⟩
  intro i hi
  have hh : (W.drew.alloc (.cells (bytesRow t (grownCap W t.size 0 5)) 5 ((bytesRow t (grownCap W t.size 0 5)).size, (bytesRow t (grownCap W t.size 0 5)).size + 1))).heap[W.heap.size]? = _ := heap_alloc_new W.drew _
  rw [cell_of_row _ _ _ _ _ _ hh]
  have hi' : i < t.size := by rw [← len_dat]; exact hi
  simp [bytesRow, Array.getElem?_append, hi']
theorem conv_lies {w : World} {B off : Nat} {l : List UInt8} (h : Lies w B off l) {cap : Nat} : (convert 22 9 (.slice (some ⟨B, off, none⟩) l.length cap)).run Tryz.prog w = .ok (.string (txt l)) w :=
  run_convert_bytes_back (P := Tryz.prog) w 22 9 5 ⟨B, off, none⟩ cap l Tryz.underlying22 Tryz.underlying5 Tryz.underlying9 (fun j hj => by rw [Addr.add_lit]; exact h j hj)
end Go.Proofs.YtghopihgnmnlcaaGreatDoor
namespace Go.Proofs.YtghopihgnmnlcaaGreatDoor
open Go.RowKit
theorem numOf_go (l : List UInt8) (n : Nat) : l.foldl (fun n c => 256 * n + c.toNat) n < (n + 1) * 256 ^ l.length := by
  induction l generalizing n with
  | nil => simp
  | cons c l ih =>
    have h := ih (256 * n + c.toNat)
    have hc := c.toNat_lt
    rw [List.foldl_cons, List.length_cons, Nat.pow_succ, Nat.mul_comm (256 ^ l.length) 256, ← Nat.mul_assoc]
    exact Nat.lt_of_lt_of_le h (Nat.mul_le_mul_right _ (by omega))
theorem numOf_lt (l : List UInt8) : numOf l < 256 ^ l.length := by
  have := numOf_go l 0
  rw [Nat.zero_add, Nat.one_mul] at this
  exact this
theorem numOf_lt3 (l : List UInt8) (h : l.length < 4) : numOf l < 16777216 := by
  have h1 := numOf_lt l
  have h2 : 256 ^ l.length ≤ 256 ^ 3 := Nat.pow_le_pow_right (by decide) (by omega)
  omega
theorem numOf_lt4 (l : List UInt8) (h : l.length ≤ 4) : numOf l < 4294967296 := by
  have h1 := numOf_lt l
  have h2 : 256 ^ l.length ≤ 256 ^ 4 := Nat.pow_le_pow_right (by decide) h
  omega
theorem or8w (a b : Nat) (ha : a < 16777216) (hb : b < 256) : bits .or .i64 ((a : Int) * 256) (b : Int) = ((256 * a + b : Nat) : Int) := by
  have h1 : a * 256 ||| b = a * 2 ^ 8 + b := by
    rw [Nat.mul_comm, show (256 : Nat) = 2 ^ 8 from rfl, ← Nat.two_pow_add_eq_or_of_lt (by omega), Nat.mul_comm]
  show IntKind.i64.wrap ((BitVec.ofInt 64 ((a : Int) * 256) ||| BitVec.ofInt 64 (b : Int)).toNat : Int) = _
  rw [show (a : Int) * 256 = ((a * 256 : Nat) : Int) by omega, BitVec.toNat_or, ofInt_u64 (a * 256) (by omega), ofInt_u64 b (by omega), h1, IntKind.wrap_i64]
  omega
theorem i64_or_nat (a b : Nat) (ha : a < 4294967296) (hb : b < 4294967296) : bits .or .i64 (a : Int) (b : Int) = ((a ||| b : Nat) : Int) := by
  have h3 : a ||| b < 2 ^ 32 := Nat.or_lt_two_pow (by omega) (by omega)
  show IntKind.i64.wrap ((BitVec.ofInt 64 (a : Int) ||| BitVec.ofInt 64 (b : Int)).toNat : Int) = _
  rw [BitVec.toNat_or, ofInt_u64 a (by omega), ofInt_u64 b (by omega), IntKind.wrap_i64]
  omega
/-- All bits of one are in the other: said by 'and' and by 'or'. -/
theorem and_or (n a : Nat) : (n &&& a = a) ↔ (n ||| a = n) := by
  constructor
  · intro h
    apply Nat.eq_of_testBit_eq
    intro i
    have hi : (n &&& a).testBit i = a.testBit i := by rw [h]
    rw [Nat.testBit_and] at hi
    rw [Nat.testBit_or]
    revert hi
    cases n.testBit i <;> cases a.testBit i <;> simp
  · intro h
    apply Nat.eq_of_testBit_eq
    intro i
    have hi : (n ||| a).testBit i = n.testBit i := by rw [h]
    rw [Nat.testBit_or] at hi
    rw [Nat.testBit_and]
    revert hi
    cases n.testBit i <;> cases a.testBit i <;> simp
theorem numOf_snoc (l : List UInt8) (k : Nat) (hlt : k < l.length) : numOf (l.take (k + 1)) = 256 * numOf (l.take k) + l[k].toNat := by
  unfold numOf
  rw [List.take_succ_eq_append_getElem hlt, List.foldl_append]
  rfl
set_option maxHeartbeats 1000000 in
theorem highest4 (B off cap : Nat) (l : List UInt8) (w : World) (hl4 : l.length ≤ 4) (hl : Lies w B off l) :
    Calls Tryz.prog 153 #[.slice (some ⟨B, off, none⟩) l.length cap] w fun e w' => e = .returned (.int .i64 (numOf l : Nat)) ∧ w' = w := by
  go_enter Tryz.func153, Tryz.ntmps153
  go_wp2
  go_loop [3, 8] (fun n i => ∃ (k : Nat), k ≤ l.length ∧ i = .int .i64 k ∧ n = .int .i64 (numOf (l.take k) : Nat)) (fun _ i => l.length - (intOf i).toNat)
  case atStart => exact ⟨0, Nat.zero_le _, rfl, rfl⟩
  case round =>
    obtain ⟨k, hk, rfl, rfl⟩ := hrel
    by_cases hlt : k < l.length
    · have hc := hl k hlt
      have HS := hide (numOf_snoc l k hlt)
      have hn : numOf (l.take k) < 16777216 := numOf_lt3 _ (by rw [List.length_take]; omega)
      have ho := or8w (numOf (l.take k)) l[k].toNat hn l[k].toNat_lt
      have HW : Hid (wrap64 (l[k].toNat : Int) = (l[k].toNat : Int)) := hide (by have := l[k].toNat_lt; unfold wrap64; omega)
      generalize numOf (l.take k) = n at *
      have d1 : (k : Int) < (l.length : Int) := by omega
      clear hl
      go_wp2
      go_round
      case rel => exact ⟨k + 1, by omega, by go_num, by rw [unhide HW, ho, unhide HS]⟩
      case measure => simp [intOf]; omega
    · have HK := hide (List.take_of_length_le (l := l) (i := k) (by omega))
      have d1 : ¬ ((k : Int) < (l.length : Int)) := by omega
      go_wp2
      go_ret
      exact ⟨by rw [unhide HK]; rfl, rfl⟩
set_option maxHeartbeats 1000000 in
theorem numberOf (k : Int) (t : ByteArray) (w : World) (ht : t.size ≤ 4) :
    Calls Tryz.prog 137 #[.agg #[.int .i64 k, .string t]] w fun e w' => e = .returned (.int .i64 (numOf t.data.toList : Nat)) ∧ Below w.heap.size w w' := by
  have hq : ∃ q, w.alloc (.cells #[.int .i64 k, .string t] 118) = q := ⟨_, rfl⟩
  obtain ⟨q, hq⟩ := hq
  obtain ⟨cap, W', hcv, hcap, hli, hb, hs⟩ := bytes_of t q
  have C := hide (highest4 q.heap.size 0 cap t.data.toList W' (by rw [len_dat]; exact ht) hli)
  subst hq
  have HB : Hid (Below w.heap.size w W') := hide (((Below.refl _ _).alloc (Nat.le_refl _) _).trans (hb.mono (by simp)))
  have hs0 : (w.alloc (.cells #[.int .i64 k, .string t] 118)).heap.size = w.heap.size + 1 := by simp
  rw [hs0] at hcv C
  clear hb hs hli hcap hs0
  go_enter Tryz.func137, Tryz.ntmps137
  go_wp2_with fail
  refine (unhide C).mono ?_
  rintro e w2 ⟨rfl, rfl⟩
  go_wp2
  go_ret
  exact ⟨rfl, unhide HB⟩
set_option maxHeartbeats 1000000 in
theorem specGetNo (t : ByteArray) (many : Nat) (w : World) (ht : t.size ≤ 20) (h : t.size ≠ many) :
    Calls Tryz.prog 110 #[.string t, .int .i64 many] w fun e w' => e = .returned (.tuple #[.int .i64 0, .bool false]) ∧ w' = w := by
  have d0 : ((t.size : Int) == (many : Int)) = false := beq_eq_false_iff_ne.2 (by omega)
  by_cases h0 : 0 < t.size
  · have d1 : decide ((0 : Int) < (t.size : Int)) = true := decide_eq_true (by omega)
    go_enter Tryz.func110, Tryz.ntmps110
    go_wp2_with fail
    go_loop [6, 7] (fun n i => i = .int .i64 0 ∧ n = .int .i64 0) (fun _ _ => 0)
    case atStart => exact ⟨rfl, rfl⟩
    case round =>
      obtain ⟨rfl, rfl⟩ := hrel
      go_wp2
      go_ret2
      exact ⟨rfl, rfl⟩
  · have d1 : decide ((0 : Int) < (t.size : Int)) = false := decide_eq_false (by omega)
    go_enter Tryz.func110, Tryz.ntmps110
    go_wp2_with fail
    go_loop [6, 7] (fun n i => i = .int .i64 0 ∧ n = .int .i64 0) (fun _ _ => 0)
    case atStart => exact ⟨rfl, rfl⟩
    case round =>
      obtain ⟨rfl, rfl⟩ := hrel
      go_wp2
      go_ret2
      exact ⟨rfl, rfl⟩
set_option maxHeartbeats 1000000 in
theorem specGetYes (t : ByteArray) (many : Nat) (w : World) (hm : many ≤ 4) (h : t.size = many) :
    Calls Tryz.prog 110 #[.string t, .int .i64 many] w fun e w' => e = .returned (.tuple #[.int .i64 (numOf t.data.toList : Nat), .bool true]) ∧ w' = w := by
  subst h
  have d0 : ((t.size : Int) == (t.size : Int)) = true := beq_self_eq_true _
  go_enter Tryz.func110, Tryz.ntmps110
  go_wp2_with fail
  go_loop [6, 7] (fun n i => ∃ k : Nat, k ≤ t.size ∧ i = .int .i64 k ∧ n = .int .i64 (numOf (t.data.toList.take k) : Nat)) (fun _ i => t.size - (intOf i).toNat)
  case atStart => exact ⟨0, Nat.zero_le _, rfl, rfl⟩
  case round =>
    obtain ⟨k, hk, rfl, rfl⟩ := hrel
    by_cases hlt : k < t.size
    · have hl2 : k < t.data.toList.length := by rw [len_dat]; exact hlt
      have HS : Hid (numOf (t.data.toList.take (k + 1)) = 256 * numOf (t.data.toList.take k) + (t[k]'hlt).toNat) := hide (numOf_snoc t.data.toList k hl2)
      have hn : numOf (t.data.toList.take k) < 16777216 := numOf_lt3 _ (by rw [List.length_take]; omega)
      have hc := (t[k]'hlt).toNat_lt
      generalize numOf (t.data.toList.take k) = n at *
      have d1 : decide ((k : Int) < (t.size : Int)) = true := decide_eq_true (by omega)
      clear hl2
      go_wp2
      go_round
      case rel => exact ⟨k + 1, by omega, by go_num, by rw [unhide HS]; congr 1⟩
      case measure => simp [intOf]; omega
    · have e : k = t.size := by omega
      subst e
      have HK := hide (List.take_of_length_le (l := t.data.toList) (i := t.size) (by rw [len_dat]; omega))
      have d1 : decide ((t.size : Int) < (t.size : Int)) = false := decide_eq_false (by omega)
      go_wp2
      go_ret2
      exact ⟨by rw [unhide HK]; rfl, rfl⟩
end Go.Proofs.YtghopihgnmnlcaaGreatDoor
namespace Go.Proofs.YtghopihgnmnlcaaGreatDoor
/-- How many bytes an option of a kind has. -/
def sizeK (k : Int) : Option Nat := if k = 1 then some 2 else if k = 2 then some 4 else if k = 5 then some 4 else if k = 7 then some 0 else if k = 8 then some 0 else if k = 9 then some 1 else none
theorem sizeK_le {k : Int} {s : Nat} (h : sizeK k = some s) : s ≤ 4 := by
  unfold sizeK at h
  repeat' split at h
  all_goals first | (cases h; omega) | (cases h)
end Go.Proofs.YtghopihgnmnlcaaGreatDoor
namespace Go.Proofs.YtghopihgnmnlcaaGreatDoor
open Go.RowKit
/-- A line. -/
structure Ln where
  m : Nat
  a : Nat
  p : Bool
  c : Bool
  d : Bool
/-- A line's cells. -/
abbrev lnC (x : Ln) : Array Value := #[.int .i64 x.m, .int .i64 x.a, .bool x.p, .bool x.c, .bool x.d]
/-- What an option of a kind and a number makes of a line. -/
def lnK (k : Int) (x : Ln) (n : Nat) : Ln :=
  if k = 1 then (if within 64 300 (n : Int) = true then { x with m := n } else x) else if k = 2 then { x with a := n } else if k = 7 then { x with p := true } else if k = 8 then { x with c := true } else if k = 9 then { x with d := x.d || ((n : Int) == 4) } else x
/-- What an option makes of a line. -/
def lnOne (x : Ln) (o : Op.Opt) : Ln := if sizeK o.kind = some o.data.size then lnK o.kind x (numOf o.data.data.toList) else x
/-- The line of options. -/
def lineF (F : List Op.Opt) : Ln := F.foldl lnOne ⟨300, 4294967295, false, false, false⟩
def lineOf (F : List Op.Opt) : Ln := if Op.right F = true then lineF F else ⟨0, 0, false, false, false⟩
theorem lineF_snoc (F : List Op.Opt) (i : Nat) (hi : i < F.length) : lineF (F.take (i + 1)) = lnOne (lineF (F.take i)) F[i] := by
  unfold lineF
  rw [List.take_succ_eq_append_getElem hi, List.foldl_append]
  rfl
set_option maxHeartbeats 400000 in
theorem line1 (x : Ln) (n : Nat) (w : World) : Calls Tryz.prog 170 #[.agg (lnC x), .int .i64 n] w fun e w' => e = .returned (.agg (lnC (lnK 1 x n))) ∧ Below w.heap.size w w' := by
  have C := hide fun v => mruRight (n : Int) v
  obtain ⟨m, a, p, c, d⟩ := x
  unfold lnK
  rw [if_pos rfl]
  cases hq : within 64 300 (n : Int)
  · rw [if_neg (by decide)]
    rw [hq] at C
    unfold lnC
    dsimp only
    go_enter Tryz.func170, Tryz.ntmps170
    go_wp2_with (first | (go_at_call 111; refine (unhide C _).mono ?_; rintro e w1 ⟨rfl, rfl⟩))
    exact bodyPost_ret (v := .agg #[.int .i64 m, .int .i64 a, .bool p, .bool c, .bool d]) (by simp [results, Tryz.results170, go_sem]) rfl ⟨rfl, ((Below.refl _ _).alloc (Nat.le_refl _) _).alloc (by simp) _⟩
  · rw [if_pos rfl]
    rw [hq] at C
    unfold lnC
    dsimp only
    go_enter Tryz.func170, Tryz.ntmps170
    go_wp2_with (first | (go_at_call 111; refine (unhide C _).mono ?_; rintro e w1 ⟨rfl, rfl⟩))
    exact bodyPost_ret (v := .agg #[.int .i64 n, .int .i64 a, .bool p, .bool c, .bool d]) (by simp [results, Tryz.results170, go_sem]) rfl ⟨rfl, ((Below.refl _ _).alloc (Nat.le_refl _) _).alloc (by simp) _⟩
set_option maxHeartbeats 400000 in
theorem line2 (x : Ln) (n : Nat) (w : World) : Calls Tryz.prog 175 #[.agg (lnC x), .int .i64 n] w fun e w' => e = .returned (.agg (lnC (lnK 2 x n))) ∧ Below w.heap.size w w' := by
  obtain ⟨m, a, p, c, d⟩ := x
  show Calls Tryz.prog 175 #[.agg #[.int .i64 m, .int .i64 a, .bool p, .bool c, .bool d], .int .i64 n] w fun e w' => e = .returned (.agg #[.int .i64 m, .int .i64 n, .bool p, .bool c, .bool d]) ∧ Below w.heap.size w w'
  go_enter Tryz.func175, Tryz.ntmps175
  go_wp2
  exact bodyPost_ret (v := .agg #[.int .i64 m, .int .i64 n, .bool p, .bool c, .bool d]) (by simp [results, Tryz.results175, go_sem]) rfl ⟨rfl, ((Below.refl _ _).alloc (Nat.le_refl _) _).alloc (by simp) _⟩
set_option maxHeartbeats 400000 in
theorem line5 (x : Ln) (n : Nat) (w : World) : Calls Tryz.prog 181 #[.agg (lnC x), .int .i64 n] w fun e w' => e = .returned (.agg (lnC (lnK 5 x n))) ∧ Below w.heap.size w w' := by
  obtain ⟨m, a, p, c, d⟩ := x
  show Calls Tryz.prog 181 #[.agg #[.int .i64 m, .int .i64 a, .bool p, .bool c, .bool d], .int .i64 n] w fun e w' => e = .returned (.agg #[.int .i64 m, .int .i64 a, .bool p, .bool c, .bool d]) ∧ Below w.heap.size w w'
  go_enter Tryz.func181, Tryz.ntmps181
  go_wp2
  exact bodyPost_ret (v := .agg #[.int .i64 m, .int .i64 a, .bool p, .bool c, .bool d]) (by simp [results, Tryz.results181, go_sem]) rfl ⟨rfl, ((Below.refl _ _).alloc (Nat.le_refl _) _).alloc (by simp) _⟩
set_option maxHeartbeats 400000 in
theorem line7 (x : Ln) (n : Nat) (w : World) : Calls Tryz.prog 186 #[.agg (lnC x), .int .i64 n] w fun e w' => e = .returned (.agg (lnC (lnK 7 x n))) ∧ Below w.heap.size w w' := by
  obtain ⟨m, a, p, c, d⟩ := x
  show Calls Tryz.prog 186 #[.agg #[.int .i64 m, .int .i64 a, .bool p, .bool c, .bool d], .int .i64 n] w fun e w' => e = .returned (.agg #[.int .i64 m, .int .i64 a, .bool true, .bool c, .bool d]) ∧ Below w.heap.size w w'
  go_enter Tryz.func186, Tryz.ntmps186
  go_wp2
  exact bodyPost_ret (v := .agg #[.int .i64 m, .int .i64 a, .bool true, .bool c, .bool d]) (by simp [results, Tryz.results186, go_sem]) rfl ⟨rfl, ((Below.refl _ _).alloc (Nat.le_refl _) _).alloc (by simp) _⟩
set_option maxHeartbeats 400000 in
theorem line8 (x : Ln) (n : Nat) (w : World) : Calls Tryz.prog 191 #[.agg (lnC x), .int .i64 n] w fun e w' => e = .returned (.agg (lnC (lnK 8 x n))) ∧ Below w.heap.size w w' := by
  obtain ⟨m, a, p, c, d⟩ := x
  show Calls Tryz.prog 191 #[.agg #[.int .i64 m, .int .i64 a, .bool p, .bool c, .bool d], .int .i64 n] w fun e w' => e = .returned (.agg #[.int .i64 m, .int .i64 a, .bool p, .bool true, .bool d]) ∧ Below w.heap.size w w'
  go_enter Tryz.func191, Tryz.ntmps191
  go_wp2
  exact bodyPost_ret (v := .agg #[.int .i64 m, .int .i64 a, .bool p, .bool true, .bool d]) (by simp [results, Tryz.results191, go_sem]) rfl ⟨rfl, ((Below.refl _ _).alloc (Nat.le_refl _) _).alloc (by simp) _⟩
set_option maxHeartbeats 400000 in
theorem line9 (x : Ln) (n : Nat) (w : World) : Calls Tryz.prog 196 #[.agg (lnC x), .int .i64 n] w fun e w' => e = .returned (.agg (lnC (lnK 9 x n))) ∧ Below w.heap.size w w' := by
  obtain ⟨m, a, p, c, d⟩ := x
  cases d
  · show Calls Tryz.prog 196 #[.agg #[.int .i64 m, .int .i64 a, .bool p, .bool c, .bool false], .int .i64 n] w fun e w' => e = .returned (.agg #[.int .i64 m, .int .i64 a, .bool p, .bool c, .bool ((n : Int) == 4)]) ∧ Below w.heap.size w w'
    go_enter Tryz.func196, Tryz.ntmps196
    go_wp2
    exact bodyPost_ret (v := .agg #[.int .i64 m, .int .i64 a, .bool p, .bool c, .bool ((n : Int) == 4)]) (by simp [results, Tryz.results196, go_sem]) rfl ⟨rfl, ((Below.refl _ _).alloc (Nat.le_refl _) _).alloc (by simp) _⟩
  · show Calls Tryz.prog 196 #[.agg #[.int .i64 m, .int .i64 a, .bool p, .bool c, .bool true], .int .i64 n] w fun e w' => e = .returned (.agg #[.int .i64 m, .int .i64 a, .bool p, .bool c, .bool true]) ∧ Below w.heap.size w w'
    go_enter Tryz.func196, Tryz.ntmps196
    go_wp2
    exact bodyPost_ret (v := .agg #[.int .i64 m, .int .i64 a, .bool p, .bool c, .bool true]) (by simp [results, Tryz.results196, go_sem]) rfl ⟨rfl, ((Below.refl _ _).alloc (Nat.le_refl _) _).alloc (by simp) _⟩
/-- One kind's rule of lines. -/
structure LnR (k : Int) (s f f2 f3 f4 f5 j : Nat) : Prop where
  fd : Instr.findNow (.int .i64) (.int .i64 k) rules.toList 0 = some (some (j, ruleV s f f2 f3 f4 f5))
  cf : ∀ args W, (callFunc f5 args).run Tryz.prog W = .ok (.enter f5 args) W
  ln : ∀ (x : Ln) (n : Nat) v, Calls Tryz.prog f5 #[.agg (lnC x), .int .i64 n] v fun e w' => e = .returned (.agg (lnC (lnK k x n))) ∧ Below v.heap.size v w'
set_option maxRecDepth 100000 in
theorem ln_row (k : Int) : (∃ s f f2 f3 f4 f5 j, sizeK k = some s ∧ LnR k s f f2 f3 f4 f5 j) ∨ (sizeK k = none ∧ Instr.findNow (.int .i64) (.int .i64 k) rules.toList 0 = some none) := by
  by_cases h1 : k = 1
  · subst h1
    exact Or.inl ⟨2, _, _, _, _, _, _, rfl, ⟨rfl, cf_of (by kernel_rfl), fun x n v => line1 x n v⟩⟩
  by_cases h2 : k = 2
  · subst h2
    exact Or.inl ⟨4, _, _, _, _, _, _, rfl, ⟨rfl, cf_of (by kernel_rfl), fun x n v => line2 x n v⟩⟩
  by_cases h5 : k = 5
  · subst h5
    exact Or.inl ⟨4, _, _, _, _, _, _, rfl, ⟨rfl, cf_of (by kernel_rfl), fun x n v => line5 x n v⟩⟩
  by_cases h7 : k = 7
  · subst h7
    exact Or.inl ⟨0, _, _, _, _, _, _, rfl, ⟨rfl, cf_of (by kernel_rfl), fun x n v => line7 x n v⟩⟩
  by_cases h8 : k = 8
  · subst h8
    exact Or.inl ⟨0, _, _, _, _, _, _, rfl, ⟨rfl, cf_of (by kernel_rfl), fun x n v => line8 x n v⟩⟩
  by_cases h9 : k = 9
  · subst h9
    exact Or.inl ⟨1, _, _, _, _, _, _, rfl, ⟨rfl, cf_of (by kernel_rfl), fun x n v => line9 x n v⟩⟩
  · refine Or.inr ⟨by simp [sizeK, h1, h2, h5, h7, h8, h9], ?_⟩
    have e1 : (k == 1) = false := beq_eq_false_iff_ne.2 h1
    have e2 : (k == 2) = false := beq_eq_false_iff_ne.2 h2
    have e5 : (k == 5) = false := beq_eq_false_iff_ne.2 h5
    have e7 : (k == 7) = false := beq_eq_false_iff_ne.2 h7
    have e8 : (k == 8) = false := beq_eq_false_iff_ne.2 h8
    have e9 : (k == 9) = false := beq_eq_false_iff_ne.2 h9
    simp [Instr.findNow, rules, Instr.sameNow, e1, e2, e5, e7, e8, e9]
end Go.Proofs.YtghopihgnmnlcaaGreatDoor
namespace Go.Proofs.YtghopihgnmnlcaaGreatDoor
open Go.RowKit
theorem row6 {w : World} {B : Nat} {x0 x1 x2 x3 x4 x5 : Value} {T : TypeId} (h : w.heap[B]? = some (.cells #[x0, x1, x2, x3, x4, x5] T)) :
    w.cell? ⟨B, 0, none⟩ = some x0 ∧ w.cell? ⟨B, 1, none⟩ = some x1 ∧ w.cell? ⟨B, 2, none⟩ = some x2 ∧ w.cell? ⟨B, 3, none⟩ = some x3 ∧ w.cell? ⟨B, 4, none⟩ = some x4 ∧ w.cell? ⟨B, 5, none⟩ = some x5 :=
  ⟨by rw [cell_of_row _ _ 0 _ _ (0, 0) h]; rfl, by rw [cell_of_row _ _ 1 _ _ (0, 0) h]; rfl, by rw [cell_of_row _ _ 2 _ _ (0, 0) h]; rfl, by rw [cell_of_row _ _ 3 _ _ (0, 0) h]; rfl,
    by rw [cell_of_row _ _ 4 _ _ (0, 0) h]; rfl, by rw [cell_of_row _ _ 5 _ _ (0, 0) h]; rfl⟩
end Go.Proofs.YtghopihgnmnlcaaGreatDoor
namespace Go.Proofs.YtghopihgnmnlcaaGreatDoor
open Go.RowKit
theorem row2x {w : World} {B : Nat} {x0 x1 : Value} {T : TypeId} (h : w.heap[B]? = some (.cells #[x0, x1] T)) :
    w.cell? ⟨B, 0, none⟩ = some x0 ∧ w.cell? ⟨B, 1, none⟩ = some x1 ∧ w.frozen? ⟨B, 0, none⟩ = false ∧ w.frozen? ⟨B, 1, none⟩ = false :=
  ⟨by rw [cell_of_row _ _ _ _ _ _ h]; rfl, by rw [cell_of_row _ _ _ _ _ _ h]; rfl, frz h _, frz h _⟩
theorem start2r (w : World) (a b : Obj) : ((w.alloc a).alloc b).heap.size = w.heap.size + 1 + 1 ∧ ((w.alloc a).alloc b).heap[w.heap.size]? = some a ∧ ((w.alloc a).alloc b).heap[w.heap.size + 1]? = some b ∧ Below w.heap.size w ((w.alloc a).alloc b) := by
  have s1 : (w.alloc a).heap.size = w.heap.size + 1 := by simp
  have e2 := heap_alloc_new (w.alloc a) b
  rw [s1] at e2
  refine ⟨by simp, ?_, e2, ((Below.refl _ _).alloc (Nat.le_refl _) _).alloc (by omega) _⟩
  rw [Below.heap_alloc _ _ _ (by omega)]
  exact heap_alloc_new w a
theorem infoOp : (Tryz.prog.info? 118).map (·.size) = some 2 := by kernel_rfl
theorem load2 {W : World} {E : Nat} {x0 x1 : Value} (h : W.heap[E]? = some (.cells #[x0, x1] 118)) : (loadVar 118 ⟨E, 0, none⟩).run Tryz.prog W = .ok (.agg #[x0, x1]) W :=
  run_loadVar_row (P := Tryz.prog) _ _ 118 118 #[x0, x1] (0, 0) _ h Tryz.underlying118 rfl infoOp
theorem set2_at {W : World} {E : Nat} {z0 z1 : Value} {T : TypeId} (h : W.heap[E]? = some (.cells #[z0, z1] T)) (x0 x1 : Value) :
    ((W.setCell ⟨E, 0, none⟩ x0).setCell ⟨E, 1, none⟩ x1).heap[E]? = some (.cells #[x0, x1] T) :=
  heap_setCell_same _ _ 1 _ _ x1 (heap_setCell_same _ _ 0 _ _ x0 h)
end Go.Proofs.YtghopihgnmnlcaaGreatDoor
