/- The parts of PppUnpack, the program's: what is left behind the front, how many bytes a protocol has, its number; what lay in memory stands. -/
import Derived.Test.YteffbodinbmliaaUnpS
import Derived.Test.YteffbodinbmliaaPair
namespace Go.Proofs.Yteffbodinbmliaa
open Go.RowKit
/-- These bytes lie here. -/
def Lies (w : World) (B off : Nat) (l : List UInt8) : Prop := ∀ i (h : i < l.length), w.cell? ⟨B, off + i, none⟩ = some (.int .u8 l[i].toNat)
theorem Lies.below {w w' : World} {B off N : Nat} {l : List UInt8} (h : Lies w B off l) (hb : Below N w w') (hB : B < N) : Lies w' B off l :=
  fun i hi => (hb.cell (p := ⟨B, off + i, none⟩) hB).trans (h i hi)
theorem Lies.drop {w : World} {B off : Nat} {l : List UInt8} (h : Lies w B off l) (n : Nat) : Lies w B (off + n) (l.drop n) := fun i hi => by
  rw [List.length_drop] at hi
  rw [Nat.add_assoc, h (n + i) (by omega)]
  simp
theorem and1_u8 (c : UInt8) : bits .and .u8 (c.toNat : Int) 1 = ((c.toNat % 2 : Nat) : Int) := by
  have h := u8_and_nat c.toNat 1 c.toNat_lt (by decide)
  rw [nat_mask1] at h
  exact h
set_option maxHeartbeats 400000 in
theorem protoSize0 (B off cap : Nat) (w : World) :
    Calls Try.prog 23 #[.slice (some ⟨B, off, none⟩) 0 cap] w fun e w' => e = .returned (.int .i64 2) ∧ w' = w := by
  go_enter Try.func23, Try.ntmps23
  go_wp2
  go_ret
  exact ⟨rfl, rfl⟩
set_option maxHeartbeats 400000 in
theorem protoSize1 (B off cap n : Nat) (c : UInt8) (w : World) (hn : n ≤ 8000) (hl : w.cell? ⟨B, off, none⟩ = some (.int .u8 c.toNat)) :
    Calls Try.prog 23 #[.slice (some ⟨B, off, none⟩) (n + 1) cap] w fun e w' => e = .returned (.int .i64 (if c.toNat % 2 = 1 then 1 else 2)) ∧ w' = w := by
  have d1 : (0 : Int) < (n : Int) + 1 := by omega
  have e1 := and1_u8 c
  rcases Nat.mod_two_eq_zero_or_one c.toNat with h | h
  all_goals
    rw [h] at e1 ⊢
    go_enter Try.func23, Try.ntmps23
    go_wp2
    go_ret
    exact ⟨rfl, rfl⟩
theorem or8 (a b : Nat) (ha : a < 256) (hb : b < 256) : bits .or .i64 ((a : Int) * 256) (b : Int) = ((256 * a + b : Nat) : Int) := by
  have h1 : a * 256 ||| b = a * 2 ^ 8 + b := by
    rw [Nat.mul_comm, show (256 : Nat) = 2 ^ 8 from rfl, ← Nat.two_pow_add_eq_or_of_lt (by omega), Nat.mul_comm]
  show IntKind.i64.wrap ((BitVec.ofInt 64 ((a : Int) * 256) ||| BitVec.ofInt 64 (b : Int)).toNat : Int) = _
  rw [show (a : Int) * 256 = ((a * 256 : Nat) : Int) by omega, BitVec.toNat_or, ofInt_u64 (a * 256) (by omega), ofInt_u64 b (by omega), h1, IntKind.wrap_i64]
  omega
/-- The number of some bytes, the highest first. -/
def numOf (l : List UInt8) : Nat := l.foldl (fun n c => 256 * n + c.toNat) 0
set_option maxHeartbeats 1000000 in
theorem highest (B off cap : Nat) (l : List UInt8) (w : World) (hl2 : l.length ≤ 2) (hl : Lies w B off l) :
    Calls Try.prog 24 #[.slice (some ⟨B, off, none⟩) l.length cap] w fun e w' => e = .returned (.int .i64 (numOf l : Nat)) ∧ w' = w := by
  go_enter Try.func24, Try.ntmps24
  go_wp2
  go_loop [3, 8] (fun n i => ∃ (k : Nat), k ≤ l.length ∧ i = .int .i64 k ∧ n = .int .i64 (numOf (l.take k) : Nat)) (fun _ i => l.length - (intOf i).toNat)
  case atStart => exact ⟨0, Nat.zero_le _, rfl, rfl⟩
  case round =>
    obtain ⟨k, hk, rfl, rfl⟩ := hrel
    by_cases hlt : k < l.length
    · have hc := hl k hlt
      have HS : Hid (numOf (l.take (k + 1)) = 256 * numOf (l.take k) + l[k].toNat) := hide (by unfold numOf; rw [List.take_succ_eq_append_getElem hlt, List.foldl_append]; rfl)
      have hk2 : k < 2 := by omega
      have hn : numOf (l.take k) < 256 := by
        rcases l with _ | ⟨c, _ | ⟨d, r⟩⟩
        · simp at hlt
        · simp at hlt
          subst hlt
          simp [numOf]
        · have := c.toNat_lt
          rcases Nat.lt_or_ge k 1 with h | h
          · have hk0 : k = 0 := by omega
            subst hk0
            simp [numOf]
          · have hk1 : k = 1 := by omega
            subst hk1
            simpa [numOf] using this
      have ho := or8 (numOf (l.take k)) l[k].toNat hn l[k].toNat_lt
      have HW : Hid (wrap64 (l[k].toNat : Int) = (l[k].toNat : Int)) := hide (by have := l[k].toNat_lt; unfold wrap64; omega)
      generalize numOf (l.take k) = n at *
      have d1 : (k : Int) < (l.length : Int) := by omega
      clear hl
      go_wp2
      go_round
      case rel => exact ⟨k + 1, by omega, by go_num, by rw [unhide HW, ho, unhide HS]⟩
      case measure => simp [intOf]; omega
    · have HK := hide (List.take_of_length_le (l := l) (i := k) (by omega))
      have d1 : ¬ ((k : Int) < (l.length : Int)) := by omega
      go_wp2
      go_ret
      exact ⟨by rw [unhide HK]; rfl, rfl⟩
set_option maxHeartbeats 1000000 in
theorem behind (B off cap : Nat) (l : List UInt8) (w : World) (h8 : l.length ≤ 8000) (hcap : l.length ≤ cap) (hB : B < w.heap.size) (hl : Lies w B off l) :
    Calls Try.prog 22 #[.slice (some ⟨B, off, none⟩) l.length cap] w fun e w' => ∃ off' cap', e = .returned (.slice (some ⟨B, off', none⟩) (Pp.rest l).length cap') ∧ (Pp.rest l).length ≤ cap' ∧ Lies w' B off' (Pp.rest l) ∧ Below w.heap.size w w' := by
  have C2 : Hid (∀ w, Calls Try.prog 19 #[.int .i64 65283] w fun e w' => e = .returned (.agg #[.int .u8 255, .int .u8 3]) ∧ w' = w.alloc (.cells #[.int .u8 255, .int .u8 3] 40)) := hide fun w => pairOf 65283 (by decide) w
  by_cases h2 : l.length < 2
  · have d1 : decide ((l.length : Int) < 2) = true := decide_eq_true (by omega)
    have HR : Hid (Pp.rest l = l) := hide (by
      rcases l with _ | ⟨c, _ | ⟨d, r⟩⟩
      · rfl
      · rfl
      · simp at h2; omega)
    go_enter Try.func22, Try.ntmps22
    go_wp2_with fail
    go_quiet (fail)
    go_wp2
    go_ret
    refine ⟨off, cap, by rw [unhide HR]; rfl, by rw [unhide HR]; exact hcap, by rw [unhide HR]; exact hl, ?_⟩
    have h := Below.refl w.heap.size w
    exact ⟨h.os, h.tape, h.output, h.size, h.block⟩
  · have d1 : decide ((l.length : Int) < 2) = false := decide_eq_false (by omega)
    have d2 : (2 : Int) ≤ (l.length : Int) := by omega
    have d3 : (1 : Int) < (l.length : Int) := by omega
    have d4 : (0 : Int) < (l.length : Int) := by omega
    have d5 : (l.length : Int) ≤ (cap : Int) := by omega
    obtain ⟨c, d, r, rfl⟩ : ∃ c d r, l = c :: d :: r := by
      rcases l with _ | ⟨c, _ | ⟨d, r⟩⟩
      · simp at h2
      · simp at h2
      · exact ⟨c, d, r, rfl⟩
    have k0 : w.cell? ⟨B, off, none⟩ = some (.int .u8 c.toNat) := hl 0 (by simp)
    have k1 : w.cell? ⟨B, off + 1, none⟩ = some (.int .u8 d.toNat) := hl 1 (by simp)
    have HR : Hid (Pp.rest (c :: d :: r) = (if c = 0xff ∧ d = 3 then r else c :: d :: r)) := hide rfl
    have hw3 : (((c.toNat : Int) == 255) = true ∧ ((d.toNat : Int) == 3) = true ∧ (c = 0xff ∧ d = 3)) ∨ (((c.toNat : Int) == 255) = true ∧ ((d.toNat : Int) == 3) = false ∧ ¬ (c = 0xff ∧ d = 3)) ∨ (((c.toNat : Int) == 255) = false ∧ ¬ (c = 0xff ∧ d = 3)) := by
      by_cases h1 : c = 0xff
      · by_cases h3 : d = 3
        · exact Or.inl ⟨by rw [h1]; rfl, by rw [h3]; rfl, h1, h3⟩
        · exact Or.inr (Or.inl ⟨by rw [h1]; rfl, u8_ne h3, fun h => h3 h.2⟩)
      · exact Or.inr (Or.inr ⟨u8_ne h1, fun h => h1 h.1⟩)
    have hlen : (c :: d :: r).length = r.length + 2 := rfl
    generalize hN : (c :: d :: r).length = n at *
    have HN := hide hN
    have HNn := hide hlen
    clear hN hlen h2
    have HLi := hide hl
    clear hl
    rcases hw3 with ⟨e1, e2, e3⟩ | ⟨e1, e2, e3⟩ | ⟨e1, e3⟩
    all_goals
      go_enter Try.func22, Try.ntmps22
      go_wp2_with fail
      go_region_held (fun q => q.cell? ⟨B, off, none⟩ = some (.int .u8 c.toNat) ∧ q.cell? ⟨B, off + 1, none⟩ = some (.int .u8 d.toNat)) (first | go_keep) (first
        | (go_at_call 19; refine (unhide C2 _).mono ?_; rintro e w2 ⟨rfl, rfl⟩))
      all_goals go_wp2
      all_goals go_ret
      all_goals
        have hb : Below w.heap.size w (w.alloc (.cells #[.int .u8 255, .int .u8 3] 40)).drew := ((Below.refl _ _).alloc (Nat.le_refl _) _).drew
        have hLw := (unhide HLi).below hb hB
        have hN := unhide HNn
        have hr := unhide HR
        first
          | (rw [if_neg e3] at hr
             exact ⟨off, cap, by rw [hr, unhide HN]; rfl, by rw [hr, unhide HN]; exact hcap, by rw [hr]; exact hLw, hb⟩)
          | (have hr0 : r = [] := List.eq_nil_of_length_eq_zero (by omega)
             subst hr0
             exact ⟨off, 0, rfl, Nat.le_refl _, fun i hi => absurd hi (by simp [Pp.rest]), hb⟩)
          | (have hf := Pp.rest_front r
             refine ⟨off + 2, n - 2, ?_, by rw [hf]; omega, by rw [hf]; exact hLw.drop 2, hb⟩
             rw [hf, show r.length = n - 2 by omega]
             rfl)
end Go.Proofs.Yteffbodinbmliaa
