/- Bytes that lie in memory, read as a number, as a text ; a text as bytes of its own; what lay in memory stands. -/
import Derived.Test.YtfkeokfmancgiaaTxt
import Derived.Test.YtfkeokfmancgiaaInts
import Derived.Deep.DeepCutAuto
import Derived.Lib.AppendStr
import Derived.ArgAppend
namespace Go.Proofs.Ytfkeokfmancgiaa
open Go.RowKit
theorem len_dat (t : ByteArray) : t.data.toList.length = t.size := by rw [Array.length_toList]; rfl
/-- These bytes lie here. -/
def Lies (w : World) (B off : Nat) (l : List UInt8) : Prop := ∀ i (h : i < l.length), w.cell? ⟨B, off + i, none⟩ = some (.int .u8 l[i].toNat)
theorem Lies.below {w w' : World} {B off N : Nat} {l : List UInt8} (h : Lies w B off l) (hb : Below N w w') (hB : B < N) : Lies w' B off l :=
  fun i hi => (hb.cell (p := ⟨B, off + i, none⟩) hB).trans (h i hi)
theorem Lies.drop {w : World} {B off : Nat} {l : List UInt8} (h : Lies w B off l) (n : Nat) : Lies w B (off + n) (l.drop n) := fun i hi => by
  rw [List.length_drop] at hi
  rw [Nat.add_assoc, h (n + i) (by omega)]
  simp
theorem or8 (a b : Nat) (ha : a < 256) (hb : b < 256) : bits .or .i64 ((a : Int) * 256) (b : Int) = ((256 * a + b : Nat) : Int) := by
  have h1 : a * 256 ||| b = a * 2 ^ 8 + b := by
    rw [Nat.mul_comm, show (256 : Nat) = 2 ^ 8 from rfl, ← Nat.two_pow_add_eq_or_of_lt (by omega), Nat.mul_comm]
  show IntKind.i64.wrap ((BitVec.ofInt 64 ((a : Int) * 256) ||| BitVec.ofInt 64 (b : Int)).toNat : Int) = _
  rw [show (a : Int) * 256 = ((a * 256 : Nat) : Int) by omega, BitVec.toNat_or, ofInt_u64 (a * 256) (by omega), ofInt_u64 b (by omega), h1, IntKind.wrap_i64]
  omega
/-- The number of some bytes, the highest first. -/
def numOf (l : List UInt8) : Nat := l.foldl (fun n c => 256 * n + c.toNat) 0
set_option maxHeartbeats 1000000 in
theorem highest (B off cap : Nat) (l : List UInt8) (w : World) (hl2 : l.length ≤ 2) (hl : Lies w B off l) :
    Calls Try.prog 39 #[.slice (some ⟨B, off, none⟩) l.length cap] w fun e w' => e = .returned (.int .i64 (numOf l : Nat)) ∧ w' = w := by
  go_enter Try.func39, Try.ntmps39
  go_wp2
  go_loop [3, 8] (fun n i => ∃ (k : Nat), k ≤ l.length ∧ i = .int .i64 k ∧ n = .int .i64 (numOf (l.take k) : Nat)) (fun _ i => l.length - (intOf i).toNat)
  case atStart => exact ⟨0, Nat.zero_le _, rfl, rfl⟩
  case round =>
    obtain ⟨k, hk, rfl, rfl⟩ := hrel
    by_cases hlt : k < l.length
    · have hc := hl k hlt
      have HS : Hid (numOf (l.take (k + 1)) = 256 * numOf (l.take k) + l[k].toNat) := hide (by unfold numOf; rw [List.take_succ_eq_append_getElem hlt, List.foldl_append]; rfl)
      have hk2 : k < 2 := by omega
      have hn : numOf (l.take k) < 256 := by
        rcases l with _ | ⟨c, _ | ⟨d, r⟩⟩
        · simp at hlt
        · simp at hlt
          subst hlt
          simp [numOf]
        · have := c.toNat_lt
          rcases Nat.lt_or_ge k 1 with h | h
          · have hk0 : k = 0 := by omega
            subst hk0
            simp [numOf]
          · have hk1 : k = 1 := by omega
            subst hk1
            simpa [numOf] using this
      have ho := or8 (numOf (l.take k)) l[k].toNat hn l[k].toNat_lt
      have HW : Hid (wrap64 (l[k].toNat : Int) = (l[k].toNat : Int)) := hide (by have := l[k].toNat_lt; unfold wrap64; omega)
      generalize numOf (l.take k) = n at *
      have d1 : (k : Int) < (l.length : Int) := by omega
      clear hl
      go_wp2
      go_round
      case rel => exact ⟨k + 1, by omega, by go_num, by rw [unhide HW, ho, unhide HS]⟩
      case measure => simp [intOf]; omega
    · have HK := hide (List.take_of_length_le (l := l) (i := k) (by omega))
      have d1 : ¬ ((k : Int) < (l.length : Int)) := by omega
      go_wp2
      go_ret
      exact ⟨by rw [unhide HK]; rfl, rfl⟩
/-- A text as bytes of its own. -/
theorem bytes_of (t : ByteArray) (W : World) : ∃ cap W', (convert 9 22 (.string t)).run Try.prog W = .ok (.slice (some ⟨W.heap.size, 0, none⟩) t.data.toList.length cap) W' ∧ t.data.toList.length ≤ cap ∧ Lies W' W.heap.size 0 t.data.toList ∧ Below W.heap.size W W' ∧ W.heap.size < W'.heap.size := by
  have h := run_bytes_of_string (P := Try.prog) W 9 22 5 t Try.underlying9 Try.underlying22 Try.underlying5
  have hg := grownCap_ge W t.size 0 5
  refine ⟨_, _, by rw [len_dat]; exact h, by rw [len_dat]; omega, ?_, (Below.refl _ _).drew.alloc (Nat.le_refl _) _, by simp⟩
  intro i hi
  have hh : (W.drew.alloc (.cells (bytesRow t (grownCap W t.size 0 5)) 5 ((bytesRow t (grownCap W t.size 0 5)).size, (bytesRow t (grownCap W t.size 0 5)).size + 1))).heap[W.heap.size]? = _ := heap_alloc_new W.drew _
  rw [cell_of_row _ _ _ _ _ _ hh]
  have hi' : i < t.size := by rw [← len_dat]; exact hi
  simp [bytesRow, Array.getElem?_append, hi']
theorem conv_lies {w : World} {B off : Nat} {l : List UInt8} (h : Lies w B off l) {cap : Nat} : (convert 22 9 (.slice (some ⟨B, off, none⟩) l.length cap)).run Try.prog w = .ok (.string (txt l)) w :=
  run_convert_bytes_back (P := Try.prog) w 22 9 5 ⟨B, off, none⟩ cap l Try.underlying22 Try.underlying5 Try.underlying9 (fun j hj => by rw [Addr.add_lit]; exact h j hj)
end Go.Proofs.Ytfkeokfmancgiaa
