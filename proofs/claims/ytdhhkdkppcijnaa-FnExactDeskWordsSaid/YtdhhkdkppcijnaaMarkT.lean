/- The law's text of a mark; what lay in memory stands. -/
import Derived.Test.YtdhhkdkppcijnaaOwn
namespace Go.Proofs.Ytdhhkdkppcijnaa
open Go.RowKit
/-- The digits of a number ahead of a text. -/
def dgf : Nat → Nat → ByteArray → ByteArray
  | 0, _, o => o
  | f + 1, k, o => if k = 0 then o else dgf f (k / 10) (strOfNums [((48 + k % 10 : Nat) : Int)] ++ o)
theorem dgf_zero (f : Nat) (o : ByteArray) : dgf f 0 o = o := by cases f <;> rfl
theorem dgf_step {f k : Nat} (o : ByteArray) (h : 0 < k) (hf : k ≤ f) : ∃ f', k / 10 ≤ f' ∧ dgf f k o = dgf f' (k / 10) (strOfNums [((48 + k % 10 : Nat) : Int)] ++ o) := by
  cases f with
  | zero => omega
  | succ f => exact ⟨f, by omega, by simp only [dgf]; rw [if_neg (by omega)]⟩
/-- A mark's text. -/
def mtx (k : Nat) : ByteArray := ⟨#[109]⟩ ++ dgf k k ⟨#[]⟩
set_option maxHeartbeats 100000000 in
theorem markText (k : Nat) (w : World) (hk : 0 < k) (hk2 : k < 10000000) :
    Calls Try.prog 15 #[.int .i64 k] w fun e w' => e = .returned (.string (mtx k)) ∧ Below w.heap.size w w' := by
  have d1 : ¬ ((k : Int) ≤ 0) := by omega
  go_enter Try.func15, Try.ntmps15
  go_wp2_with fail
  go_loopw [0, 3] (fun x o wr => ∃ (j f : Nat) (out : ByteArray), x = .int .i64 j ∧ o = .string out ∧ j ≤ f ∧ dgf f j out = dgf k k ⟨#[]⟩ ∧ out.size + j ≤ 10000000 ∧ Below w.heap.size w wr) (fun x _ _ => (intOf x).toNat)
  case atStart => exact ⟨k, k, ⟨#[]⟩, rfl, rfl, Nat.le_refl _, rfl, by simp [ByteArray.size]; omega, Below.refl _ _⟩
  case round =>
    obtain ⟨j, f, out, rfl, rfl, hf, hd, hs, hb⟩ := hrel
    have hs2 := hb.size
    by_cases h0 : 0 < j
    · obtain ⟨f', hf', hd'⟩ := dgf_step out h0 hf
      have HD : Hid (dgf f' (j / 10) (strOfNums [((48 + j % 10 : Nat) : Int)] ++ out) = dgf k k ⟨#[]⟩) := hide (hd'.symm.trans hd)
      have hsz : (strOfNums [((48 + j % 10 : Nat) : Int)]).size = 1 := strOfNums_size _
      have hcv : (convert 30 9 (.slice (some ⟨wr.heap.size, 0, none⟩) 1 1)).run Try.prog (wr.alloc (.cells #[.int .u8 (48 + (j : Int) % 10)] 5)) = .ok (.string (strOfNums [((48 + j % 10 : Nat) : Int)])) (wr.alloc (.cells #[.int .u8 (48 + (j : Int) % 10)] 5)) := by
        have h := conv_own (xs := [((48 + j % 10 : Nat) : Int)]) (World.ownsRow_lit (base := wr.heap.size) wr #[.int .u8 ((48 + j % 10 : Nat) : Int)] 1 (by omega) (by decide) rfl)
        rw [show ((48 + j % 10 : Nat) : Int) = 48 + (j : Int) % 10 by omega] at h ⊢
        exact h
      generalize strOfNums [((48 + j % 10 : Nat) : Int)] = c at *
      have hcat : ¬ (9223372036854775807 < c.size + out.size) := by omega
      have d2 : (0 : Int) < (j : Int) := by omega
      clear hd hd'
      go_wp2_with fail
      go_roundw
      case rel => exact ⟨j / 10, f', c ++ out, by go_num, rfl, hf', unhide HD, by rw [ByteArray.size_append]; omega, hb.alloc hs2 _⟩
      case measure => simp [intOf]; omega
    · have h0' : j = 0 := by omega
      subst h0'
      rw [dgf_zero] at hd
      have hcat : ¬ (9223372036854775807 < (ByteArray.mk #[109]).size + out.size) := by rw [show (ByteArray.mk #[109]).size = 1 from rfl]; omega
      have HD := hide hd
      clear hd
      go_wp2
      go_ret
      exact ⟨by unfold mtx; rw [← unhide HD]; rfl, hb⟩
end Go.Proofs.Ytdhhkdkppcijnaa
