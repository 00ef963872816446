/- A new drawer over bytes that were handed in: it lies in new memory, and what lay there stands. -/
import Derived.Test.YtjgnldkncoighaaSrc
import Derived.Deep.WholeRow
namespace Go.Proofs.Ytjgnldkncoighaa
open Go.RowKit

theorem mul64 (Y : Int) : ∃ m : Nat, m < 18446744073709551616 ∧ IntKind.u64.wrap Y = (m : Int) := by
  rw [IntKind.wrap_u64]
  obtain ⟨m, hm⟩ := Int.eq_ofNat_of_zero_le (Int.emod_nonneg Y (show (18446744073709551616 : Int) ≠ 0 by decide))
  exact ⟨m, by have := Int.emod_lt_of_pos Y (show (0 : Int) < 18446744073709551616 by decide); omega, hm⟩
theorem Dat.mono {w : World} {B B' : Nat} {sl : Value} {n : Nat} (h : Dat w B sl n) (hb : B ≤ B') : Dat w B' sl n :=
  ⟨h.1, fun i hi => by
    obtain ⟨b, o, cap, x, h1, h2, h3, h4⟩ := h.2 i hi
    exact ⟨b, o, cap, x, h1, by omega, h3, h4⟩⟩

set_option maxHeartbeats 1000000 in
theorem src_new (w : World) (sl : Value) (n : Nat) (hn : n ≤ maxLen) (hD : Dat w w.heap.size sl n) :
    Calls Try.prog 24 #[sl] w fun e w' => e = .returned (.pointer (some ⟨w.heap.size, 0, none⟩)) ∧ Src w' w.heap.size sl n ∧ Below w.heap.size w w' := by
  obtain ⟨sa, scap, rfl⟩ := hD.1
  unfold maxLen at hn
  go_enter Try.func24, Try.ntmps24
  go_wp2_with fail
  go_loopw [4] (fun i wr => ∃ (j m : Nat), j ≤ n ∧ j ≤ 64 ∧ i = .int .i64 j ∧ m < 18446744073709551616 ∧ wr.heap[w.heap.size]? = some (.cells #[.slice sa n scap, .int .i64 0, .int .u64 m, .int .i64 0] 73) ∧ Below w.heap.size w wr) (fun i _ => 64 - (intOf i).toNat)
  case atStart => exact ⟨0, 88172645463325252, by omega, by omega, rfl, by decide, heap_alloc_last w _, (Below.refl _ _).alloc (Nat.le_refl _) _⟩
  case round =>
    obtain ⟨j, m, hj1, hj2, rfl, hm, hB, hb1⟩ := hrel
    obtain ⟨c0, c1, c2, c3, f0, f1, f2, f3⟩ := row4 hB
    have HB := hide hB
    clear hB
    by_cases hlt : j < n ∧ j < 64
    · obtain ⟨hlt1, hlt2⟩ := hlt
      obtain ⟨b, o, cap, x, hsl, hbb, hx, hx2⟩ := (hD.below hb1).2 j hlt1
      obtain ⟨rfl, rfl⟩ : sa = some ⟨b, o, none⟩ ∧ cap = scap := by
        simp only [Value.slice.injEq, true_and] at hsl
        exact ⟨hsl.1, hsl.2.symm⟩
      have d1 : decide ((j : Int) < (n : Int)) = true := decide_eq_true (by omega)
      have d2 : decide ((j : Int) < 64) = true := decide_eq_true (by omega)
      have hne : b ≠ w.heap.size := by omega
      clear hsl
      have HD := hide hD
      clear hD
      go_wp2_with fail
      go_region
      go_wp2
      obtain ⟨m2, hm2, e2⟩ := mul64 (bits .xor .u64 (m : Int) (x : Int) * 1099511628211)
      go_roundw
      case rel =>
        refine ⟨j + 1, m2, by omega, by omega, by go_num, hm2, ?_, ?_⟩
        · rw [← e2]; exact set2 (w := wr) (unhide HB) _
        · exact (hb1.setCell (p := ⟨w.heap.size, 2, none⟩) (Nat.le_refl _) _).drew
      case measure => simp [intOf]; omega
    · by_cases hlt1 : j < n
      · have d1 : decide ((j : Int) < (n : Int)) = true := decide_eq_true (by omega)
        have d2 : decide ((j : Int) < 64) = false := decide_eq_false (by omega)
        by_cases h12 : 12 < n / 20
        · have h12' : (12 : Int) < (n : Int) / 20 := by omega
          go_wp2
          go_ret
          exact ⟨rfl, ⟨0, m, 12, Nat.zero_le _, hm, by omega, set3 (w := wr.setCell ⟨w.heap.size, 3, none⟩ _) (set3 (w := wr) (unhide HB) _) _⟩, (hb1.setCell (p := ⟨w.heap.size, 3, none⟩) (Nat.le_refl _) _).setCell (p := ⟨w.heap.size, 3, none⟩) (Nat.le_refl _) _⟩
        · have h12' : ¬ ((12 : Int) < (n : Int) / 20) := by omega
          go_wp2
          go_ret
          exact ⟨rfl, ⟨0, m, n / 20, Nat.zero_le _, hm, by omega, set3 (w := wr) (unhide HB) _⟩, hb1.setCell (p := ⟨w.heap.size, 3, none⟩) (Nat.le_refl _) _⟩
      · have d1 : decide ((j : Int) < (n : Int)) = false := decide_eq_false (by omega)
        have h12' : ¬ ((12 : Int) < (n : Int) / 20) := by omega
        go_wp2
        go_ret
        exact ⟨rfl, ⟨0, m, n / 20, Nat.zero_le _, hm, by omega, set3 (w := wr) (unhide HB) _⟩, hb1.setCell (p := ⟨w.heap.size, 3, none⟩) (Nat.le_refl _) _⟩
end Go.Proofs.Ytjgnldkncoighaa
