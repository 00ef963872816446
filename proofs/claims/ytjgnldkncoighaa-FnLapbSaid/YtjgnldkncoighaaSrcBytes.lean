/- The drawer's bytes: as many as are asked for are drawn into a text; only the drawer and new memory are turned. -/
import Derived.Test.YtjgnldkncoighaaSrc
namespace Go.Proofs.Ytjgnldkncoighaa
open Go.RowKit
set_option maxHeartbeats 1000000 in
theorem src_bytes (w : World) (B : Nat) (sl : Value) (n : Nat) (k : Nat) (hk : k < 100000) (hn : n ≤ maxLen) (hS : Src w B sl n) (hD : Dat w B sl n) :
    Calls Try.prog 28 #[.pointer (some ⟨B, 0, none⟩), .int .i64 k] w fun e w' => ∃ xs : List Int, e = .returned (.string (strOfNums xs)) ∧ xs.length = k ∧ Src w' B sl n ∧ Below B w w' := by
  have hBw := hS.lt
  obtain ⟨ui, hi1, hi2, hi3, hi4⟩ := u8info
  go_enter Try.func28, Try.ntmps28
  go_wp2_with fail
  go_loopw [5, 6] (fun v i wr => ∃ (j : Nat) (xs : List Int), j ≤ k ∧ i = .int .i64 j ∧ xs.length = j ∧ wr.ownsRow (B + 1) 5 1 v j (xs.map (Value.int .u8)) ∧ Src wr B sl n ∧ Below B w wr) (fun _ i _ => k - (intOf i).toNat)
  case atStart =>
    refine ⟨0, [], Nat.zero_le _, rfl, rfl, ?_, hS.same (Below.heap_alloc _ _ _ hBw), (Below.refl _ _).alloc (by omega) _⟩
    exact World.ownsRow_lit w #[] 0 (by omega) (Nat.zero_le _) rfl
  case round =>
    obtain ⟨j, xs, hj, rfl, hxl, hown, hS1, hb1⟩ := hrel
    by_cases hlt : j < k
    · have hlt' : (j : Int) < (k : Int) := by omega
      have c := src_n wr B sl n 256 (by decide) hn hS1 (hD.below hb1)
      have HO := hide hown
      clear hown
      go_wp2_with fail
      refine c.mono ?_
      rintro e w1 ⟨r, rfl, hr, hS2, ht2⟩
      have hr2 : r < 256 := by omega
      have ho2 := (own_touch (unhide HO) ht2 (by omega)).alloc (.cells #[.int .u8 r] 5)
      have hb2 : Below B w w1 := hb1.trans ht2.below
      have HO2 := hide ho2
      have HS2 := hide hS2
      have HT2 := hide ht2
      clear ho2 hS2 ht2 c hS1
      go_wp2_with (first
        | (at_builtin; refine wpList_append_own _ rfl _ _ 22 rfl (B + 1) 5 ui (.int .u8 0) 1 1 Try.underlying22 hi1 hi2 hi3 hi4 rfl (by decide) u5 j (xs.map (Value.int .u8)) rfl (unhide HO2) ⟨w1.heap.size, 0, none⟩ 1 1 [.int .u8 r] rfl rfl ?news ?ones ?len ?bytes ?base ?_))
      case news =>
        intro i u hu
        match i, hu with
        | 0, hu =>
          have e : (⟨w1.heap.size, 0, none⟩ : Addr).add 0 = ⟨w1.heap.size, 0, none⟩ := by simp [Addr.add]
          rw [e, World.cell?_alloc_at _ _ _ _ rfl, ← hu]
          rfl
      case ones =>
        intro u hu
        simp only [List.mem_singleton] at hu
        subst hu
        rfl
      case len => unfold maxLen; omega
      case bytes => omega
      case base => have := (unhide HS2).lt; simp; omega
      rintro v' w2 hown2 hg2 _
      have hown3 : w2.ownsRow (B + 1) 5 1 v' (j + 1) ((xs ++ [(r : Int)]).map (Value.int .u8)) := by rw [List.map_append]; exact hown2
      have hlt2 := (unhide HS2).lt
      have hne : some B ≠ u5.ownBlock := fun h => by
        have := World.ownsRow.lt (unhide HO2) B h.symm
        omega
      have hS3 : Src w2 B sl n := (unhide HS2).same (by
        rw [hg2.block B (by simp; omega) hne]
        exact Below.heap_alloc _ _ _ hlt2)
      have hb3 : Below B w w2 := (hb2.alloc (by omega) _).grown hg2 (by simp; omega) (fun q hq => by have := World.ownsRow.lt (unhide HO2) q hq; omega)
      have HO3 := hide hown3
      have HS3 := hide hS3
      clear hown2 hown3 hg2 hne hS3
      go_wp2
      go_roundw
      case rel => exact ⟨j + 1, xs ++ [(r : Int)], by omega, by go_num, by simp [hxl], unhide HO3, unhide HS3, hb3⟩
      case measure => simp [intOf]; omega
    · have hlt' : ¬ ((j : Int) < (k : Int)) := by omega
      have hcv := conv_own hown
      go_wp2
      go_ret
      exact ⟨xs, rfl, by omega, hS1, hb1⟩
end Go.Proofs.Ytjgnldkncoighaa
