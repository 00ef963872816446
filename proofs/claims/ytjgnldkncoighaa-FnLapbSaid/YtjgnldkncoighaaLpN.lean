/- LapbNew, the program's and the model's; no condition. -/
import Derived.Test.YtjgnldkncoighaaLpV
import Derived.Test.YtjgnldkncoighaaNb
namespace Go.Proofs.Ytjgnldkncoighaa
open Go.RowKit
def lpZero : Lp := ⟨0, 0, 0, 0, false⟩
def winOk (x : Int) : Bool := decide (1 ≤ x) && decide (x ≤ 7)
/-- What LapbNew answers. -/
def lpNew (x : Int) : Lp := if winOk x = true then ⟨x, 0, 0, 0, false⟩ else lpZero
set_option maxHeartbeats 400000 in
theorem iWin (x : Int) (w : World) : Calls Try.prog 46 #[.int .i64 x] w fun e w' => e = .returned (.bool (winOk x)) ∧ w' = w := by
  have C := hide fun v => iWithin x 1 7 v
  unfold winOk
  go_enter Try.func46, Try.ntmps46
  go_wp2_with fail
  refine (unhide C _).mono ?_
  rintro e w2 ⟨rfl, hw⟩
  replace hw := hw.symm
  subst hw
  go_wp2
  go_ret
  exact ⟨rfl, rfl⟩
theorem sWin (x : Int) (w : World) : Calls Try.prog 49 #[.int .i64 x, .int .i64 1, .int .i64 7] w fun e w' => e = .returned (.bool (winOk x)) ∧ w' = w := sWithin x 1 7 w
set_option maxHeartbeats 1000000 in
theorem specLpNew (x : Int) (w : World) : Calls Try.prog 51 #[.int .i64 x] w fun e w' => e = .returned (.agg (lpC (lpNew x) (.slice none 0 0))) ∧ Below w.heap.size w w' := by
  have C := hide fun v => sWin x v
  unfold lpNew lpC
  cases hk : winOk x
  · rw [hk] at C
    rw [if_neg (by decide)]
    unfold lpZero
    dsimp only
    clear hk
    go_enter Try.func51, Try.ntmps51
    go_wp2_with fail
    refine (unhide C _).mono ?_
    rintro e w2 ⟨rfl, hw⟩
    replace hw := hw.symm
    subst hw
    go_wp2
    refine bodyPost_ret (v := .agg #[.int .i64 0, .int .i64 0, .int .i64 0, .int .i64 0, .slice none 0 0, .bool false]) (by simp [results, Try.results51, go_sem]) rfl ⟨rfl, ?_⟩
    exact (Below.refl _ _).alloc (Nat.le_refl _) _
  · rw [hk] at C
    rw [if_pos rfl]
    dsimp only
    clear hk
    go_enter Try.func51, Try.ntmps51
    go_wp2_with fail
    refine (unhide C _).mono ?_
    rintro e w2 ⟨rfl, hw⟩
    replace hw := hw.symm
    subst hw
    go_wp2
    refine bodyPost_ret (v := .agg #[.int .i64 x, .int .i64 0, .int .i64 0, .int .i64 0, .slice none 0 0, .bool false]) (by simp [results, Try.results51, go_sem]) rfl ⟨rfl, ?_⟩
    exact (Below.refl _ _).alloc (Nat.le_refl _) _
end Go.Proofs.Ytjgnldkncoighaa
