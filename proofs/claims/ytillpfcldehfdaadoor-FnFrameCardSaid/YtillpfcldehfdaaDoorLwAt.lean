/- The laws' own draw (lwAt): a number below a bound out of bytes that were handed in; the world stays as it was. -/
import Derived.Test.YtillpfcldehfdaaDoorSrc
namespace Go.Proofs.YtillpfcldehfdaaDoor
open Go.RowKit
set_option maxHeartbeats 1000000 in
theorem lwAt (w : World) (B : Nat) (sl : Value) (n q most : Nat) (hq : q < 1000) (hm : most < 4294967296) (hn : n ≤ maxLen) (hD : Dat w B sl n) :
    Calls Tryd.prog 15 #[sl, .int .i64 q, .int .i64 most] w fun e w' => ∃ r : Nat, e = .returned (.int .i64 r) ∧ (r < most ∨ r = 0) ∧ w' = w := by
  unfold maxLen at hn
  by_cases h1 : most ≤ 1
  · have d1 : decide ((most : Int) ≤ 1) = true := decide_eq_true (by omega)
    obtain ⟨a, cap, rfl⟩ := hD.1
    clear hD
    go_enter Tryd.func15, Tryd.ntmps15
    go_wp2
    all_goals first | (exfalso; omega) | (go_ret; exact ⟨0, rfl, Or.inr rfl, rfl⟩)
  · have d1 : decide ((most : Int) ≤ 1) = false := decide_eq_false (by omega)
    by_cases h0 : n = 0
    · obtain ⟨a, cap, rfl⟩ := hD.1
      clear hD
      have d2 : ((n : Int) == 0) = true := beq_iff_eq.2 (by omega)
      go_enter Tryd.func15, Tryd.ntmps15
      go_wp2
      all_goals first | (exfalso; omega) | (go_ret; exact ⟨0, rfl, Or.inr rfl, rfl⟩)
    · have hlt : q % n < n := Nat.mod_lt _ (by omega)
      obtain ⟨b, o, cap, x, rfl, hb, hx, hx2⟩ := hD.2 (q % n) hlt
      have d2 : ((n : Int) == 0) = false := beq_eq_false_iff_ne.2 (by omega)
      have e1 : (q : Int) % (n : Int) = ((q % n : Nat) : Int) := rfl
      clear hD
      generalize q % n = k at *
      have hk : (k : Int) < (n : Int) := by omega
      go_enter Tryd.func15, Tryd.ntmps15
      go_wp2
      go_ret
      exact ⟨x % most, rfl, Or.inl (Nat.mod_lt _ (by omega)), rfl⟩
end Go.Proofs.YtillpfcldehfdaaDoor
