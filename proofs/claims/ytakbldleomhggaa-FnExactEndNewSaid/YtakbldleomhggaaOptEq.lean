/- Two rows of options held against each other by the law; what lay in memory stands. -/
import Derived.Test.YtakbldleomhggaaOptRow
namespace Go.Proofs.Ytakbldleomhggaa
open Go.RowKit
set_option maxHeartbeats 400000 in
theorem eqFd (x : Int) (t : ByteArray) (w : World) :
    Calls Try.prog 38 #[.agg #[.int .i64 x, .string t], .agg #[.int .i64 x, .string t]] w fun e w' => e = .returned (.bool true) ∧ Below w.heap.size w w' := by
  go_enter Try.func38, Try.ntmps38
  go_wp2
  go_ret
  exact ⟨rfl, ((Below.refl _ _).alloc (Nat.le_refl _) _).alloc (by simp) _⟩
set_option maxHeartbeats 2000000 in
theorem eqS0 (a1 a2 : Option Addr) (c1 c2 : Nat) (w : World) :
    Calls Try.prog 12 #[.slice a1 0 c1, .slice a2 0 c2] w fun e w' => e = .returned (.bool true) ∧ Below w.heap.size w w' := by
  go_enter Try.func12, Try.ntmps12
  go_wp2_with fail
  go_loopw [5] (fun y wr => y = .int .i64 0 ∧ wr = w) (fun _ _ => 0)
  case atStart => exact ⟨rfl, rfl⟩
  case round =>
    obtain ⟨rfl, rfl⟩ := hrel
    go_wp2
    go_ret
    exact ⟨rfl, Below.refl _ _⟩
set_option maxHeartbeats 2000000 in
theorem eqS1 (g1 g2 c1 c2 : Nat) (F : List Op.Opt) (cur1 cur2 : Array Value) (w : World) (hF : F.length ≤ 2000000) (h1 : w.heap[g1]? = some (.cells cur1 66)) (h2 : w.heap[g2]? = some (.cells cur2 66))
    (a1 : ∀ j, j < F.length * 2 → cur1[j]? = (ocells F)[j]?) (a2 : ∀ j, j < F.length * 2 → cur2[j]? = (ocells F)[j]?) :
    Calls Try.prog 12 #[.slice (some ⟨g1, 0, none⟩) F.length c1, .slice (some ⟨g2, 0, none⟩) F.length c2] w fun e w' => e = .returned (.bool true) ∧ Below w.heap.size w w' := by
  have hl1 : g1 < w.heap.size := (Array.getElem?_eq_some_iff.1 h1).1
  have hl2 : g2 < w.heap.size := (Array.getElem?_eq_some_iff.1 h2).1
  obtain ⟨n, hn⟩ : ∃ n, F.length = n := ⟨_, rfl⟩
  have HA : Hid (∀ i, i < n → ∃ x t, cur1[i * 2]? = some (.int .i64 x) ∧ cur1[i * 2 + 1]? = some (.string t) ∧ cur2[i * 2]? = some (.int .i64 x) ∧ cur2[i * 2 + 1]? = some (.string t)) := by
    refine hide fun i hi => ?_
    have g := ocells_get F i (F[i]'(by omega)) (List.getElem?_eq_getElem (by omega))
    exact ⟨_, _, (a1 _ (by omega)).trans g.1, (a1 _ (by omega)).trans g.2, (a2 _ (by omega)).trans g.1, (a2 _ (by omega)).trans g.2⟩
  rw [hn] at hF ⊢
  clear a1 a2 hn
  go_enter Try.func12, Try.ntmps12
  go_wp2_with fail
  go_loopw [5] (fun y wr => ∃ (i : Nat), i ≤ n ∧ y = .int .i64 i ∧ Below w.heap.size w wr) (fun y _ => n - (intOf y).toNat)
  case atStart => exact ⟨0, Nat.zero_le _, rfl, Below.refl _ _⟩
  case round =>
    obtain ⟨i, hi, rfl, hb⟩ := hrel
    have hbs := hb.size
    by_cases hlt : i < n
    · have d1 : (i : Int) < (n : Int) := by omega
      obtain ⟨x, t, q1, q2, q3, q4⟩ := unhide HA i hlt
      have e1 := (hb.block g1 hl1).trans h1
      have e2 := (hb.block g2 hl2).trans h2
      have k0 : wr.cell? ⟨g1, i * 2, none⟩ = some (.int .i64 x) := by rw [cell_of_row _ _ _ _ _ _ e1]; exact q1
      have k1 : wr.cell? ⟨g1, i * 2 + 1, none⟩ = some (.string t) := by rw [cell_of_row _ _ _ _ _ _ e1]; exact q2
      have k2 : wr.cell? ⟨g2, i * 2, none⟩ = some (.int .i64 x) := by rw [cell_of_row _ _ _ _ _ _ e2]; exact q3
      have k3 : wr.cell? ⟨g2, i * 2 + 1, none⟩ = some (.string t) := by rw [cell_of_row _ _ _ _ _ _ e2]; exact q4
      have C := hide fun v => eqFd x t v
      clear e1 e2 q1 q2 q3 q4 h1 h2
      go_wp2_with fail
      go_region_with (first
        | (go_at_call 38; refine (unhide C _).mono ?_; rintro e w2 ⟨rfl, hb2⟩))
      all_goals
        go_wp2_with fail
        go_roundw
        case rel => exact ⟨i + 1, by omega, by go_num, hb.trans (((Below.refl _ _).drew.trans hb2).mono hbs)⟩
        case measure => simp [intOf]; omega
    · have e : i = n := by omega
      subst e
      have d1 : ¬ ((i : Int) < (i : Int)) := by omega
      go_wp2
      go_ret
      exact ⟨rfl, hb⟩
theorem eqS (v1 v2 : Value) (F : List Op.Opt) (w : World) (hF : F.length ≤ 2000000) (h1 : HoldsO w v1 F) (h2 : HoldsO w v2 F) :
    Calls Try.prog 12 #[v1, v2] w fun e w' => e = .returned (.bool true) ∧ Below w.heap.size w w' := by
  rcases h1 with ⟨ad1, cp1, rfl, e⟩ | ⟨g1, cp1, cur1, rfl, q1, q2, q3⟩
  · subst e
    rcases h2 with ⟨ad2, cp2, rfl, _⟩ | ⟨g2, cp2, cur2, rfl, _⟩
    · exact eqS0 _ _ _ _ w
    · exact eqS0 _ _ _ _ w
  · rcases h2 with ⟨ad2, cp2, rfl, e⟩ | ⟨g2, cp2, cur2, rfl, r1, r2, r3⟩
    · subst e
      exact eqS0 _ _ _ _ w
    · exact eqS1 g1 g2 cp1 cp2 F cur1 cur2 w hF q1 r1 q3 r3
end Go.Proofs.Ytakbldleomhggaa
