/- Two rows of what was found held against each other by the law, and the law's words over a whole answer; what lay in memory stands. -/
import Derived.Test.YteffbodinbmliadDoorMarks
namespace Go.Proofs.YteffbodinbmliadDoor
open Go.RowKit
set_option maxHeartbeats 2000000 in
theorem eqS0 (a1 a2 : Option Addr) (c1 c2 : Nat) (w : World) :
    Calls Tryd.prog 28 #[.slice a1 0 c1, .slice a2 0 c2] w fun e w' => e = .returned (.bool true) ∧ Below w.heap.size w w' := by
  go_enter Tryd.func28, Tryd.ntmps28
  go_wp2_with fail
  go_loopw [5] (fun y wr => y = .int .i64 0 ∧ wr = w) (fun _ _ => 0)
  case atStart => exact ⟨rfl, rfl⟩
  case round =>
    obtain ⟨rfl, rfl⟩ := hrel
    go_wp2
    go_ret
    exact ⟨rfl, Below.refl _ _⟩
set_option maxHeartbeats 2000000 in
theorem eqS1 (g1 g2 c1 c2 : Nat) (F : List Hd.Fd) (cur1 cur2 : Array Value) (w : World) (hF : F.length ≤ 1000) (h1 : w.heap[g1]? = some (.cells cur1 42)) (h2 : w.heap[g2]? = some (.cells cur2 42))
    (a1 : ∀ j, j < F.length * 2 → cur1[j]? = (fcells F)[j]?) (a2 : ∀ j, j < F.length * 2 → cur2[j]? = (fcells F)[j]?) :
    Calls Tryd.prog 28 #[.slice (some ⟨g1, 0, none⟩) F.length c1, .slice (some ⟨g2, 0, none⟩) F.length c2] w fun e w' => e = .returned (.bool true) ∧ Below w.heap.size w w' := by
  have hl1 : g1 < w.heap.size := (Array.getElem?_eq_some_iff.1 h1).1
  have hl2 : g2 < w.heap.size := (Array.getElem?_eq_some_iff.1 h2).1
  obtain ⟨n, hn⟩ : ∃ n, F.length = n := ⟨_, rfl⟩
  have HA : Hid (∀ i, i < n → ∃ x t, cur1[i * 2]? = some (.int .i64 x) ∧ cur1[i * 2 + 1]? = some (.string t) ∧ cur2[i * 2]? = some (.int .i64 x) ∧ cur2[i * 2 + 1]? = some (.string t)) := by
    refine hide fun i hi => ?_
    have g := fcells_get F i (F[i]'(by omega)) (List.getElem?_eq_getElem (by omega))
    exact ⟨_, _, (a1 _ (by omega)).trans g.1, (a1 _ (by omega)).trans g.2, (a2 _ (by omega)).trans g.1, (a2 _ (by omega)).trans g.2⟩
  rw [hn] at hF ⊢
  clear a1 a2 hn
  go_enter Tryd.func28, Tryd.ntmps28
  go_wp2_with fail
  go_loopw [5] (fun y wr => ∃ (i : Nat), i ≤ n ∧ y = .int .i64 i ∧ Below w.heap.size w wr) (fun y _ => n - (intOf y).toNat)
  case atStart => exact ⟨0, Nat.zero_le _, rfl, Below.refl _ _⟩
  case round =>
    obtain ⟨i, hi, rfl, hb⟩ := hrel
    have hbs := hb.size
    by_cases hlt : i < n
    · have d1 : (i : Int) < (n : Int) := by omega
      obtain ⟨x, t, q1, q2, q3, q4⟩ := unhide HA i hlt
      have e1 := (hb.block g1 hl1).trans h1
      have e2 := (hb.block g2 hl2).trans h2
      have k0 : wr.cell? ⟨g1, i * 2, none⟩ = some (.int .i64 x) := by rw [cell_of_row _ _ _ _ _ _ e1]; exact q1
      have k1 : wr.cell? ⟨g1, i * 2 + 1, none⟩ = some (.string t) := by rw [cell_of_row _ _ _ _ _ _ e1]; exact q2
      have k2 : wr.cell? ⟨g2, i * 2, none⟩ = some (.int .i64 x) := by rw [cell_of_row _ _ _ _ _ _ e2]; exact q3
      have k3 : wr.cell? ⟨g2, i * 2 + 1, none⟩ = some (.string t) := by rw [cell_of_row _ _ _ _ _ _ e2]; exact q4
      have C := hide fun v => eqFd x t v
      clear e1 e2 q1 q2 q3 q4 h1 h2
      go_wp2_with fail
      go_region_with (first
        | (go_at_call 43; refine (unhide C _).mono ?_; rintro e w2 ⟨rfl, hb2⟩))
      all_goals
        go_wp2_with fail
        go_roundw
        case rel => exact ⟨i + 1, by omega, by go_num, hb.trans (((Below.refl _ _).drew.trans hb2).mono hbs)⟩
        case measure => simp [intOf]; omega
    · have e : i = n := by omega
      subst e
      have d1 : ¬ ((i : Int) < (i : Int)) := by omega
      go_wp2
      go_ret
      exact ⟨rfl, hb⟩
/-- A row of what was found, of whatever kind: it holds these. -/
def HoldsF (w : World) (v : Value) (F : List Hd.Fd) : Prop :=
  (∃ ad cp, v = .slice ad 0 cp ∧ F = []) ∨ ∃ g cp cur, v = .slice (some ⟨g, 0, none⟩) F.length cp ∧ w.heap[g]? = some (.cells cur 42) ∧ F.length * 2 ≤ cur.size ∧ ∀ j, j < F.length * 2 → cur[j]? = (fcells F)[j]?
theorem HoldsF.own {w : World} {base : Nat} {v : Value} {F : List Hd.Fd} (h : w.ownsRow base 42 2 v F.length (fcells F)) : HoldsF w v F := by
  rcases h.2 with ⟨h1, h2⟩ | ⟨g, cap, cur, h1, _, h3, h4, _, h6, h7⟩
  · exact Or.inl ⟨_, _, h1, List.eq_nil_of_length_eq_zero h2⟩
  · refine Or.inr ⟨g, cap, cur, h1, h3, by rw [h6]; omega, fun j hj => ?_⟩
    rw [← h7, List.getElem?_take, if_pos hj, Array.getElem?_toList]
theorem HoldsF.same {w w' : World} {v : Value} {F : List Hd.Fd} (h : HoldsF w v F) (hb : ∀ g, v.ownBlock = some g → w'.heap[g]? = w.heap[g]?) : HoldsF w' v F :=
  h.imp id fun ⟨g, cp, cur, h1, h2, h3⟩ => ⟨g, cp, cur, h1, (hb g (by rw [h1]; rfl)).trans h2, h3⟩
theorem HoldsF.lt {w : World} {v : Value} {F : List Hd.Fd} (h : HoldsF w v F) (hF : F ≠ []) : ∃ g, v.ownBlock = some g ∧ g < w.heap.size := by
  rcases h with ⟨_, _, _, e⟩ | ⟨g, cp, cur, h1, h2, _⟩
  · exact absurd e hF
  · exact ⟨g, by rw [h1]; rfl, (Array.getElem?_eq_some_iff.1 h2).1⟩
theorem eqS (v1 v2 : Value) (F : List Hd.Fd) (w : World) (hF : F.length ≤ 1000) (h1 : HoldsF w v1 F) (h2 : HoldsF w v2 F) :
    Calls Tryd.prog 28 #[v1, v2] w fun e w' => e = .returned (.bool true) ∧ Below w.heap.size w w' := by
  rcases h1 with ⟨ad1, cp1, rfl, e⟩ | ⟨g1, cp1, cur1, rfl, q1, q2, q3⟩
  · subst e
    rcases h2 with ⟨ad2, cp2, rfl, _⟩ | ⟨g2, cp2, cur2, rfl, _⟩
    · exact eqS0 _ _ _ _ w
    · exact eqS0 _ _ _ _ w
  · rcases h2 with ⟨ad2, cp2, rfl, e⟩ | ⟨g2, cp2, cur2, rfl, r1, r2, r3⟩
    · subst e
      exact eqS0 _ _ _ _ w
    · exact eqS1 g1 g2 cp1 cp2 F cur1 cur2 w hF q1 r1 q3 r3
end Go.Proofs.YteffbodinbmliadDoor
