/- The model's l09Dead: can a run become whole no more; memory stands. -/
import Derived.Test.YtfkeokfmancgiaaBdY
namespace Go.Proofs.Ytfkeokfmancgiaa
open Go.RowKit
/-- The number of the part ahead of a place. -/
def preP (R : List Fg) (i : Nat) : Int := match i with | 0 => -1 | j + 1 => (R[j]?.map (·.seq)).getD (-1)
def aheadD (m : Int) (R : List Fg) (i : Nat) (a : Fg) : Bool := !a.beg && (decide (a.seq - 1 ≤ m) || decide (a.seq - 1 = preP R i))
def behindD (m : Int) (z : Fg) (rest : List Fg) : Bool := !z.fin && (decide (z.seq + 1 ≤ m) || (match rest with | [] => false | b :: _ => decide (b.seq = z.seq + 1)))
theorem dead_eq (m : Int) (R : List Fg) (i : Nat) (a z : Fg) (rest : List Fg) : deadP m (preP R i) a z rest = (aheadD m R i a || behindD m z rest) := rfl
set_option maxHeartbeats 16000000 in
set_option maxRecDepth 100000 in
theorem sDeadB (q : World) (R : List Fg) (ad : Option Addr) (cp i j : Nat) (m : Int) (hR : HoldsG q (.slice ad R.length cp) R) (hi : i < R.length) (hj : j < R.length) (hlen : R.length ≤ 1000) (hok : ∀ f ∈ R, 0 ≤ f.seq ∧ f.seq ≤ 16777215) (hm : -1 ≤ m) :
    Calls Try.prog 55 #[.slice ad R.length cp, .int .i64 (i : Nat), .int .i64 ((j + 1 : Nat) : Int), .int .i64 m] q fun e q' => e = .returned (.bool (aheadD m R i R[i] || behindD m R[j] (R.drop (j + 1)))) ∧ q' = q := by
  obtain ⟨g, cp', ev, c0, c1, _, _⟩ := getG hR i hi
  cases ev
  obtain ⟨g', cp'', ev, d0, _, d2, _⟩ := getG hR j hj
  cases ev
  have hfa := hok R[i] (List.getElem_mem hi)
  have hfz := hok R[j] (List.getElem_mem hj)
  have hi' : (i : Int) < (R.length : Int) := by omega
  have hj' : (j : Int) < (R.length : Int) := by omega
  have hA : (i = 0 ∧ preP R i = -1) ∨ (0 < i ∧ ∃ n, preP R i = n ∧ q.cell? ⟨g, (i - 1) * 4, none⟩ = some (.int .i64 n)) := by
    cases i with
    | zero => exact Or.inl ⟨rfl, rfl⟩
    | succ i =>
      right
      obtain ⟨g2, cp2, ev, p0, _⟩ := getG hR i (by omega)
      cases ev
      refine ⟨by omega, (R[i]'(by omega)).seq, ?_, p0⟩
      simp [preP, show i < R.length by omega]
  have hB : (R.length ≤ j + 1 ∧ R.drop (j + 1) = []) ∨ (j + 1 < R.length ∧ ∃ b l, R.drop (j + 1) = b :: l ∧ q.cell? ⟨g, (j + 1) * 4, none⟩ = some (.int .i64 b.seq)) := by
    by_cases h : j + 1 < R.length
    · right
      obtain ⟨g2, cp2, ev, p0, _⟩ := getG hR (j + 1) h
      cases ev
      exact ⟨h, _, _, List.drop_eq_getElem_cons h, p0⟩
    · exact Or.inl ⟨by omega, List.drop_eq_nil_of_le (by omega)⟩
  generalize R[i] = fa at c0 c1 hfa
  generalize R[j] = fz at d0 d2 hfz
  obtain ⟨a1, a2, a3, a4⟩ := fa
  obtain ⟨z1, z2, z3, z4⟩ := fz
  unfold aheadD
  generalize preP R i = pr at hA
  generalize R.drop (j + 1) = rs at hB
  dsimp only at c0 c1 d0 d2 hfa hfz ⊢
  obtain ⟨b1, hb1⟩ : ∃ b1, (!a2 && (decide (a1 - 1 ≤ m) || decide (a1 - 1 = pr))) = b1 := ⟨_, rfl⟩
  rw [hb1]
  clear hR hok
  go_enter Try.func55, Try.ntmps55
  go_upto_region 2 with fail
  go_cut [45] (fun v wx => v = .bool b1 ∧ wx = q)
  case first =>
    have h01 : (0 : Int) ≤ (i : Int) := by omega
    cases a2
    · by_cases h1 : a1 - 1 ≤ m
      · have : b1 = true := by rw [← hb1]; simp [h1]
        subst this
        clear hA hB hb1
        by_cases h0 : a1 - 1 < 0
        · go_wp2_with fail
          go_meet
          exact ⟨rfl, rfl⟩
        · go_wp2_with fail
          go_meet
          exact ⟨rfl, rfl⟩
      · have h0 : ¬ (a1 - 1 < 0) := by omega
        rcases hA with ⟨ei, ep⟩ | ⟨hpos, n, ep, cN⟩
        · have hbv : b1 = false := by rw [← hb1, ep]; simp; omega
          subst hbv ei
          clear hB hb1 ep
          go_wp2_with fail
          go_meet
          exact ⟨rfl, rfl⟩
        · subst ep
          have hpos' : (0 : Int) < (i : Int) := by omega
          have hsub : ((i : Int) - 1).toNat = i - 1 := by omega
          have hs2 : (i : Int) - 1 < (R.length : Int) := by omega
          have hs3 : (0 : Int) ≤ (i : Int) - 1 := by omega
          have hbv : b1 = (pr == a1 - 1) := by
            rw [← hb1]
            simp [show ¬ (a1 - 1 ≤ m) from h1]
            rw [Bool.eq_iff_iff]
            simp
            exact ⟨fun h => h.symm, fun h => h.symm⟩
          clear hB hb1
          go_wp2_with fail
          go_meet
          exact ⟨by rw [hbv], rfl⟩
    · have : b1 = false := by rw [← hb1]; rfl
      subst this
      clear hA hB hb1
      go_wp2_with fail
      go_meet
      exact ⟨rfl, rfl⟩
  case rest =>
    obtain ⟨hv, hw⟩ := hcut
    subst hv
    replace hw := hw.symm
    subst hw
    clear hA hb1 c0 c1
    have k01 : (0 : Int) ≤ (j : Int) := by omega
    have k02 : (0 : Int) ≤ (j : Int) + 1 := by omega
    cases b1
    · cases z3
      · by_cases h1 : z1 + 1 ≤ m
        · clear hB
          go_wp2_with fail
          go_ret
          exact ⟨by unfold behindD; simp [h1], rfl⟩
        · rcases hB with ⟨hl, er⟩ | ⟨hl, b, l, er, cB⟩
          · subst er
            have hl' : ¬ ((j : Int) + 1 < (R.length : Int)) := by omega
            go_wp2_with fail
            go_ret
            exact ⟨by unfold behindD; simp; omega, rfl⟩
          · subst er
            obtain ⟨b1, b2, b3, b4⟩ := b
            dsimp only at cB
            have hl' : (j : Int) + 1 < (R.length : Int) := by omega
            go_wp2_with fail
            go_ret
            refine ⟨?_, rfl⟩
            unfold behindD
            dsimp only
            rw [show decide (z1 + 1 ≤ m) = false from decide_eq_false (by omega)]
            rfl
      · clear hB
        go_wp2_with fail
        go_ret
        exact ⟨rfl, rfl⟩
    · clear hB
      go_wp2_with fail
      go_ret
      exact ⟨by rw [Bool.true_or]; rfl, rfl⟩
end Go.Proofs.Ytfkeokfmancgiaa
