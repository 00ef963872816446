/- LapbRight, the model's: is an end of a numbered line right; what lay in memory stands. -/
import Derived.Test.YtjgnldkncoighaaLpR
namespace Go.Proofs.Ytjgnldkncoighaa
open Go.RowKit
set_option maxHeartbeats 400000 in
theorem sFar (n a : Int) (hn : 0 ≤ n ∧ n ≤ 7) (ha : 0 ≤ a ∧ a ≤ 7) (w : World) : Calls Try.prog 36 #[.int .i64 a, .int .i64 n] w fun e w' => e = .returned (.int .i64 (far n a)) ∧ w' = w := by
  unfold far
  go_enter Try.func36, Try.ntmps36
  go_wp2
  go_ret
  exact ⟨ret_int (by omega), rfl⟩
set_option maxHeartbeats 4000000 in
theorem sLpRight (p : Lp) (x : Option Addr) (y : Nat) (L : List ByteArray) (w : World) (hl : L.length ≤ 1048576) (h : HoldsS w (.slice x L.length y) L) :
    Calls Try.prog 23 #[.agg (lpC p (.slice x L.length y))] w fun e w' => e = .returned (.bool (lpOk p L)) ∧ Below w.heap.size w w' := by
  have C1 := hide fun v => sWin p.wi v
  have C2 := hide fun v => sNumber p.vs v
  have C3 := hide fun v => sNumber p.va v
  have C4 := hide fun v => sNumber p.vr v
  have hA := hide ((Below.refl w.heap.size w).alloc (Nat.le_refl _) (.cells (lpC p (.slice x L.length y)) 25))
  have hN := hide (heap_alloc_new w (.cells (lpC p (.slice x L.length y)) 25))
  have HA := hide h
  obtain ⟨R, hR⟩ : ∃ R, lpOk p L = R := ⟨_, rfl⟩
  rw [hR]
  unfold lpOk qOk at hR
  have n2 : (decide (0 ≤ p.vs) && decide (p.vs ≤ 7)) = numOk p.vs := rfl
  have n3 : (decide (0 ≤ p.va) && decide (p.va ≤ 7)) = numOk p.va := rfl
  have n4 : (decide (0 ≤ p.vr) && decide (p.vr ≤ 7)) = numOk p.vr := rfl
  rw [n2] at C2
  rw [n3] at C3
  rw [n4] at C4
  obtain ⟨wi, vs, va, vr, ak⟩ := p
  unfold lpC at hA hN ⊢
  dsimp only at *
  clear h n2 n3 n4
  generalize hn : L.length = n at *
  cases b1 : winOk wi
  · rw [b1] at hR
    simp only [Bool.false_and] at hR
    subst hR
    rw [b1] at C1
    go_enter Try.func23, Try.ntmps23
    go_wp2_with fail
    refine (unhide C1 _).mono ?_
    rintro e w2 ⟨rfl, hw⟩
    replace hw := hw.symm
    subst hw
    go_wp2
    go_ret
    exact ⟨rfl, unhide hA⟩
  cases b2 : numOk vs
  · rw [b1, b2] at hR
    simp only [Bool.true_and, Bool.false_and] at hR
    subst hR
    rw [b1] at C1
    rw [b2] at C2
    go_enter Try.func23, Try.ntmps23
    go_wp2_with fail
    refine (unhide C1 _).mono ?_
    rintro e w2 ⟨rfl, hw⟩
    replace hw := hw.symm
    subst hw
    go_wp2_with fail
    refine (unhide C2 _).mono ?_
    rintro e w2 ⟨rfl, hw⟩
    replace hw := hw.symm
    subst hw
    go_wp2
    go_ret
    exact ⟨rfl, unhide hA⟩
  cases b3 : numOk va
  · rw [b1, b2, b3] at hR
    simp only [Bool.true_and, Bool.false_and] at hR
    subst hR
    rw [b1] at C1
    rw [b2] at C2
    rw [b3] at C3
    go_enter Try.func23, Try.ntmps23
    go_wp2_with fail
    refine (unhide C1 _).mono ?_
    rintro e w2 ⟨rfl, hw⟩
    replace hw := hw.symm
    subst hw
    go_wp2_with fail
    refine (unhide C2 _).mono ?_
    rintro e w2 ⟨rfl, hw⟩
    replace hw := hw.symm
    subst hw
    go_wp2_with fail
    refine (unhide C3 _).mono ?_
    rintro e w2 ⟨rfl, hw⟩
    replace hw := hw.symm
    subst hw
    go_wp2
    go_ret
    exact ⟨rfl, unhide hA⟩
  cases b4 : numOk vr
  · rw [b1, b2, b3, b4] at hR
    simp only [Bool.true_and, Bool.false_and] at hR
    subst hR
    rw [b1] at C1
    rw [b2] at C2
    rw [b3] at C3
    rw [b4] at C4
    go_enter Try.func23, Try.ntmps23
    go_wp2_with fail
    refine (unhide C1 _).mono ?_
    rintro e w2 ⟨rfl, hw⟩
    replace hw := hw.symm
    subst hw
    go_wp2_with fail
    refine (unhide C2 _).mono ?_
    rintro e w2 ⟨rfl, hw⟩
    replace hw := hw.symm
    subst hw
    go_wp2_with fail
    refine (unhide C3 _).mono ?_
    rintro e w2 ⟨rfl, hw⟩
    replace hw := hw.symm
    subst hw
    go_wp2_with fail
    refine (unhide C4 _).mono ?_
    rintro e w2 ⟨rfl, hw⟩
    replace hw := hw.symm
    subst hw
    go_wp2
    go_ret
    exact ⟨rfl, unhide hA⟩
  rw [b1, b2, b3, b4] at hR
  simp only [Bool.true_and] at hR
  rw [b1] at C1
  rw [b2] at C2
  rw [b3] at C3
  rw [b4] at C4
  by_cases h20 : ¬ n ≤ 20
  · rw [show decide (n ≤ 20) = false from decide_eq_false h20, Bool.false_and, Bool.false_and] at hR
    subst hR
    have d1 : (20 : Int) < (n : Int) := by omega
    go_enter Try.func23, Try.ntmps23
    go_wp2_with fail
    refine (unhide C1 _).mono ?_
    rintro e w2 ⟨rfl, hw⟩
    replace hw := hw.symm
    subst hw
    go_wp2_with fail
    refine (unhide C2 _).mono ?_
    rintro e w2 ⟨rfl, hw⟩
    replace hw := hw.symm
    subst hw
    go_wp2_with fail
    refine (unhide C3 _).mono ?_
    rintro e w2 ⟨rfl, hw⟩
    replace hw := hw.symm
    subst hw
    go_wp2_with fail
    refine (unhide C4 _).mono ?_
    rintro e w2 ⟨rfl, hw⟩
    replace hw := hw.symm
    subst hw
    go_wp2
    go_ret
    exact ⟨rfl, unhide hA⟩
  replace h20 : n ≤ 20 := by omega
  rw [show decide (n ≤ 20) = true from decide_eq_true h20, Bool.true_and] at hR
  have d1 : ¬ ((20 : Int) < (n : Int)) := by omega
  have CF := hide fun v => sFar vs va (numOk_iff b2) (numOk_iff b3) v
  obtain ⟨f0, f8⟩ := far_lt vs va
  have w1 := winOk_iff b1
  generalize far vs va = f at *
  go_enter Try.func23, Try.ntmps23
  go_wp2_with fail
  refine (unhide C1 _).mono ?_
  rintro e w2 ⟨rfl, hw⟩
  replace hw := hw.symm
  subst hw
  go_wp2_with fail
  refine (unhide C2 _).mono ?_
  rintro e w2 ⟨rfl, hw⟩
  replace hw := hw.symm
  subst hw
  go_wp2_with fail
  refine (unhide C3 _).mono ?_
  rintro e w2 ⟨rfl, hw⟩
  replace hw := hw.symm
  subst hw
  go_wp2_with fail
  refine (unhide C4 _).mono ?_
  rintro e w2 ⟨rfl, hw⟩
  replace hw := hw.symm
  subst hw
  go_wp2_with fail
  refine gen_world (fun q => q.heap[w.heap.size]? = some (.cells #[.int .i64 wi, .int .i64 vs, .int .i64 va, .int .i64 vr, .slice x n y, .bool ak] 25) ∧ Below w.heap.size w q) ⟨unhide hN, unhide hA⟩ ?_
  rintro q ⟨hq1, hq2⟩
  obtain ⟨a0, a1, a2, a3, a4, a5⟩ := row6l hq1
  have HH := (unhide HA).below (show Below w.heap.size w q from hq2)
  replace HA := hide HH
  have HB := hide hq2
  obtain ⟨Ra, hRa⟩ : ∃ Ra, (L.all fun t => decide (t.size ≤ 200)) = Ra := ⟨_, rfl⟩
  rw [hRa] at hR
  have HR := hide hRa
  clear hq1 hq2 HH hRa hA hN C1 C2 C3 C4
  go_loopw [3] (fun y wr => ∃ (i : Nat), i ≤ n ∧ y = .int .i64 i ∧ wr = q ∧ ((L.take i).all fun t => decide (t.size ≤ 200)) = true) (fun y _ => n - (intOf y).toNat)
  case atStart => exact ⟨0, Nat.zero_le _, rfl, rfl, rfl⟩
  case round =>
    obtain ⟨i, hi, rfl, rfl, ha⟩ := hrel
    by_cases hlt : i < n
    · have d2 : (i : Int) < (n : Int) := by omega
      have d0 : (0 : Int) ≤ (i : Int) := by omega
      obtain ⟨g, o, cp, e1, hg, k1⟩ := (unhide HA).get i (by omega)
      cases e1
      by_cases h2 : (L[i]'(by omega)).size ≤ 200
      · have hT := all_take (L := L) (i := i) (by omega)
        rw [ha, decide_eq_true h2, Bool.true_and] at hT
        have HT := hide hT
        have d3 : ¬ ((200 : Int) < ((L[i]'(by omega)).size : Int)) := by omega
        generalize L[i]'(by omega) = t at *
        clear ha hT
        go_wp2
        go_roundw
        case rel => exact ⟨i + 1, by omega, by go_num, trivial, unhide HT⟩
        case measure => simp [intOf]; omega
      · have hT := all_not (L := L) (i := i) (by omega) h2
        have hRa := (unhide HR).symm.trans hT
        subst hRa
        rw [Bool.false_and] at hR
        subst hR
        have d3 : (200 : Int) < ((L[i]'(by omega)).size : Int) := by omega
        generalize L[i]'(by omega) = t at *
        clear ha hT
        go_wp2
        go_ret
        exact ⟨rfl, unhide HB⟩
    · have e : i = n := by omega
      subst e
      rw [List.take_of_length_le (by omega)] at ha
      have hRa := (unhide HR).symm.trans ha
      subst hRa
      rw [Bool.true_and] at hR
      have d1 : ¬ ((i : Int) < (i : Int)) := by omega
      clear ha
      by_cases hf : f ≤ wi
      · have d2 : decide (f ≤ wi) = true := decide_eq_true hf
        rw [d2, Bool.true_and] at hR
        subst hR
        go_wp2_with fail
        refine (unhide CF _).mono ?_
        rintro e w2 ⟨rfl, hw⟩
        replace hw := hw.symm
        subst hw
        go_wp2
        go_ret
        exact ⟨rfl, unhide HB⟩
      · have d2 : decide (f ≤ wi) = false := decide_eq_false hf
        rw [d2, Bool.false_and] at hR
        subst hR
        go_wp2_with fail
        refine (unhide CF _).mono ?_
        rintro e w2 ⟨rfl, hw⟩
        replace hw := hw.symm
        subst hw
        go_wp2
        go_ret
        exact ⟨rfl, unhide HB⟩
end Go.Proofs.Ytjgnldkncoighaa
