/- LapbRight, the program's: is an end of a numbered line right; what lay in memory stands. -/
import Derived.Test.YtjgnldkncoighaaLpN
namespace Go.Proofs.Ytjgnldkncoighaa
open Go.RowKit
def numOk (x : Int) : Bool := decide (0 ≤ x) && decide (x ≤ 7)
def qOk (L : List ByteArray) : Bool := decide (L.length ≤ 20) && L.all fun t => decide (t.size ≤ 200)
/-- How far a number is from another one. -/
def far (n a : Int) : Int := (n - a) % 8
/-- Is it right? -/
def lpOk (p : Lp) (L : List ByteArray) : Bool := winOk p.wi && (numOk p.vs && (numOk p.va && (numOk p.vr && (qOk L && (decide (far p.vs p.va ≤ p.wi) && decide (far p.vs p.va ≤ L.length))))))
theorem numOk_iff {x : Int} (h : numOk x = true) : 0 ≤ x ∧ x ≤ 7 := by simpa [numOk] using h
theorem winOk_iff {x : Int} (h : winOk x = true) : 1 ≤ x ∧ x ≤ 7 := by simpa [winOk] using h
theorem all_take {L : List ByteArray} {i : Nat} (hi : i < L.length) : ((L.take (i + 1)).all fun t => decide (t.size ≤ 200)) = (((L.take i).all fun t => decide (t.size ≤ 200)) && decide (L[i].size ≤ 200)) := by
  rw [List.take_succ_eq_append_getElem hi, List.all_append]
  simp
theorem all_not {L : List ByteArray} {i : Nat} (hi : i < L.length) (h : ¬ L[i].size ≤ 200) : (L.all fun t => decide (t.size ≤ 200)) = false := by
  rw [← Bool.not_eq_true]
  intro h2
  exact h (of_decide_eq_true (List.all_eq_true.1 h2 _ (List.getElem_mem hi)))
/-- A row of texts, wherever: it holds these. -/
def HoldsS (w : World) (v : Value) (L : List ByteArray) : Prop :=
  (∃ ad cp, v = .slice ad 0 cp ∧ L = []) ∨ ∃ g o cp cur, v = .slice (some ⟨g, o, none⟩) L.length cp ∧ w.heap[g]? = some (.cells cur 9) ∧ ∀ j (hj : j < L.length), cur[o + j]? = some (.string L[j])
theorem HoldsT.s {w : World} {v : Value} {L : List ByteArray} (h : HoldsT w v L) : HoldsS w v L := by
  rcases h with ⟨ad, cp, h1, h2⟩ | ⟨g, cp, cur, h1, h2, h3, h4⟩
  · exact Or.inl ⟨ad, cp, h1, h2⟩
  · refine Or.inr ⟨g, 0, cp, cur, h1, h2, fun j hj => ?_⟩
    rw [Nat.zero_add, h4 j hj]
    exact scells_get L j _ (List.getElem?_eq_getElem hj)
theorem HoldsS.form {w : World} {v : Value} {L : List ByteArray} (h : HoldsS w v L) : ∃ ad cp, v = .slice ad L.length cp := by
  rcases h with ⟨ad, cp, h1, h2⟩ | ⟨g, o, cp, cur, h1, _⟩
  · exact ⟨ad, cp, by rw [h1, h2]; rfl⟩
  · exact ⟨_, _, h1⟩
theorem HoldsS.below {w w' : World} {v : Value} {L : List ByteArray} (h : HoldsS w v L) (hb : Below w.heap.size w w') : HoldsS w' v L := by
  rcases h with ⟨ad, cp, h1, h2⟩ | ⟨g, o, cp, cur, h1, h2, h3⟩
  · exact Or.inl ⟨ad, cp, h1, h2⟩
  · exact Or.inr ⟨g, o, cp, cur, h1, (hb.block g (Array.getElem?_eq_some_iff.1 h2).1).trans h2, h3⟩
theorem HoldsS.get {w : World} {v : Value} {L : List ByteArray} (h : HoldsS w v L) (i : Nat) (hi : i < L.length) : ∃ g o cp, v = .slice (some ⟨g, o, none⟩) L.length cp ∧ g < w.heap.size ∧ w.cell? ⟨g, o + i, none⟩ = some (.string L[i]) := by
  rcases h with ⟨_, _, _, e⟩ | ⟨g, o, cp, cur, e, q1, q2⟩
  · rw [e] at hi; exact absurd hi (Nat.not_lt_zero _)
  · exact ⟨g, o, cp, e, (Array.getElem?_eq_some_iff.1 q1).1, by rw [cell_of_row _ _ _ _ _ _ q1]; exact q2 i hi⟩
theorem HoldsS.other {w w' : World} {v : Value} {L : List ByteArray} (h : HoldsS w v L) (hw : ∀ g cur, v.ownBlock = some g → w.heap[g]? = some (.cells cur 9) → w'.heap[g]? = w.heap[g]?) : HoldsS w' v L := by
  rcases h with ⟨ad, cp, h1, h2⟩ | ⟨g, o, cp, cur, h1, h2, h3⟩
  · exact Or.inl ⟨ad, cp, h1, h2⟩
  · exact Or.inr ⟨g, o, cp, cur, h1, (hw g cur (by rw [h1]; rfl) h2).trans h2, h3⟩
theorem holdsS_nil (w : World) (ad : Option Addr) (cp : Nat) : HoldsS w (.slice ad 0 cp) [] := Or.inl ⟨ad, cp, rfl, rfl⟩
set_option maxHeartbeats 2000000 in
theorem iQueue (v : Value) (L : List ByteArray) (w : World) (hl : L.length ≤ 1048576) (h : HoldsS w v L) : Calls Try.prog 48 #[v] w fun e w' => e = .returned (.bool (qOk L)) ∧ Below w.heap.size w w' := by
  obtain ⟨x, y, rfl⟩ := h.form
  have HA := hide h
  clear h
  obtain ⟨n, hn⟩ : ∃ n, L.length = n := ⟨_, rfl⟩
  unfold qOk
  rw [hn] at hl ⊢
  by_cases h20 : n ≤ 20
  · rw [show decide (n ≤ 20) = true from decide_eq_true h20, Bool.true_and]
    have d1 : ¬ ((20 : Int) < (n : Int)) := by omega
    obtain ⟨R, hR⟩ : ∃ R, (L.all fun t => decide (t.size ≤ 200)) = R := ⟨_, rfl⟩
    rw [hR]
    have HR := hide hR
    clear hR
    go_enter Try.func48, Try.ntmps48
    go_wp2_with fail
    go_loopw [10] (fun y wr => ∃ (i : Nat), i ≤ n ∧ y = .int .i64 i ∧ wr = w ∧ ((L.take i).all fun t => decide (t.size ≤ 200)) = true) (fun y _ => n - (intOf y).toNat)
    case atStart => exact ⟨0, Nat.zero_le _, rfl, rfl, rfl⟩
    case round =>
      obtain ⟨i, hi, rfl, rfl, ha⟩ := hrel
      by_cases hlt : i < n
      · have d2 : (i : Int) < (n : Int) := by omega
        have d0 : (0 : Int) ≤ (i : Int) := by omega
        obtain ⟨g, o, cp, e1, hg, k1⟩ := (unhide HA).get i (by omega)
        cases e1
        by_cases h2 : (L[i]'(by omega)).size ≤ 200
        · have hT := all_take (L := L) (i := i) (by omega)
          rw [ha, decide_eq_true h2, Bool.true_and] at hT
          have HT := hide hT
          have d3 : ¬ ((200 : Int) < ((L[i]'(by omega)).size : Int)) := by omega
          generalize L[i]'(by omega) = t at *
          clear ha hT
          go_wp2
          go_roundw
          case rel => exact ⟨i + 1, by omega, by go_num, trivial, unhide HT⟩
          case measure => simp [intOf]; omega
        · have hT := all_not (L := L) (i := i) (by omega) h2
          have hR := (unhide HR).symm.trans hT
          subst hR
          have d3 : (200 : Int) < ((L[i]'(by omega)).size : Int) := by omega
          generalize L[i]'(by omega) = t at *
          clear ha hT
          go_wp2
          go_ret
          exact ⟨rfl, Below.refl _ _⟩
      · have e : i = n := by omega
        subst e
        rw [List.take_of_length_le (by omega)] at ha
        have hR := (unhide HR).symm.trans ha
        subst hR
        have d1 : ¬ ((i : Int) < (i : Int)) := by omega
        clear ha
        go_wp2
        go_ret
        exact ⟨rfl, Below.refl _ _⟩
  · rw [show decide (n ≤ 20) = false from decide_eq_false h20, Bool.false_and]
    have d1 : (20 : Int) < (n : Int) := by omega
    go_enter Try.func48, Try.ntmps48
    go_wp2
    go_ret
    exact ⟨rfl, Below.refl _ _⟩
theorem far_lt (n a : Int) : 0 ≤ far n a ∧ far n a < 8 := by unfold far; omega
set_option maxHeartbeats 400000 in
theorem iFar (n a : Int) (hn : 0 ≤ n ∧ n ≤ 7) (ha : 0 ≤ a ∧ a ≤ 7) (w : World) : Calls Try.prog 39 #[.int .i64 n, .int .i64 a] w fun e w' => e = .returned (.int .i64 (far n a)) ∧ w' = w := by
  unfold far
  go_enter Try.func39, Try.ntmps39
  go_wp2
  go_ret
  exact ⟨ret_int (by omega), rfl⟩
set_option maxHeartbeats 4000000 in
theorem iLpRight (p : Lp) (x : Option Addr) (y : Nat) (L : List ByteArray) (w : World) (hl : L.length ≤ 1048576) (h : HoldsS w (.slice x L.length y) L) :
    Calls Try.prog 22 #[.agg (lpC p (.slice x L.length y))] w fun e w' => e = .returned (.bool (lpOk p L)) ∧ Below w.heap.size w w' := by
  have C1 := hide fun v => iWin p.wi v
  have C2 := hide fun v => iNumber p.vs v
  have C3 := hide fun v => iNumber p.va v
  have C4 := hide fun v => iNumber p.vr v
  have C5 := hide fun W (hb : Below w.heap.size w W) => iQueue _ L W hl (h.below hb)
  have hA := hide ((Below.refl w.heap.size w).alloc (Nat.le_refl _) (.cells (lpC p (.slice x L.length y)) 25))
  have hN := hide (heap_alloc_new w (.cells (lpC p (.slice x L.length y)) 25))
  obtain ⟨R, hR⟩ : ∃ R, lpOk p L = R := ⟨_, rfl⟩
  rw [hR]
  unfold lpOk at hR
  have n2 : (decide (0 ≤ p.vs) && decide (p.vs ≤ 7)) = numOk p.vs := rfl
  have n3 : (decide (0 ≤ p.va) && decide (p.va ≤ 7)) = numOk p.va := rfl
  have n4 : (decide (0 ≤ p.vr) && decide (p.vr ≤ 7)) = numOk p.vr := rfl
  rw [n2] at C2
  rw [n3] at C3
  rw [n4] at C4
  obtain ⟨wi, vs, va, vr, ak⟩ := p
  unfold lpC at hA hN ⊢
  dsimp only at *
  clear h n2 n3 n4
  generalize hn : L.length = n at *
  cases b1 : winOk wi
  · rw [b1] at hR
    simp only [Bool.false_and] at hR
    subst hR
    rw [b1] at C1
    go_enter Try.func22, Try.ntmps22
    go_wp2_with fail
    refine (unhide C1 _).mono ?_
    rintro e w2 ⟨rfl, hw⟩
    replace hw := hw.symm
    subst hw
    go_wp2
    go_ret
    exact ⟨rfl, unhide hA⟩
  cases b2 : numOk vs
  · rw [b1, b2] at hR
    simp only [Bool.true_and, Bool.false_and] at hR
    subst hR
    rw [b1] at C1
    rw [b2] at C2
    go_enter Try.func22, Try.ntmps22
    go_wp2_with fail
    refine (unhide C1 _).mono ?_
    rintro e w2 ⟨rfl, hw⟩
    replace hw := hw.symm
    subst hw
    go_wp2_with fail
    refine (unhide C2 _).mono ?_
    rintro e w2 ⟨rfl, hw⟩
    replace hw := hw.symm
    subst hw
    go_wp2
    go_ret
    exact ⟨rfl, unhide hA⟩
  cases b3 : numOk va
  · rw [b1, b2, b3] at hR
    simp only [Bool.true_and, Bool.false_and] at hR
    subst hR
    rw [b1] at C1
    rw [b2] at C2
    rw [b3] at C3
    go_enter Try.func22, Try.ntmps22
    go_wp2_with fail
    refine (unhide C1 _).mono ?_
    rintro e w2 ⟨rfl, hw⟩
    replace hw := hw.symm
    subst hw
    go_wp2_with fail
    refine (unhide C2 _).mono ?_
    rintro e w2 ⟨rfl, hw⟩
    replace hw := hw.symm
    subst hw
    go_wp2_with fail
    refine (unhide C3 _).mono ?_
    rintro e w2 ⟨rfl, hw⟩
    replace hw := hw.symm
    subst hw
    go_wp2
    go_ret
    exact ⟨rfl, unhide hA⟩
  cases b4 : numOk vr
  · rw [b1, b2, b3, b4] at hR
    simp only [Bool.true_and, Bool.false_and] at hR
    subst hR
    rw [b1] at C1
    rw [b2] at C2
    rw [b3] at C3
    rw [b4] at C4
    go_enter Try.func22, Try.ntmps22
    go_wp2_with fail
    refine (unhide C1 _).mono ?_
    rintro e w2 ⟨rfl, hw⟩
    replace hw := hw.symm
    subst hw
    go_wp2_with fail
    refine (unhide C2 _).mono ?_
    rintro e w2 ⟨rfl, hw⟩
    replace hw := hw.symm
    subst hw
    go_wp2_with fail
    refine (unhide C3 _).mono ?_
    rintro e w2 ⟨rfl, hw⟩
    replace hw := hw.symm
    subst hw
    go_wp2_with fail
    refine (unhide C4 _).mono ?_
    rintro e w2 ⟨rfl, hw⟩
    replace hw := hw.symm
    subst hw
    go_wp2
    go_ret
    exact ⟨rfl, unhide hA⟩
  cases b5 : qOk L
  · rw [b1, b2, b3, b4, b5] at hR
    simp only [Bool.true_and, Bool.false_and] at hR
    subst hR
    rw [b1] at C1
    rw [b2] at C2
    rw [b3] at C3
    rw [b4] at C4
    rw [b5] at C5
    go_enter Try.func22, Try.ntmps22
    go_wp2_with fail
    refine (unhide C1 _).mono ?_
    rintro e w2 ⟨rfl, hw⟩
    replace hw := hw.symm
    subst hw
    go_wp2_with fail
    refine (unhide C2 _).mono ?_
    rintro e w2 ⟨rfl, hw⟩
    replace hw := hw.symm
    subst hw
    go_wp2_with fail
    refine (unhide C3 _).mono ?_
    rintro e w2 ⟨rfl, hw⟩
    replace hw := hw.symm
    subst hw
    go_wp2_with fail
    refine (unhide C4 _).mono ?_
    rintro e w2 ⟨rfl, hw⟩
    replace hw := hw.symm
    subst hw
    go_wp2_with fail
    refine (unhide C5 _ (unhide hA)).mono ?_
    rintro e w2 ⟨rfl, hb⟩
    go_wp2
    go_ret
    exact ⟨rfl, (unhide hA).trans (hb.mono (unhide hA).size)⟩
  rw [b1, b2, b3, b4, b5] at hR
  simp only [Bool.true_and] at hR
  rw [b1] at C1
  rw [b2] at C2
  rw [b3] at C3
  rw [b4] at C4
  rw [b5] at C5
  have CF := hide fun v => iFar vs va (numOk_iff b2) (numOk_iff b3) v
  obtain ⟨f0, f8⟩ := far_lt vs va
  have w1 := winOk_iff b1
  generalize far vs va = f at *
  go_enter Try.func22, Try.ntmps22
  go_wp2_with fail
  refine (unhide C1 _).mono ?_
  rintro e w2 ⟨rfl, hw⟩
  replace hw := hw.symm
  subst hw
  go_wp2_with fail
  refine (unhide C2 _).mono ?_
  rintro e w2 ⟨rfl, hw⟩
  replace hw := hw.symm
  subst hw
  go_wp2_with fail
  refine (unhide C3 _).mono ?_
  rintro e w2 ⟨rfl, hw⟩
  replace hw := hw.symm
  subst hw
  go_wp2_with fail
  refine (unhide C4 _).mono ?_
  rintro e w2 ⟨rfl, hw⟩
  replace hw := hw.symm
  subst hw
  go_wp2_with fail
  refine (unhide C5 _ (unhide hA)).mono ?_
  rintro e w2 ⟨rfl, hb⟩
  have k0 := (hb.block w.heap.size (by simp)).trans (unhide hN)
  obtain ⟨a0, a1, a2, a3, a4, a5⟩ := row6l k0
  have HB := hide ((unhide hA).trans (hb.mono (unhide hA).size))
  clear k0 hb hA hN C1 C2 C3 C4 C5
  go_wp2_with fail
  go_quiet (first
    | (go_at_call 39; exact Calls.quiet_of_same (unhide CF _)))
  all_goals
    go_wp2
    all_goals
      go_ret
      refine ⟨ret_bool ?_, (unhide HB).os, (unhide HB).tape, (unhide HB).output, (unhide HB).size, (unhide HB).block⟩
      rw [← hR, Bool.eq_iff_iff]
      simp
      omega
end Go.Proofs.Ytjgnldkncoighaa
