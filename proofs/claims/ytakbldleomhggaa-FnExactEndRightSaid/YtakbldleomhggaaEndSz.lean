/- How great an End's rows are, by the law's szEnd; what lay in memory stands. -/
import Derived.Test.YtakbldleomhggaaEndTo
namespace Go.Proofs.Ytakbldleomhggaa
open Go.RowKit
set_option maxHeartbeats 2000000 in
theorem szOsM (v : Value) (F : List Op.Opt) (k : Nat) (w : World) (hk : k ≤ 1048576) (hn : F.length ≤ maxLen) (h : ArgO w v F) :
    Calls Try.prog 8 #[v, .int .i64 k] w fun e w' => ∃ z : Int, e = .returned (.int .i64 z) ∧ (z = -1 ∨ (F.length ≤ 1048576 ∧ ∃ m : Nat, z = (m : Int) ∧ m ≤ 1048576)) ∧ Below w.heap.size w w' := by
  unfold maxLen at hn
  obtain ⟨va, vc, rfl⟩ := h.1
  have HA := hide h
  clear h
  obtain ⟨n, hnn⟩ : ∃ n, F.length = n := ⟨_, rfl⟩
  rw [hnn] at hn ⊢
  by_cases h1 : n ≤ k
  · have d1 : ¬ ((k : Int) - (n : Int) < 0) := by omega
    go_enter Try.func8, Try.ntmps8
    go_wp2_with fail
    have hst : (k : Int) - (n : Int) = ((k - n : Nat) : Int) := by omega
    have HST := hide hst
    clear hst
    go_loopw [1, 5] (fun x y wr => ∃ (m i : Nat), m ≤ 1048576 ∧ i ≤ n ∧ x = .int .i64 m ∧ y = .int .i64 i ∧ Below w.heap.size w wr) (fun _ y _ => n - (intOf y).toNat)
    case atStart => exact ⟨k - n, 0, by omega, Nat.zero_le _, by rw [unhide HST], rfl, Below.refl _ _⟩
    case round =>
      obtain ⟨m, i, hm, hi, rfl, rfl, hb⟩ := hrel
      have hbs := hb.size
      by_cases hlt : i < n
      · have e1 : (i : Int) < (n : Int) := by omega
        obtain ⟨b, o, cap, hvf, hbl, k0, k1, hsz⟩ := (unhide HA).2 i (by omega)
        have hvf' : va = some ⟨b, o, none⟩ := by
          simp only [Value.slice.injEq] at hvf
          exact hvf.1
        subst hvf'
        generalize hO : F[i]'(by omega) = op at *
        obtain ⟨kd, dt⟩ := op
        dsimp only at k0 k1 hsz
        have c0 := (hb.cell (p := ⟨b, o + i * 2, none⟩) hbl).trans k0
        have c1 := (hb.cell (p := ⟨b, o + i * 2 + 1, none⟩) hbl).trans k1
        have C := hide fun v => szO kd dt m v hsz hm
        clear k0 k1 hvf hO HST
        by_cases hd : dt.size ≤ m
        · rw [if_pos hd] at C
          have e2 : ¬ (((m - dt.size : Nat) : Int) < 0) := by omega
          go_wp2_with fail
          refine (unhide C _).mono ?_
          rintro e w2 ⟨rfl, hb2⟩
          go_wp2
          go_roundw
          case rel => exact ⟨m - dt.size, i + 1, by omega, by omega, rfl, by go_num, hb.trans (hb2.mono hbs)⟩
          case measure => simp [intOf]; omega
        · rw [if_neg hd] at C
          have e2 : (-1 : Int) < 0 := by decide
          go_wp2_with fail
          refine (unhide C _).mono ?_
          rintro e w2 ⟨rfl, hb2⟩
          go_wp2
          go_ret
          exact ⟨-1, rfl, Or.inl rfl, hb.trans (hb2.mono hbs)⟩
      · have e1 : ¬ ((i : Int) < (n : Int)) := by omega
        go_wp2
        go_ret
        exact ⟨_, rfl, Or.inr ⟨by omega, m, rfl, hm⟩, hb⟩
  · have d1 : (k : Int) - (n : Int) < 0 := by omega
    go_enter Try.func8, Try.ntmps8
    go_wp2
    go_ret
    exact ⟨-1, rfl, Or.inl rfl, Below.refl _ _⟩
set_option maxHeartbeats 2000000 in
set_option maxRecDepth 100000 in
theorem szEndE (e : En) (x1 x2 : Option Addr) (y1 y2 : Nat) (F1 F2 : List Op.Opt) (w : World) (l1 : F1.length ≤ maxLen) (l2 : F2.length ≤ maxLen)
    (h1 : ArgO w (.slice x1 F1.length y1) F1) (h2 : ArgO w (.slice x2 F2.length y2) F2) :
    Calls Try.prog 29 #[.agg (enC e (.slice x1 F1.length y1) (.slice x2 F2.length y2)), .int .i64 1048576] w fun r w' => ∃ z : Int, r = .returned (.int .i64 z) ∧ (z = -1 ∨ (F1.length ≤ 1048576 ∧ F2.length ≤ 1048576 ∧ ∃ m : Nat, z = (m : Int) ∧ m ≤ 1048576)) ∧ Below w.heap.size w w' := by
  obtain ⟨m1, a1, g1, p1, c1, d1, m2, a2, g2, p2, c2, d2, st, tr, du, id, fl, up, i1, i2, i3, i4, i5, o1, o2, o3, o4, o5⟩ := e
  have hA := heap_alloc_new w (.cells (enC ⟨m1, a1, g1, p1, c1, d1, m2, a2, g2, p2, c2, d2, st, tr, du, id, fl, up, i1, i2, i3, i4, i5, o1, o2, o3, o4, o5⟩ (.slice x1 F1.length y1) (.slice x2 F2.length y2)) 57)
  have hbA : Below w.heap.size w (w.alloc (.cells (enC ⟨m1, a1, g1, p1, c1, d1, m2, a2, g2, p2, c2, d2, st, tr, du, id, fl, up, i1, i2, i3, i4, i5, o1, o2, o3, o4, o5⟩ (.slice x1 F1.length y1) (.slice x2 F2.length y2)) 57)) := (Below.refl _ _).alloc (Nat.le_refl _) _
  have C1 := hide fun W (hb : Below w.heap.size w W) => szOsM _ F1 1048576 W (Nat.le_refl _) l1 (h1.below hb)
  have C2 := hide fun (k : Nat) (hk : k ≤ 1048576) W (hb : Below w.heap.size w W) => szOsM _ F2 k W hk l2 (h2.below hb)
  unfold enC at hA hbA ⊢
  dsimp only at hA hbA ⊢
  have HA := hide (And.intro hA hbA)
  clear hA hbA h1 h2 l1 l2
  generalize F1.length = n1 at *
  generalize F2.length = n2 at *
  go_enter Try.func29, Try.ntmps29
  go_wp2_with fail
  refine (unhide C1 _ (unhide HA).2).mono ?_
  rintro r w1 ⟨z, rfl, hz, hb1⟩
  have hr1 := (hb1.block w.heap.size (by simp)).trans (unhide HA).1
  have hB1 := (unhide HA).2.trans (hb1.mono (unhide HA).2.size)
  have c18 : w1.cell? ⟨w.heap.size, 18, none⟩ = some (.slice x2 n2 y2) := by rw [cell_of_row _ _ _ _ _ _ hr1]; rfl
  have H1 := hide hB1
  clear hr1 hB1 hb1 HA C1
  rcases hz with rfl | ⟨hz1, k, rfl, hk⟩
  · have e1 : (-1 : Int) < 0 := by decide
    go_wp2
    go_ret
    exact ⟨-1, rfl, Or.inl rfl, unhide H1⟩
  · have e1 : ¬ ((k : Int) < 0) := by omega
    go_wp2_with fail
    refine (unhide C2 k hk _ (unhide H1)).mono ?_
    rintro r w2 ⟨z, rfl, hz, hb2⟩
    have H2 := hide ((unhide H1).trans (hb2.mono (unhide H1).size))
    clear hb2 H1 C2 c18 e1
    rcases hz with rfl | ⟨hz2, k2, rfl, hk2⟩
    · have e1 : (-1 : Int) < 0 := by decide
      go_wp2
      go_ret
      exact ⟨-1, rfl, Or.inl rfl, unhide H2⟩
    · have e1 : ¬ ((k2 : Int) < 0) := by omega
      go_wp2
      go_ret
      exact ⟨_, rfl, Or.inr ⟨hz1, hz2, k2, rfl, hk2⟩, unhide H2⟩
end Go.Proofs.Ytakbldleomhggaa
