/- Is an End right: the program's EndRight; what lay in memory stands. -/
import Derived.Test.YtghopihgnmnlcaaGreatDoorS15
import Derived.BigQuiet
namespace Go.Proofs.YtghopihgnmnlcaaGreatDoor
open Go.RowKit
set_option maxHeartbeats 400000 in
theorem implWithin (x lo hi : Int) (w : World) : Calls Tryz.prog 80 #[.int .i64 x, .int .i64 lo, .int .i64 hi] w fun e w' => e = .returned (.bool (within lo hi x)) ∧ w' = w := by
  unfold within
  by_cases h1 : lo ≤ x
  · rw [decide_eq_true h1, Bool.true_and]
    go_enter Tryz.func80, Tryz.ntmps80
    go_wp2
    go_ret
    exact ⟨rfl, rfl⟩
  · rw [decide_eq_false h1, Bool.false_and]
    go_enter Tryz.func80, Tryz.ntmps80
    go_wp2
    go_ret
    exact ⟨rfl, rfl⟩
set_option maxHeartbeats 400000 in
theorem implWaits (B : Nat) (st : Int) (w : World) (c12 : w.cell? ⟨B, 12, none⟩ = some (.int .i64 st)) : Calls Tryz.prog 113 #[.pointer (some ⟨B, 0, none⟩)] w fun e w' => e = .returned (.bool (runs st)) ∧ w' = w := by
  have C := hide (implWithin st 4 8 w)
  have e : runs st = within 4 8 st := rfl
  rw [e]
  go_enter Tryz.func113, Tryz.ntmps113
  go_wp2_with fail
  refine (unhide C).mono ?_
  rintro r ws ⟨rfl, hws⟩
  replace hws := hws.symm
  subst hws
  go_wp2
  go_ret
  exact ⟨rfl, rfl⟩
set_option maxHeartbeats 400000 in
theorem implDue (B : Nat) (st du : Int) (w : World) (c12 : w.cell? ⟨B, 12, none⟩ = some (.int .i64 st)) (c14 : w.cell? ⟨B, 14, none⟩ = some (.int .i64 du)) : Calls Tryz.prog 81 #[.pointer (some ⟨B, 0, none⟩)] w fun e w' => e = .returned (.bool (if runs st = true then within 0 1000000003 du else du == -1)) ∧ w' = w := by
  have C := hide (implWaits B st w c12)
  have CD := hide (implWithin du 0 1000000003 w)
  cases hr : runs st
  · rw [hr] at C
    rw [if_neg (by decide)]
    go_enter Tryz.func81, Tryz.ntmps81
    go_wp2_with fail
    refine (unhide C).mono ?_
    rintro r ws ⟨rfl, hws⟩
    replace hws := hws.symm
    subst hws
    go_wp2
    go_ret
    exact ⟨rfl, rfl⟩
  · rw [hr] at C
    rw [if_pos rfl]
    go_enter Tryz.func81, Tryz.ntmps81
    go_wp2_with fail
    refine (unhide C).mono ?_
    rintro r ws ⟨rfl, hws⟩
    replace hws := hws.symm
    subst hws
    go_wp2_with fail
    refine (unhide CD).mono ?_
    rintro r ws ⟨rfl, hws⟩
    replace hws := hws.symm
    subst hws
    go_wp2
    go_ret
    exact ⟨rfl, rfl⟩
set_option maxHeartbeats 1000000 in
theorem implFits (v : Value) (F : List Op.Opt) (w : World) (hm : F.length ≤ maxLen) (h : HoldsO w v F) : Calls Tryz.prog 83 #[v] w fun e w' => e = .returned (.bool (opOk F)) ∧ Below w.heap.size w w' := by
  have C1 := hide fun W (hb : Below w.heap.size w W) => implRightAll v F W hm (h.below hb rfl)
  unfold opOk
  cases hr : Op.right F
  · rw [Bool.false_and]
    rw [hr] at C1
    obtain ⟨ad, cp, rfl⟩ := h.form
    clear h
    go_enter Tryz.func83, Tryz.ntmps83
    go_wp2_with fail
    refine (unhide C1 _ (Below.refl _ _)).mono ?_
    rintro e w1 ⟨rfl, hb1⟩
    go_wp2
    go_ret
    exact ⟨rfl, hb1⟩
  · rw [Bool.true_and]
    rw [hr] at C1
    have C2 := hide fun W (hb : Below w.heap.size w W) => implBytesAll v F W hm (h.below hb rfl)
    rw [otV_yes hr] at C2
    obtain ⟨ad, cp, rfl⟩ := h.form
    have hsz : (txt (Op.bytes F)).size = (Op.bytes F).length := by unfold txt; show (Op.bytes F).toArray.size = _; simp
    clear h
    generalize txt (Op.bytes F) = tb at *
    rw [← hsz]
    go_enter Tryz.func83, Tryz.ntmps83
    go_wp2_with fail
    refine (unhide C1 _ (Below.refl _ _)).mono ?_
    rintro e w1 ⟨rfl, hb1⟩
    go_wp2_with fail
    refine (unhide C2 _ hb1).mono ?_
    rintro e w2 ⟨rfl, hb2⟩
    go_wp2
    go_ret
    exact ⟨congrArg (fun b => Ending.returned (.bool b)) (decide_eq_decide.2 (by omega)), hb1.trans (hb2.mono hb1.size)⟩
/-- Are an End's lines right. -/
def linesOk (e : En) (F1 F2 : List Op.Opt) : Bool := (e.up == (e.st == 9)) && (if e.up = true then lnIs e.i1 e.i2 e.i3 e.i4 e.i5 (lineOf F1) && lnIs e.o1 e.o2 e.o3 e.o4 e.o5 (lineOf F2) else lnIs e.i1 e.i2 e.i3 e.i4 e.i5 ⟨0, 0, false, false, false⟩ && lnIs e.o1 e.o2 e.o3 e.o4 e.o5 ⟨0, 0, false, false, false⟩)
set_option maxHeartbeats 8000000 in
set_option maxRecDepth 100000 in
theorem implLines_of (e : En) (B : Nat) (x1 x2 : Option Addr) (y1 y2 : Nat) (F1 F2 : List Op.Opt) (w : World) (l1 : F1.length ≤ maxLen) (l2 : F2.length ≤ maxLen) (h1 : HoldsO w (.slice x1 F1.length y1) F1) (h2 : HoldsO w (.slice x2 F2.length y2) F2)
    (hB : w.heap[B]? = some (.cells (enC e (.slice x1 F1.length y1) (.slice x2 F2.length y2)) 29)) (hEq : EqL) :
    Calls Tryz.prog 84 #[.pointer (some ⟨B, 0, none⟩)] w fun r w' => r = .returned (.bool (linesOk e F1 F2)) ∧ Below w.heap.size w w' := by
  have HEQ := hide hEq
  clear hEq
  have CL1 := hide fun W (hb : Below w.heap.size w W) => implLine _ F1 W l1 (h1.below hb rfl)
  have CL2 := hide fun W (hb : Below w.heap.size w W) => implLine _ F2 W l2 (h2.below hb rfl)
  obtain ⟨m1, a1, g1, p1, c1, d1, m2, a2, g2, p2, c2, d2, st, tr, du, id, fl, up, i1, i2, i3, i4, i5, o1, o2, o3, o4, o5⟩ := e
  obtain ⟨R, hR⟩ : ∃ R, linesOk ⟨m1, a1, g1, p1, c1, d1, m2, a2, g2, p2, c2, d2, st, tr, du, id, fl, up, i1, i2, i3, i4, i5, o1, o2, o3, o4, o5⟩ F1 F2 = R := ⟨_, rfl⟩
  rw [hR]
  unfold linesOk at hR
  dsimp only at hR
  unfold enC at hB
  dsimp only at hB
  generalize lineOf F1 = L1 at *
  generalize lineOf F2 = L2 at *
  have HR := hide hR
  clear h1 h2 l1 l2 hR
  generalize F1.length = n1 at *
  generalize F2.length = n2 at *
  have hlA : B < w.heap.size := (Array.getElem?_eq_some_iff.1 hB).1
  have c12 : w.cell? ⟨B, 12, none⟩ = some (.int .i64 st) := by rw [cell_of_row _ _ _ _ _ _ hB]; rfl
  have c17 : w.cell? ⟨B, 17, none⟩ = some (.slice x1 n1 y1) := by rw [cell_of_row _ _ _ _ _ _ hB]; rfl
  have c18 : w.cell? ⟨B, 18, none⟩ = some (.slice x2 n2 y2) := by rw [cell_of_row _ _ _ _ _ _ hB]; rfl
  have c19 : w.cell? ⟨B, 19, none⟩ = some (.bool up) := by rw [cell_of_row _ _ _ _ _ _ hB]; rfl
  have c20 : w.cell? ⟨B, 20, none⟩ = some (.int .i64 i1) := by rw [cell_of_row _ _ _ _ _ _ hB]; rfl
  have c21 : w.cell? ⟨B, 21, none⟩ = some (.int .i64 i2) := by rw [cell_of_row _ _ _ _ _ _ hB]; rfl
  have c22 : w.cell? ⟨B, 22, none⟩ = some (.bool i3) := by rw [cell_of_row _ _ _ _ _ _ hB]; rfl
  have c23 : w.cell? ⟨B, 23, none⟩ = some (.bool i4) := by rw [cell_of_row _ _ _ _ _ _ hB]; rfl
  have c24 : w.cell? ⟨B, 24, none⟩ = some (.bool i5) := by rw [cell_of_row _ _ _ _ _ _ hB]; rfl
  have c25 : w.cell? ⟨B, 25, none⟩ = some (.int .i64 o1) := by rw [cell_of_row _ _ _ _ _ _ hB]; rfl
  have c26 : w.cell? ⟨B, 26, none⟩ = some (.int .i64 o2) := by rw [cell_of_row _ _ _ _ _ _ hB]; rfl
  have c27 : w.cell? ⟨B, 27, none⟩ = some (.bool o3) := by rw [cell_of_row _ _ _ _ _ _ hB]; rfl
  have c28 : w.cell? ⟨B, 28, none⟩ = some (.bool o4) := by rw [cell_of_row _ _ _ _ _ _ hB]; rfl
  have c29 : w.cell? ⟨B, 29, none⟩ = some (.bool o5) := by rw [cell_of_row _ _ _ _ _ _ hB]; rfl
  have HB := hide hB
  clear hB
  cases hup : (up == (st == 9))
  · rw [hup, Bool.false_and] at HR
    have e := unhide HR
    subst e
    clear HR
    have hn : (up != (st == 9)) = true := by unfold bne; rw [hup]; rfl
    go_enter Tryz.func84, Tryz.ntmps84
    go_upto_region 1 with fail
    go_quiet (fail)
    go_wp2
    go_ret
    exact ⟨rfl, below_drewN (Below.refl _ _) _⟩
  have hn : (up != (st == 9)) = false := by unfold bne; rw [hup]; rfl
  rw [hup, Bool.true_and] at HR
  go_enter Tryz.func84, Tryz.ntmps84
  go_upto_region 1 with fail
  go_quiet (fail)
  go_upto_region 3 with fail
  clear c12 c17 c18 c19 c20 c21 c22 c23 c24 c25 c26 c27 c28 c29
  refine gen_world (fun q => q.heap[B]? = some (.cells #[.int .i64 m1, .int .i64 a1, .int .i64 g1, .bool p1, .bool c1, .bool d1, .int .i64 m2, .int .i64 a2, .int .i64 g2, .bool p2, .bool c2, .bool d2, .int .i64 st, .int .i64 tr, .int .i64 du, .int .i64 id, .int .i64 fl, .slice x1 n1 y1, .slice x2 n2 y2, .bool up, .int .i64 i1, .int .i64 i2, .bool i3, .bool i4, .bool i5, .int .i64 o1, .int .i64 o2, .bool o3, .bool o4, .bool o5] 29) ∧ Below w.heap.size w q) ?_ ?_
  · exact ⟨unhide HB, below_drewN (Below.refl _ _) _⟩
  rintro q ⟨hq, hbq⟩
  have hlq : B < q.heap.size := (Array.getElem?_eq_some_iff.1 hq).1
  have c17 : q.cell? ⟨B, 17, none⟩ = some (.slice x1 n1 y1) := by rw [cell_of_row _ _ _ _ _ _ hq]; rfl
  have c18 : q.cell? ⟨B, 18, none⟩ = some (.slice x2 n2 y2) := by rw [cell_of_row _ _ _ _ _ _ hq]; rfl
  have c19 : q.cell? ⟨B, 19, none⟩ = some (.bool up) := by rw [cell_of_row _ _ _ _ _ _ hq]; rfl
  have c20 : q.cell? ⟨B, 20, none⟩ = some (.int .i64 i1) := by rw [cell_of_row _ _ _ _ _ _ hq]; rfl
  have c21 : q.cell? ⟨B, 21, none⟩ = some (.int .i64 i2) := by rw [cell_of_row _ _ _ _ _ _ hq]; rfl
  have c22 : q.cell? ⟨B, 22, none⟩ = some (.bool i3) := by rw [cell_of_row _ _ _ _ _ _ hq]; rfl
  have c23 : q.cell? ⟨B, 23, none⟩ = some (.bool i4) := by rw [cell_of_row _ _ _ _ _ _ hq]; rfl
  have c24 : q.cell? ⟨B, 24, none⟩ = some (.bool i5) := by rw [cell_of_row _ _ _ _ _ _ hq]; rfl
  have c25 : q.cell? ⟨B, 25, none⟩ = some (.int .i64 o1) := by rw [cell_of_row _ _ _ _ _ _ hq]; rfl
  have c26 : q.cell? ⟨B, 26, none⟩ = some (.int .i64 o2) := by rw [cell_of_row _ _ _ _ _ _ hq]; rfl
  have c27 : q.cell? ⟨B, 27, none⟩ = some (.bool o3) := by rw [cell_of_row _ _ _ _ _ _ hq]; rfl
  have c28 : q.cell? ⟨B, 28, none⟩ = some (.bool o4) := by rw [cell_of_row _ _ _ _ _ _ hq]; rfl
  have c29 : q.cell? ⟨B, 29, none⟩ = some (.bool o5) := by rw [cell_of_row _ _ _ _ _ _ hq]; rfl
  have HQ := hide (And.intro hq hbq)
  clear hq hbq HB
  cases up
  · rw [if_neg (by decide)] at HR
    have q1 : ∀ W, (binOp .eql 27 (.agg #[.int .i64 i1, .int .i64 i2, .bool i3, .bool i4, .bool i5]) (.agg #[.int .i64 0, .int .i64 0, .bool false, .bool false, .bool false])).run Tryz.prog W = .ok (.bool (lnIs i1 i2 i3 i4 i5 ⟨0, 0, false, false, false⟩)) W := fun W => (unhide HEQ).1 i1 i2 0 0 i3 i4 i5 false false false W
    have q2 : ∀ W, (binOp .eql 27 (.agg #[.int .i64 o1, .int .i64 o2, .bool o3, .bool o4, .bool o5]) (.agg #[.int .i64 0, .int .i64 0, .bool false, .bool false, .bool false])).run Tryz.prog W = .ok (.bool (lnIs o1 o2 o3 o4 o5 ⟨0, 0, false, false, false⟩)) W := fun W => (unhide HEQ).1 o1 o2 0 0 o3 o4 o5 false false false W
    have q3 := (unhide HEQ).2
    clear CL1 CL2 HEQ
    generalize lnIs i1 i2 i3 i4 i5 ⟨0, 0, false, false, false⟩ = bi at *
    generalize lnIs o1 o2 o3 o4 o5 ⟨0, 0, false, false, false⟩ = bo at *
    cases bi
    · rw [Bool.false_and] at HR
      have e := unhide HR
      subst e
      clear HR
      go_wp2
      go_ret
      exact ⟨rfl, (unhide HQ).2⟩
    · rw [Bool.true_and] at HR
      have e := unhide HR
      subst e
      clear HR
      go_wp2
      go_ret
      exact ⟨rfl, (unhide HQ).2⟩
  · rw [if_pos rfl] at HR
    have q1 : ∀ W, (binOp .eql 27 (.agg #[.int .i64 i1, .int .i64 i2, .bool i3, .bool i4, .bool i5]) (.agg (lnC L1))).run Tryz.prog W = .ok (.bool (lnIs i1 i2 i3 i4 i5 L1)) W := fun W => (unhide HEQ).1 i1 i2 L1.m L1.a i3 i4 i5 L1.p L1.c L1.d W
    have q2 : ∀ W, (binOp .eql 27 (.agg #[.int .i64 o1, .int .i64 o2, .bool o3, .bool o4, .bool o5]) (.agg (lnC L2))).run Tryz.prog W = .ok (.bool (lnIs o1 o2 o3 o4 o5 L2)) W := fun W => (unhide HEQ).1 o1 o2 L2.m L2.a o3 o4 o5 L2.p L2.c L2.d W
    have q3 := (unhide HEQ).2
    clear HEQ
    generalize lnIs i1 i2 i3 i4 i5 L1 = bi at *
    generalize lnIs o1 o2 o3 o4 o5 L2 = bo at *
    go_upto_region 4 with fail
    refine wp_region_held_drew (S := fun z => z.cell? ⟨B, 17, none⟩ = some (.slice x1 n1 y1) ∧ z.cell? ⟨B, 18, none⟩ = some (.slice x2 n2 y2) ∧ z.cell? ⟨B, 20, none⟩ = some (.int .i64 i1) ∧ z.cell? ⟨B, 21, none⟩ = some (.int .i64 i2) ∧ z.cell? ⟨B, 22, none⟩ = some (.bool i3) ∧ z.cell? ⟨B, 23, none⟩ = some (.bool i4) ∧ z.cell? ⟨B, 24, none⟩ = some (.bool i5) ∧ z.cell? ⟨B, 25, none⟩ = some (.int .i64 o1) ∧ z.cell? ⟨B, 26, none⟩ = some (.int .i64 o2) ∧ z.cell? ⟨B, 27, none⟩ = some (.bool o3) ∧ z.cell? ⟨B, 28, none⟩ = some (.bool o4) ∧ z.cell? ⟨B, 29, none⟩ = some (.bool o5)) (by kernel_rfl) ?_ (fun hHeld => ?_)
    · exact ⟨c17, c18, c20, c21, c22, c23, c24, c25, c26, c27, c28, c29⟩
    cases bi
    · rw [Bool.false_and] at HR
      have e := unhide HR
      subst e
      clear HR
      refine wpAnyH_take (i := 0) (v := ?va0) rfl (by kernel_rfl) (by kernel_rfl) (by kernel_rfl) (fun _ _ _ h => h) (Or.inl ⟨by rfl, ?hya0⟩) (by assumption) ?_
      case hya0 =>
        intro w hSw
        try dsimp only at hSw
        go_simp
        try with_reducible rfl
      try simp only [Act.put, List.setIfInBounds_toArray, List.set_cons_zero, List.set_cons_succ, List.getElem_toArray, List.getElem_cons_zero]
      refine wpAnyH_take (i := 1) (v := ?va1) rfl (by kernel_rfl) (by kernel_rfl) (by kernel_rfl) (fun _ _ _ h => h) (Or.inl ⟨by rfl, ?hya1⟩) (by assumption) ?_
      case hya1 =>
        intro w hSw
        try dsimp only at hSw
        go_simp
        try with_reducible rfl
      try simp only [Act.put, List.setIfInBounds_toArray, List.set_cons_zero, List.set_cons_succ, List.getElem_toArray, List.getElem_cons_zero, List.getElem_cons_succ]
      refine wpAnyH_take (i := 2) (v := ?va2) rfl (by kernel_rfl) (by kernel_rfl) (by kernel_rfl) (fun _ _ _ h => h) (Or.inl ⟨by rfl, ?hya2⟩) (by assumption) ?_
      case hya2 =>
        intro w hSw
        try dsimp only at hSw
        go_simp
        try with_reducible rfl
      try simp only [Act.put, List.setIfInBounds_toArray, List.set_cons_zero, List.set_cons_succ, List.getElem_toArray, List.getElem_cons_zero, List.getElem_cons_succ]
      refine wpAnyH_take (i := 3) (v := ?va3) rfl (by kernel_rfl) (by kernel_rfl) (by kernel_rfl) (fun _ _ _ h => h) (Or.inl ⟨by rfl, ?hya3⟩) (by assumption) ?_
      case hya3 =>
        intro w hSw
        try dsimp only at hSw
        go_simp
        try with_reducible rfl
      try simp only [Act.put, List.setIfInBounds_toArray, List.set_cons_zero, List.set_cons_succ, List.getElem_toArray, List.getElem_cons_zero, List.getElem_cons_succ]
      refine wpAnyH_take (i := 4) (v := ?va4) rfl (by kernel_rfl) (by kernel_rfl) (by kernel_rfl) (fun _ _ _ h => h) (Or.inl ⟨by rfl, ?hya4⟩) (by assumption) ?_
      case hya4 =>
        intro w hSw
        try dsimp only at hSw
        go_simp
        try with_reducible rfl
      try simp only [Act.put, List.setIfInBounds_toArray, List.set_cons_zero, List.set_cons_succ, List.getElem_toArray, List.getElem_cons_zero, List.getElem_cons_succ]
      refine wpAnyH_take (i := 5) (v := ?va5) rfl (by kernel_rfl) (by kernel_rfl) (by kernel_rfl) (fun _ _ _ h => h) (Or.inl ⟨by rfl, ?hya5⟩) (by assumption) ?_
      case hya5 =>
        intro w hSw
        try dsimp only at hSw
        go_simp
        try with_reducible rfl
      try simp only [Act.put, List.setIfInBounds_toArray, List.set_cons_zero, List.set_cons_succ, List.getElem_toArray, List.getElem_cons_zero, List.getElem_cons_succ]
      refine wpAnyH_take (i := 6) (v := ?va6) rfl (by kernel_rfl) (by kernel_rfl) (by kernel_rfl) (fun _ _ _ h => h) (Or.inl ⟨by rfl, ?hya6⟩) (by assumption) ?_
      case hya6 =>
        intro w hSw
        try dsimp only at hSw
        go_simp
        try with_reducible rfl
      try simp only [Act.put, List.setIfInBounds_toArray, List.set_cons_zero, List.set_cons_succ, List.getElem_toArray, List.getElem_cons_zero, List.getElem_cons_succ]
      refine wpAnyH_take (i := 7) (v := ?va7) rfl (by kernel_rfl) (by kernel_rfl) (by kernel_rfl) (fun _ _ _ h => h) (Or.inl ⟨by rfl, ?hya7⟩) (by assumption) ?_
      case hya7 =>
        intro w hSw
        try dsimp only at hSw
        go_simp
        try with_reducible rfl
      try simp only [Act.put, List.setIfInBounds_toArray, List.set_cons_zero, List.set_cons_succ, List.getElem_toArray, List.getElem_cons_zero, List.getElem_cons_succ]
      refine wpAnyH_ready (rs := [8]) (by kernel_rfl) (by simp) ?_
      refine AllReadyH.cons rfl (fun K hK => ?_) AllReadyH.nil
      go_simp
      refine (unhide CL1 _ ((unhide HQ).2.trans ((Below.refl _ _).drew.mono (unhide HQ).2.size))).mono ?_
      rintro r w10 ⟨rfl, hb⟩
      have B10 : Below q.heap.size q w10 := (Below.refl _ _).drew.trans hb
      clear hb
      go_wp2_with fail
      refine hK.out _ _ ?_ (fun hHeld10 => ?_)
      · exact ⟨(B10.cell (p := ⟨B, 17, none⟩) hlq).trans c17, (B10.cell (p := ⟨B, 18, none⟩) hlq).trans c18, (B10.cell (p := ⟨B, 20, none⟩) hlq).trans c20, (B10.cell (p := ⟨B, 21, none⟩) hlq).trans c21, (B10.cell (p := ⟨B, 22, none⟩) hlq).trans c22, (B10.cell (p := ⟨B, 23, none⟩) hlq).trans c23, (B10.cell (p := ⟨B, 24, none⟩) hlq).trans c24, (B10.cell (p := ⟨B, 25, none⟩) hlq).trans c25, (B10.cell (p := ⟨B, 26, none⟩) hlq).trans c26, (B10.cell (p := ⟨B, 27, none⟩) hlq).trans c27, (B10.cell (p := ⟨B, 28, none⟩) hlq).trans c28, (B10.cell (p := ⟨B, 29, none⟩) hlq).trans c29⟩
      clear hK K
      try simp only [Act.put, List.setIfInBounds_toArray, List.set_cons_zero, List.set_cons_succ, List.getElem_toArray, List.getElem_cons_zero, List.getElem_cons_succ]
      refine wpAnyH_take (i := 9) (v := ?va9) rfl (by kernel_rfl) (by kernel_rfl) (by kernel_rfl) (fun _ _ _ h => h) (Or.inl ⟨by rfl, ?hya9⟩) (by assumption) ?_
      case hya9 =>
        intro w hSw
        try dsimp only at hSw
        go_simp
        try with_reducible rfl
      try simp only [Act.put, List.setIfInBounds_toArray, List.set_cons_zero, List.set_cons_succ, List.getElem_toArray, List.getElem_cons_zero, List.getElem_cons_succ]
      refine wpAnyH_take (i := 10) (v := ?va10) rfl (by kernel_rfl) (by kernel_rfl) (by kernel_rfl) (fun _ _ _ h => h) (Or.inl ⟨by rfl, ?hya10⟩) (by assumption) ?_
      case hya10 =>
        intro w hSw
        try dsimp only at hSw
        go_simp
        try with_reducible rfl
      try simp only [Act.put, List.setIfInBounds_toArray, List.set_cons_zero, List.set_cons_succ, List.getElem_toArray, List.getElem_cons_zero, List.getElem_cons_succ]
      refine wpAnyH_take (i := 11) (v := undef) rfl (by kernel_rfl) (by kernel_rfl) (by kernel_rfl) (fun _ _ _ h => h) (Or.inr ⟨by rfl, rfl⟩) (by assumption) ?_
      try simp only [Act.put, List.setIfInBounds_toArray, List.set_cons_zero, List.set_cons_succ, List.getElem_toArray, List.getElem_cons_zero, List.getElem_cons_succ]
      refine wpAnyH_take (i := 12) (v := undef) rfl (by kernel_rfl) (by kernel_rfl) (by kernel_rfl) (fun _ _ _ h => h) (Or.inr ⟨by rfl, rfl⟩) (by assumption) ?_
      try simp only [Act.put, List.setIfInBounds_toArray, List.set_cons_zero, List.set_cons_succ, List.getElem_toArray, List.getElem_cons_zero, List.getElem_cons_succ]
      refine wpAnyH_take (i := 13) (v := undef) rfl (by kernel_rfl) (by kernel_rfl) (by kernel_rfl) (fun _ _ _ h => h) (Or.inr ⟨by rfl, rfl⟩) (by assumption) ?_
      try simp only [Act.put, List.setIfInBounds_toArray, List.set_cons_zero, List.set_cons_succ, List.getElem_toArray, List.getElem_cons_zero, List.getElem_cons_succ]
      refine wpAnyH_take (i := 14) (v := undef) rfl (by kernel_rfl) (by kernel_rfl) (by kernel_rfl) (fun _ _ _ h => h) (Or.inr ⟨by rfl, rfl⟩) (by assumption) ?_
      try simp only [Act.put, List.setIfInBounds_toArray, List.set_cons_zero, List.set_cons_succ, List.getElem_toArray, List.getElem_cons_zero, List.getElem_cons_succ]
      refine wpAnyH_take (i := 15) (v := undef) rfl (by kernel_rfl) (by kernel_rfl) (by kernel_rfl) (fun _ _ _ h => h) (Or.inr ⟨by rfl, rfl⟩) (by assumption) ?_
      try simp only [Act.put, List.setIfInBounds_toArray, List.set_cons_zero, List.set_cons_succ, List.getElem_toArray, List.getElem_cons_zero, List.getElem_cons_succ]
      refine wpAnyH_take (i := 16) (v := undef) rfl (by kernel_rfl) (by kernel_rfl) (by kernel_rfl) (fun _ _ _ h => h) (Or.inr ⟨by rfl, rfl⟩) (by assumption) ?_
      try simp only [Act.put, List.setIfInBounds_toArray, List.set_cons_zero, List.set_cons_succ, List.getElem_toArray, List.getElem_cons_zero, List.getElem_cons_succ]
      refine wpAnyH_take (i := 17) (v := undef) rfl (by kernel_rfl) (by kernel_rfl) (by kernel_rfl) (fun _ _ _ h => h) (Or.inr ⟨by rfl, rfl⟩) (by assumption) ?_
      try simp only [Act.put, List.setIfInBounds_toArray, List.set_cons_zero, List.set_cons_succ, List.getElem_toArray, List.getElem_cons_zero, List.getElem_cons_succ]
      refine wpAnyH_take (i := 18) (v := undef) rfl (by kernel_rfl) (by kernel_rfl) (by kernel_rfl) (fun _ _ _ h => h) (Or.inr ⟨by rfl, rfl⟩) (by assumption) ?_
      try simp only [Act.put, List.setIfInBounds_toArray, List.set_cons_zero, List.set_cons_succ, List.getElem_toArray, List.getElem_cons_zero, List.getElem_cons_succ]
      refine wpAnyH_take (i := 19) (v := undef) rfl (by kernel_rfl) (by kernel_rfl) (by kernel_rfl) (fun _ _ _ h => h) (Or.inr ⟨by rfl, rfl⟩) (by assumption) ?_
      try simp only [Act.put, List.setIfInBounds_toArray, List.set_cons_zero, List.set_cons_succ, List.getElem_toArray, List.getElem_cons_zero, List.getElem_cons_succ]
      refine wpAnyH_take (i := 20) (v := undef) rfl (by kernel_rfl) (by kernel_rfl) (by kernel_rfl) (fun _ _ _ h => h) (Or.inr ⟨by rfl, rfl⟩) (by assumption) ?_
      try simp only [Act.put, List.setIfInBounds_toArray, List.set_cons_zero, List.set_cons_succ, List.getElem_toArray, List.getElem_cons_zero, List.getElem_cons_succ]
      refine wpAnyH_take (i := 21) (v := ?va21) rfl (by kernel_rfl) (by kernel_rfl) (by kernel_rfl) (fun _ _ _ h => h) (Or.inl ⟨by rfl, ?hya21⟩) (by assumption) ?_
      case hya21 =>
        intro w hSw
        try dsimp only at hSw
        go_simp
        try with_reducible rfl
      try simp only [Act.put, List.setIfInBounds_toArray, List.set_cons_zero, List.set_cons_succ, List.getElem_toArray, List.getElem_cons_zero, List.getElem_cons_succ]
      refine wpAnyH_take (i := 22) (v := ?va22) rfl (by kernel_rfl) (by kernel_rfl) (by kernel_rfl) (fun _ _ _ h => h) (Or.inl ⟨by rfl, ?hya22⟩) (by assumption) ?_
      case hya22 =>
        intro w hSw
        try dsimp only at hSw
        go_simp
        try with_reducible rfl
      try simp only [Act.put, List.setIfInBounds_toArray, List.set_cons_zero, List.set_cons_succ, List.getElem_toArray, List.getElem_cons_zero, List.getElem_cons_succ]
      refine wpAnyH_done (by kernel_rfl) ?_ _
      go_wp2
      go_ret
      exact ⟨rfl, (unhide HQ).2.trans (B10.mono (unhide HQ).2.size)⟩
    · rw [Bool.true_and] at HR
      have e := unhide HR
      subst e
      clear HR
      refine wpAnyH_take (i := 0) (v := ?vb0) rfl (by kernel_rfl) (by kernel_rfl) (by kernel_rfl) (fun _ _ _ h => h) (Or.inl ⟨by rfl, ?hyb0⟩) (by assumption) ?_
      case hyb0 =>
        intro w hSw
        try dsimp only at hSw
        go_simp
        try with_reducible rfl
      try simp only [Act.put, List.setIfInBounds_toArray, List.set_cons_zero, List.set_cons_succ, List.getElem_toArray, List.getElem_cons_zero]
      refine wpAnyH_take (i := 1) (v := ?vb1) rfl (by kernel_rfl) (by kernel_rfl) (by kernel_rfl) (fun _ _ _ h => h) (Or.inl ⟨by rfl, ?hyb1⟩) (by assumption) ?_
      case hyb1 =>
        intro w hSw
        try dsimp only at hSw
        go_simp
        try with_reducible rfl
      try simp only [Act.put, List.setIfInBounds_toArray, List.set_cons_zero, List.set_cons_succ, List.getElem_toArray, List.getElem_cons_zero, List.getElem_cons_succ]
      refine wpAnyH_take (i := 2) (v := ?vb2) rfl (by kernel_rfl) (by kernel_rfl) (by kernel_rfl) (fun _ _ _ h => h) (Or.inl ⟨by rfl, ?hyb2⟩) (by assumption) ?_
      case hyb2 =>
        intro w hSw
        try dsimp only at hSw
        go_simp
        try with_reducible rfl
      try simp only [Act.put, List.setIfInBounds_toArray, List.set_cons_zero, List.set_cons_succ, List.getElem_toArray, List.getElem_cons_zero, List.getElem_cons_succ]
      refine wpAnyH_take (i := 3) (v := ?vb3) rfl (by kernel_rfl) (by kernel_rfl) (by kernel_rfl) (fun _ _ _ h => h) (Or.inl ⟨by rfl, ?hyb3⟩) (by assumption) ?_
      case hyb3 =>
        intro w hSw
        try dsimp only at hSw
        go_simp
        try with_reducible rfl
      try simp only [Act.put, List.setIfInBounds_toArray, List.set_cons_zero, List.set_cons_succ, List.getElem_toArray, List.getElem_cons_zero, List.getElem_cons_succ]
      refine wpAnyH_take (i := 4) (v := ?vb4) rfl (by kernel_rfl) (by kernel_rfl) (by kernel_rfl) (fun _ _ _ h => h) (Or.inl ⟨by rfl, ?hyb4⟩) (by assumption) ?_
      case hyb4 =>
        intro w hSw
        try dsimp only at hSw
        go_simp
        try with_reducible rfl
      try simp only [Act.put, List.setIfInBounds_toArray, List.set_cons_zero, List.set_cons_succ, List.getElem_toArray, List.getElem_cons_zero, List.getElem_cons_succ]
      refine wpAnyH_take (i := 5) (v := ?vb5) rfl (by kernel_rfl) (by kernel_rfl) (by kernel_rfl) (fun _ _ _ h => h) (Or.inl ⟨by rfl, ?hyb5⟩) (by assumption) ?_
      case hyb5 =>
        intro w hSw
        try dsimp only at hSw
        go_simp
        try with_reducible rfl
      try simp only [Act.put, List.setIfInBounds_toArray, List.set_cons_zero, List.set_cons_succ, List.getElem_toArray, List.getElem_cons_zero, List.getElem_cons_succ]
      refine wpAnyH_take (i := 6) (v := ?vb6) rfl (by kernel_rfl) (by kernel_rfl) (by kernel_rfl) (fun _ _ _ h => h) (Or.inl ⟨by rfl, ?hyb6⟩) (by assumption) ?_
      case hyb6 =>
        intro w hSw
        try dsimp only at hSw
        go_simp
        try with_reducible rfl
      try simp only [Act.put, List.setIfInBounds_toArray, List.set_cons_zero, List.set_cons_succ, List.getElem_toArray, List.getElem_cons_zero, List.getElem_cons_succ]
      refine wpAnyH_take (i := 7) (v := ?vb7) rfl (by kernel_rfl) (by kernel_rfl) (by kernel_rfl) (fun _ _ _ h => h) (Or.inl ⟨by rfl, ?hyb7⟩) (by assumption) ?_
      case hyb7 =>
        intro w hSw
        try dsimp only at hSw
        go_simp
        try with_reducible rfl
      try simp only [Act.put, List.setIfInBounds_toArray, List.set_cons_zero, List.set_cons_succ, List.getElem_toArray, List.getElem_cons_zero, List.getElem_cons_succ]
      refine wpAnyH_ready (rs := [8]) (by kernel_rfl) (by simp) ?_
      refine AllReadyH.cons rfl (fun K hK => ?_) AllReadyH.nil
      go_simp
      refine (unhide CL1 _ ((unhide HQ).2.trans ((Below.refl _ _).drew.mono (unhide HQ).2.size))).mono ?_
      rintro r w10 ⟨rfl, hb⟩
      have B10 : Below q.heap.size q w10 := (Below.refl _ _).drew.trans hb
      clear hb
      go_wp2_with fail
      refine hK.out _ _ ?_ (fun hHeld10 => ?_)
      · exact ⟨(B10.cell (p := ⟨B, 17, none⟩) hlq).trans c17, (B10.cell (p := ⟨B, 18, none⟩) hlq).trans c18, (B10.cell (p := ⟨B, 20, none⟩) hlq).trans c20, (B10.cell (p := ⟨B, 21, none⟩) hlq).trans c21, (B10.cell (p := ⟨B, 22, none⟩) hlq).trans c22, (B10.cell (p := ⟨B, 23, none⟩) hlq).trans c23, (B10.cell (p := ⟨B, 24, none⟩) hlq).trans c24, (B10.cell (p := ⟨B, 25, none⟩) hlq).trans c25, (B10.cell (p := ⟨B, 26, none⟩) hlq).trans c26, (B10.cell (p := ⟨B, 27, none⟩) hlq).trans c27, (B10.cell (p := ⟨B, 28, none⟩) hlq).trans c28, (B10.cell (p := ⟨B, 29, none⟩) hlq).trans c29⟩
      clear hK K
      try simp only [Act.put, List.setIfInBounds_toArray, List.set_cons_zero, List.set_cons_succ, List.getElem_toArray, List.getElem_cons_zero, List.getElem_cons_succ]
      refine wpAnyH_take (i := 9) (v := ?vb9) rfl (by kernel_rfl) (by kernel_rfl) (by kernel_rfl) (fun _ _ _ h => h) (Or.inl ⟨by rfl, ?hyb9⟩) (by assumption) ?_
      case hyb9 =>
        intro w hSw
        try dsimp only at hSw
        go_simp
        try with_reducible rfl
      try simp only [Act.put, List.setIfInBounds_toArray, List.set_cons_zero, List.set_cons_succ, List.getElem_toArray, List.getElem_cons_zero, List.getElem_cons_succ]
      refine wpAnyH_take (i := 10) (v := ?vb10) rfl (by kernel_rfl) (by kernel_rfl) (by kernel_rfl) (fun _ _ _ h => h) (Or.inl ⟨by rfl, ?hyb10⟩) (by assumption) ?_
      case hyb10 =>
        intro w hSw
        try dsimp only at hSw
        go_simp
        try with_reducible rfl
      try simp only [Act.put, List.setIfInBounds_toArray, List.set_cons_zero, List.set_cons_succ, List.getElem_toArray, List.getElem_cons_zero, List.getElem_cons_succ]
      refine wpAnyH_take (i := 11) (v := ?vb11) rfl (by kernel_rfl) (by kernel_rfl) (by kernel_rfl) (fun _ _ _ h => h) (Or.inl ⟨by rfl, ?hyb11⟩) (by assumption) ?_
      case hyb11 =>
        intro w hSw
        try dsimp only at hSw
        go_simp
        try with_reducible rfl
      try simp only [Act.put, List.setIfInBounds_toArray, List.set_cons_zero, List.set_cons_succ, List.getElem_toArray, List.getElem_cons_zero, List.getElem_cons_succ]
      refine wpAnyH_take (i := 12) (v := ?vb12) rfl (by kernel_rfl) (by kernel_rfl) (by kernel_rfl) (fun _ _ _ h => h) (Or.inl ⟨by rfl, ?hyb12⟩) (by assumption) ?_
      case hyb12 =>
        intro w hSw
        try dsimp only at hSw
        go_simp
        try with_reducible rfl
      try simp only [Act.put, List.setIfInBounds_toArray, List.set_cons_zero, List.set_cons_succ, List.getElem_toArray, List.getElem_cons_zero, List.getElem_cons_succ]
      refine wpAnyH_take (i := 13) (v := ?vb13) rfl (by kernel_rfl) (by kernel_rfl) (by kernel_rfl) (fun _ _ _ h => h) (Or.inl ⟨by rfl, ?hyb13⟩) (by assumption) ?_
      case hyb13 =>
        intro w hSw
        try dsimp only at hSw
        go_simp
        try with_reducible rfl
      try simp only [Act.put, List.setIfInBounds_toArray, List.set_cons_zero, List.set_cons_succ, List.getElem_toArray, List.getElem_cons_zero, List.getElem_cons_succ]
      refine wpAnyH_take (i := 14) (v := ?vb14) rfl (by kernel_rfl) (by kernel_rfl) (by kernel_rfl) (fun _ _ _ h => h) (Or.inl ⟨by rfl, ?hyb14⟩) (by assumption) ?_
      case hyb14 =>
        intro w hSw
        try dsimp only at hSw
        go_simp
        try with_reducible rfl
      try simp only [Act.put, List.setIfInBounds_toArray, List.set_cons_zero, List.set_cons_succ, List.getElem_toArray, List.getElem_cons_zero, List.getElem_cons_succ]
      refine wpAnyH_take (i := 15) (v := ?vb15) rfl (by kernel_rfl) (by kernel_rfl) (by kernel_rfl) (fun _ _ _ h => h) (Or.inl ⟨by rfl, ?hyb15⟩) (by assumption) ?_
      case hyb15 =>
        intro w hSw
        try dsimp only at hSw
        go_simp
        try with_reducible rfl
      try simp only [Act.put, List.setIfInBounds_toArray, List.set_cons_zero, List.set_cons_succ, List.getElem_toArray, List.getElem_cons_zero, List.getElem_cons_succ]
      refine wpAnyH_take (i := 16) (v := ?vb16) rfl (by kernel_rfl) (by kernel_rfl) (by kernel_rfl) (fun _ _ _ h => h) (Or.inl ⟨by rfl, ?hyb16⟩) (by assumption) ?_
      case hyb16 =>
        intro w hSw
        try dsimp only at hSw
        go_simp
        try with_reducible rfl
      try simp only [Act.put, List.setIfInBounds_toArray, List.set_cons_zero, List.set_cons_succ, List.getElem_toArray, List.getElem_cons_zero, List.getElem_cons_succ]
      refine wpAnyH_take (i := 17) (v := ?vb17) rfl (by kernel_rfl) (by kernel_rfl) (by kernel_rfl) (fun _ _ _ h => h) (Or.inl ⟨by rfl, ?hyb17⟩) (by assumption) ?_
      case hyb17 =>
        intro w hSw
        try dsimp only at hSw
        go_simp
        try with_reducible rfl
      try simp only [Act.put, List.setIfInBounds_toArray, List.set_cons_zero, List.set_cons_succ, List.getElem_toArray, List.getElem_cons_zero, List.getElem_cons_succ]
      refine wpAnyH_take (i := 18) (v := ?vb18) rfl (by kernel_rfl) (by kernel_rfl) (by kernel_rfl) (fun _ _ _ h => h) (Or.inl ⟨by rfl, ?hyb18⟩) (by assumption) ?_
      case hyb18 =>
        intro w hSw
        try dsimp only at hSw
        go_simp
        try with_reducible rfl
      try simp only [Act.put, List.setIfInBounds_toArray, List.set_cons_zero, List.set_cons_succ, List.getElem_toArray, List.getElem_cons_zero, List.getElem_cons_succ]
      refine wpAnyH_ready (rs := [19]) (by kernel_rfl) (by simp) ?_
      refine AllReadyH.cons rfl (fun K hK => ?_) AllReadyH.nil
      go_simp
      refine (unhide CL2 _ ((unhide HQ).2.trans (B10.mono (unhide HQ).2.size))).mono ?_
      rintro r w11 ⟨rfl, hb⟩
      have B11 : Below q.heap.size q w11 := B10.trans (hb.mono B10.size)
      clear hb
      go_wp2_with fail
      refine hK.out _ _ ?_ (fun hHeld11 => ?_)
      · exact ⟨(B11.cell (p := ⟨B, 17, none⟩) hlq).trans c17, (B11.cell (p := ⟨B, 18, none⟩) hlq).trans c18, (B11.cell (p := ⟨B, 20, none⟩) hlq).trans c20, (B11.cell (p := ⟨B, 21, none⟩) hlq).trans c21, (B11.cell (p := ⟨B, 22, none⟩) hlq).trans c22, (B11.cell (p := ⟨B, 23, none⟩) hlq).trans c23, (B11.cell (p := ⟨B, 24, none⟩) hlq).trans c24, (B11.cell (p := ⟨B, 25, none⟩) hlq).trans c25, (B11.cell (p := ⟨B, 26, none⟩) hlq).trans c26, (B11.cell (p := ⟨B, 27, none⟩) hlq).trans c27, (B11.cell (p := ⟨B, 28, none⟩) hlq).trans c28, (B11.cell (p := ⟨B, 29, none⟩) hlq).trans c29⟩
      clear hK K
      try simp only [Act.put, List.setIfInBounds_toArray, List.set_cons_zero, List.set_cons_succ, List.getElem_toArray, List.getElem_cons_zero, List.getElem_cons_succ]
      refine wpAnyH_take (i := 20) (v := ?vb20) rfl (by kernel_rfl) (by kernel_rfl) (by kernel_rfl) (fun _ _ _ h => h) (Or.inl ⟨by rfl, ?hyb20⟩) (by assumption) ?_
      case hyb20 =>
        intro w hSw
        try dsimp only at hSw
        go_simp
        try with_reducible rfl
      try simp only [Act.put, List.setIfInBounds_toArray, List.set_cons_zero, List.set_cons_succ, List.getElem_toArray, List.getElem_cons_zero, List.getElem_cons_succ]
      refine wpAnyH_take (i := 21) (v := ?vb21) rfl (by kernel_rfl) (by kernel_rfl) (by kernel_rfl) (fun _ _ _ h => h) (Or.inl ⟨by rfl, ?hyb21⟩) (by assumption) ?_
      case hyb21 =>
        intro w hSw
        try dsimp only at hSw
        go_simp
        try with_reducible rfl
      try simp only [Act.put, List.setIfInBounds_toArray, List.set_cons_zero, List.set_cons_succ, List.getElem_toArray, List.getElem_cons_zero, List.getElem_cons_succ]
      refine wpAnyH_take (i := 22) (v := ?vb22) rfl (by kernel_rfl) (by kernel_rfl) (by kernel_rfl) (fun _ _ _ h => h) (Or.inl ⟨by rfl, ?hyb22⟩) (by assumption) ?_
      case hyb22 =>
        intro w hSw
        try dsimp only at hSw
        go_simp
        try with_reducible rfl
      try simp only [Act.put, List.setIfInBounds_toArray, List.set_cons_zero, List.set_cons_succ, List.getElem_toArray, List.getElem_cons_zero, List.getElem_cons_succ]
      refine wpAnyH_done (by kernel_rfl) ?_ _
      go_wp2
      go_ret
      exact ⟨rfl, (unhide HQ).2.trans (B11.mono (unhide HQ).2.size)⟩
set_option maxHeartbeats 8000000 in
set_option maxRecDepth 100000 in
theorem implEndRight_of (e : En) (x1 x2 : Option Addr) (y1 y2 : Nat) (F1 F2 : List Op.Opt) (w : World) (l1 : F1.length ≤ maxLen) (l2 : F2.length ≤ maxLen) (h1 : HoldsO w (.slice x1 F1.length y1) F1) (h2 : HoldsO w (.slice x2 F2.length y2) F2) (hEq : EqL) :
    Calls Tryz.prog 37 #[.agg (enC e (.slice x1 F1.length y1) (.slice x2 F2.length y2))] w fun r w' => r = .returned (.bool (enOk e F1 F2)) ∧ Below w.heap.size w w' := by
  have C7 := hide fun W (hb : Below w.heap.size w W) => implFits _ F1 W l1 (h1.below hb rfl)
  have C8 := hide fun W (hb : Below w.heap.size w W) => implFits _ F2 W l2 (h2.below hb rfl)
  have C9 := hide fun W (hb : Below w.heap.size w W) (hB) => implLines_of e w.heap.size x1 x2 y1 y2 F1 F2 W l1 l2 (h1.below hb rfl) (h2.below hb rfl) hB hEq
  obtain ⟨m1, a1, g1, p1, c1, d1, m2, a2, g2, p2, c2, d2, st, tr, du, id, fl, up, i1, i2, i3, i4, i5, o1, o2, o3, o4, o5⟩ := e
  have hA := heap_alloc_new w (.cells (enC ⟨m1, a1, g1, p1, c1, d1, m2, a2, g2, p2, c2, d2, st, tr, du, id, fl, up, i1, i2, i3, i4, i5, o1, o2, o3, o4, o5⟩ (.slice x1 F1.length y1) (.slice x2 F2.length y2)) 29)
  have hbA : Below w.heap.size w (w.alloc (.cells (enC ⟨m1, a1, g1, p1, c1, d1, m2, a2, g2, p2, c2, d2, st, tr, du, id, fl, up, i1, i2, i3, i4, i5, o1, o2, o3, o4, o5⟩ (.slice x1 F1.length y1) (.slice x2 F2.length y2)) 29)) := (Below.refl _ _).alloc (Nat.le_refl _) _
  have CC1 := hide fun W => implCfg m1 a1 g1 p1 c1 d1 W
  have CC2 := hide fun W => implCfg m2 a2 g2 p2 c2 d2 W
  have CI1 := hide fun W => implWithin st 0 9 W
  have CI2 := hide fun W => implWithin tr 0 5 W
  have CI3 := hide fun W => byteR id W
  have CI4 := hide fun W => implWithin fl 0 3 W
  have CD := hide fun W => implDue w.heap.size st du W
  obtain ⟨R, hR⟩ : ∃ R, enOk ⟨m1, a1, g1, p1, c1, d1, m2, a2, g2, p2, c2, d2, st, tr, du, id, fl, up, i1, i2, i3, i4, i5, o1, o2, o3, o4, o5⟩ F1 F2 = R := ⟨_, rfl⟩
  rw [hR]
  have hR2 : (cfgOk m1 a1 g1 && (cfgOk m2 a2 g2 && (within 0 9 st && (within 0 5 tr && ((if runs st = true then within 0 1000000003 du else du == -1) && ((decide (0 ≤ id) && decide (id ≤ 255)) && (within 0 3 fl && (opOk F1 && (opOk F2 && linesOk ⟨m1, a1, g1, p1, c1, d1, m2, a2, g2, p2, c2, d2, st, tr, du, id, fl, up, i1, i2, i3, i4, i5, o1, o2, o3, o4, o5⟩ F1 F2))))))))) = R := by
    rw [← hR]
    unfold enOk linesOk
    dsimp only
    ac_rfl
  clear hR
  unfold enC at hA hbA C9 ⊢
  dsimp only at hA hbA C9 ⊢
  generalize linesOk ⟨m1, a1, g1, p1, c1, d1, m2, a2, g2, p2, c2, d2, st, tr, du, id, fl, up, i1, i2, i3, i4, i5, o1, o2, o3, o4, o5⟩ F1 F2 = b10 at *
  generalize cfgOk m1 a1 g1 = b1 at *
  generalize cfgOk m2 a2 g2 = b2 at *
  generalize within 0 9 st = b3 at *
  generalize within 0 5 tr = b4 at *
  generalize (if runs st = true then within 0 1000000003 du else du == -1) = b5 at *
  generalize (decide (0 ≤ id) && decide (id ≤ 255)) = b6 at *
  generalize within 0 3 fl = b7 at *
  generalize opOk F1 = b8 at *
  generalize opOk F2 = b9 at *
  have HR := hide hR2
  have HA := hide (And.intro hA hbA)
  clear hA hbA h1 h2 l1 l2 hR2 hEq
  generalize F1.length = n1 at *
  generalize F2.length = n2 at *
  go_enter Tryz.func37, Tryz.ntmps37
  go_wp2_with fail
  refine (unhide CC1 _).mono ?_
  rintro r w1 ⟨rfl, hb1⟩
  have hr1 := (hb1.block w.heap.size (Array.getElem?_eq_some_iff.1 (unhide HA).1).1).trans (unhide HA).1
  have hB1 := (unhide HA).2.trans (hb1.mono (unhide HA).2.size)
  have c6 : w1.cell? ⟨w.heap.size, 6, none⟩ = some (.int .i64 m2) := by rw [cell_of_row _ _ _ _ _ _ hr1]; rfl
  have c7 : w1.cell? ⟨w.heap.size, 7, none⟩ = some (.int .i64 a2) := by rw [cell_of_row _ _ _ _ _ _ hr1]; rfl
  have c8 : w1.cell? ⟨w.heap.size, 8, none⟩ = some (.int .i64 g2) := by rw [cell_of_row _ _ _ _ _ _ hr1]; rfl
  have c9 : w1.cell? ⟨w.heap.size, 9, none⟩ = some (.bool p2) := by rw [cell_of_row _ _ _ _ _ _ hr1]; rfl
  have c10 : w1.cell? ⟨w.heap.size, 10, none⟩ = some (.bool c2) := by rw [cell_of_row _ _ _ _ _ _ hr1]; rfl
  have c11 : w1.cell? ⟨w.heap.size, 11, none⟩ = some (.bool d2) := by rw [cell_of_row _ _ _ _ _ _ hr1]; rfl
  have H1 := hide (And.intro hr1 hB1)
  clear hr1 hB1 hb1 HA
  cases b1
  · rw [Bool.false_and] at HR
    have e := unhide HR
    subst e
    clear HR
    go_wp2
    go_ret
    exact ⟨rfl, (unhide H1).2⟩
  rw [Bool.true_and] at HR
  go_wp2_with fail
  refine (unhide CC2 _).mono ?_
  rintro r w2 ⟨rfl, hb2⟩
  have hr2 := (hb2.block w.heap.size (Array.getElem?_eq_some_iff.1 (unhide H1).1).1).trans (unhide H1).1
  have hB2 := (unhide H1).2.trans (hb2.mono (unhide H1).2.size)
  clear c6 c7 c8 c9 c10 c11
  have c12 : w2.cell? ⟨w.heap.size, 12, none⟩ = some (.int .i64 st) := by rw [cell_of_row _ _ _ _ _ _ hr2]; rfl
  have c13 : w2.cell? ⟨w.heap.size, 13, none⟩ = some (.int .i64 tr) := by rw [cell_of_row _ _ _ _ _ _ hr2]; rfl
  have c14 : w2.cell? ⟨w.heap.size, 14, none⟩ = some (.int .i64 du) := by rw [cell_of_row _ _ _ _ _ _ hr2]; rfl
  have c15 : w2.cell? ⟨w.heap.size, 15, none⟩ = some (.int .i64 id) := by rw [cell_of_row _ _ _ _ _ _ hr2]; rfl
  have c16 : w2.cell? ⟨w.heap.size, 16, none⟩ = some (.int .i64 fl) := by rw [cell_of_row _ _ _ _ _ _ hr2]; rfl
  have c17 : w2.cell? ⟨w.heap.size, 17, none⟩ = some (.slice x1 n1 y1) := by rw [cell_of_row _ _ _ _ _ _ hr2]; rfl
  have H2 := hide (And.intro hr2 hB2)
  clear hr2 hB2 hb2 H1
  cases b2
  · rw [Bool.false_and] at HR
    have e := unhide HR
    subst e
    clear HR
    go_wp2
    go_ret
    exact ⟨rfl, (unhide H2).2⟩
  rw [Bool.true_and] at HR
  go_wp2_with fail
  refine (unhide CI1 _).mono ?_
  rintro r ws ⟨rfl, hws⟩
  replace hws := hws.symm
  subst hws
  cases b3
  · rw [Bool.false_and] at HR
    have e := unhide HR
    subst e
    clear HR
    go_wp2
    go_ret
    exact ⟨rfl, (unhide H2).2⟩
  rw [Bool.true_and] at HR
  go_wp2_with fail
  refine (unhide CI2 _).mono ?_
  rintro r ws ⟨rfl, hws⟩
  replace hws := hws.symm
  subst hws
  cases b4
  · rw [Bool.false_and] at HR
    have e := unhide HR
    subst e
    clear HR
    go_wp2
    go_ret
    exact ⟨rfl, (unhide H2).2⟩
  rw [Bool.true_and] at HR
  go_wp2_with fail
  refine (unhide CD _ c12 c14).mono ?_
  rintro r ws ⟨rfl, hws⟩
  replace hws := hws.symm
  subst hws
  cases b5
  · rw [Bool.false_and] at HR
    have e := unhide HR
    subst e
    clear HR
    go_wp2
    go_ret
    exact ⟨rfl, (unhide H2).2⟩
  rw [Bool.true_and] at HR
  go_wp2_with fail
  refine (unhide CI3 _).mono ?_
  rintro r ws ⟨rfl, hws⟩
  replace hws := hws.symm
  subst hws
  cases b6
  · rw [Bool.false_and] at HR
    have e := unhide HR
    subst e
    clear HR
    go_wp2
    go_ret
    exact ⟨rfl, (unhide H2).2⟩
  rw [Bool.true_and] at HR
  go_wp2_with fail
  refine (unhide CI4 _).mono ?_
  rintro r ws ⟨rfl, hws⟩
  replace hws := hws.symm
  subst hws
  cases b7
  · rw [Bool.false_and] at HR
    have e := unhide HR
    subst e
    clear HR
    go_wp2
    go_ret
    exact ⟨rfl, (unhide H2).2⟩
  rw [Bool.true_and] at HR
  go_wp2_with fail
  refine (unhide C7 _ (unhide H2).2).mono ?_
  rintro r w8 ⟨rfl, hb8⟩
  have hr8 := (hb8.block w.heap.size (Array.getElem?_eq_some_iff.1 (unhide H2).1).1).trans (unhide H2).1
  have hB8 := (unhide H2).2.trans (hb8.mono (unhide H2).2.size)
  clear c12 c13 c14 c15 c16 c17
  have c18 : w8.cell? ⟨w.heap.size, 18, none⟩ = some (.slice x2 n2 y2) := by rw [cell_of_row _ _ _ _ _ _ hr8]; rfl
  have H8 := hide (And.intro hr8 hB8)
  clear hr8 hB8 hb8 H2
  cases b8
  · rw [Bool.false_and] at HR
    have e := unhide HR
    subst e
    clear HR
    go_wp2
    go_ret
    exact ⟨rfl, (unhide H8).2⟩
  rw [Bool.true_and] at HR
  go_wp2_with fail
  refine (unhide C8 _ (unhide H8).2).mono ?_
  rintro r w9 ⟨rfl, hb9⟩
  have hr9 := (hb9.block w.heap.size (Array.getElem?_eq_some_iff.1 (unhide H8).1).1).trans (unhide H8).1
  have hB9 := (unhide H8).2.trans (hb9.mono (unhide H8).2.size)
  clear c18
  have H9 := hide (And.intro hr9 hB9)
  clear hr9 hB9 hb9 H8
  cases b9
  · rw [Bool.false_and] at HR
    have e := unhide HR
    subst e
    clear HR
    go_wp2
    go_ret
    exact ⟨rfl, (unhide H9).2⟩
  rw [Bool.true_and] at HR
  go_wp2_with fail
  refine (unhide C9 _ (unhide H9).2 (unhide H9).1).mono ?_
  rintro r w10 ⟨rfl, hb10⟩
  have e := unhide HR
  subst e
  clear HR
  go_wp2
  go_ret
  exact ⟨rfl, (unhide H9).2.trans (hb10.mono (unhide H9).2.size)⟩
end Go.Proofs.YtghopihgnmnlcaaGreatDoor
