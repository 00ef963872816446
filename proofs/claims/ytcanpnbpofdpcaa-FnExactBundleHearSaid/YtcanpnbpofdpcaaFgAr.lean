/- Parts that were handed in: the law's own copies, their letters counted; what lay in memory stands. -/
import Derived.Test.YtcanpnbpofdpcaaFgC
import Derived.Test.YtcanpnbpofdpcaaFgTo
import Derived.Deep.WholeRow
namespace Go.Proofs.Ytcanpnbpofdpcaa
open Go.RowKit
/-- Parts that were handed in. -/
def ArgG (w : World) (v : Value) (F : List Fg) : Prop :=
  (∃ a cap, v = .slice a F.length cap) ∧ ∀ i (hi : i < F.length), ∃ b o cap, v = .slice (some ⟨b, o, none⟩) F.length cap ∧ b < w.heap.size ∧ w.cell? ⟨b, o + i * 4, none⟩ = some (.int .i64 F[i].seq) ∧ w.cell? ⟨b, o + i * 4 + 1, none⟩ = some (.bool F[i].beg) ∧ w.cell? ⟨b, o + i * 4 + 2, none⟩ = some (.bool F[i].fin) ∧ w.cell? ⟨b, o + i * 4 + 3, none⟩ = some (.string F[i].text) ∧ F[i].text.size ≤ maxLen
theorem ArgG.below {w w' : World} {v : Value} {F : List Fg} (h : ArgG w v F) (hb : Below w.heap.size w w') : ArgG w' v F :=
  ⟨h.1, fun i hi => by
    obtain ⟨b, o, cap, h1, h2, h3, h4, h5, h6, h7⟩ := h.2 i hi
    exact ⟨b, o, cap, h1, Nat.lt_of_lt_of_le h2 hb.size, (hb.cell (p := ⟨b, o + i * 4, none⟩) h2).trans h3, (hb.cell (p := ⟨b, o + i * 4 + 1, none⟩) h2).trans h4, (hb.cell (p := ⟨b, o + i * 4 + 2, none⟩) h2).trans h5, (hb.cell (p := ⟨b, o + i * 4 + 3, none⟩) h2).trans h6, h7⟩⟩
set_option maxHeartbeats 2000000 in
theorem szFgS (v : Value) (F : List Fg) (k : Nat) (w : World) (hk : k ≤ 1048576) (hn : F.length ≤ maxLen) (h : ArgG w v F) :
    Calls Try.prog 19 #[v, .int .i64 k] w fun e w' => ∃ z : Int, e = .returned (.int .i64 z) ∧ (z = -1 ∨ (F.length ≤ 1048576 ∧ ∃ m : Nat, z = (m : Int) ∧ m ≤ 1048576)) ∧ Below w.heap.size w w' := by
  unfold maxLen at hn
  obtain ⟨va, vc, rfl⟩ := h.1
  have HA := hide h
  clear h
  obtain ⟨n, hnn⟩ : ∃ n, F.length = n := ⟨_, rfl⟩
  rw [hnn] at hn ⊢
  by_cases h1 : n ≤ k
  · have d1 : ¬ ((k : Int) - (n : Int) < 0) := by omega
    go_enter Try.func19, Try.ntmps19
    go_wp2_with fail
    have hst : (k : Int) - (n : Int) = ((k - n : Nat) : Int) := by omega
    have HST := hide hst
    clear hst
    go_loopw [1, 5] (fun x y wr => ∃ (m i : Nat), m ≤ 1048576 ∧ i ≤ n ∧ x = .int .i64 m ∧ y = .int .i64 i ∧ Below w.heap.size w wr) (fun _ y _ => n - (intOf y).toNat)
    case atStart => exact ⟨k - n, 0, by omega, Nat.zero_le _, by rw [unhide HST], rfl, Below.refl _ _⟩
    case round =>
      obtain ⟨m, i, hm, hi, rfl, rfl, hb⟩ := hrel
      have hbs := hb.size
      by_cases hlt : i < n
      · have e1 : (i : Int) < (n : Int) := by omega
        obtain ⟨b, o, cap, hvf, hbl, k0, k1, k2, k3, hsz⟩ := (unhide HA).2 i (by omega)
        have hvf' : va = some ⟨b, o, none⟩ := by
          simp only [Value.slice.injEq] at hvf
          exact hvf.1
        subst hvf'
        generalize hO : F[i]'(by omega) = op at *
        obtain ⟨kd, bg, fn, dt⟩ := op
        dsimp only at k0 k1 k2 k3 hsz
        have c0 := (hb.cell (p := ⟨b, o + i * 4, none⟩) hbl).trans k0
        have c1 := (hb.cell (p := ⟨b, o + i * 4 + 1, none⟩) hbl).trans k1
        have c2 := (hb.cell (p := ⟨b, o + i * 4 + 2, none⟩) hbl).trans k2
        have c3 := (hb.cell (p := ⟨b, o + i * 4 + 3, none⟩) hbl).trans k3
        have C := hide fun v => szFg kd bg fn dt v hsz m hm
        clear k0 k1 k2 k3 hvf hO HST
        by_cases hd : dt.size ≤ m
        · rw [if_pos hd] at C
          have e2 : ¬ ((m : Int) - (dt.size : Int) < 0) := by omega
          have HE : Hid ((m : Int) - (dt.size : Int) = ((m - dt.size : Nat) : Int)) := hide (by omega)
          go_wp2_with fail
          refine (unhide C _).mono ?_
          rintro e w2 ⟨rfl, hb2⟩
          go_wp2
          go_roundw
          case rel => exact ⟨m - dt.size, i + 1, by omega, by omega, by rw [unhide HE], by go_num, hb.trans (hb2.mono hbs)⟩
          case measure => simp [intOf]; omega
        · rw [if_neg hd] at C
          have e2 : (-1 : Int) < 0 := by decide
          go_wp2_with fail
          refine (unhide C _).mono ?_
          rintro e w2 ⟨rfl, hb2⟩
          go_wp2
          go_ret
          exact ⟨-1, rfl, Or.inl rfl, hb.trans (hb2.mono hbs)⟩
      · have e1 : ¬ ((i : Int) < (n : Int)) := by omega
        go_wp2
        go_ret
        exact ⟨_, rfl, Or.inr ⟨by omega, m, rfl, hm⟩, hb⟩
  · have d1 : (k : Int) - (n : Int) < 0 := by omega
    go_enter Try.func19, Try.ntmps19
    go_wp2
    go_ret
    exact ⟨-1, rfl, Or.inl rfl, Below.refl _ _⟩
set_option maxHeartbeats 2000000 in
set_option maxHeartbeats 2000000 in
theorem toFgS (v : Value) (F : List Fg) (w : World) (hn : F.length ≤ 1048576) (h : ArgG w v F) :
    Calls Try.prog 23 #[v] w fun e w' => ∃ u, e = .returned u ∧ HoldsG w' u F ∧ (∀ q, u.ownBlock = some q → w.heap.size ≤ q) ∧ Below w.heap.size w w' := by
  obtain ⟨i0, hi0, hz0, hz1, hz2⟩ := fginfo
  obtain ⟨va, vc, rfl⟩ := h.1
  have HA := hide h
  clear h
  obtain ⟨n, hnn⟩ : ∃ n, F.length = n := ⟨_, rfl⟩
  rw [hnn] at hn ⊢
  go_enter Try.func23, Try.ntmps23
  go_wp2_with (first
    | (at_make; refine wpList_make_full w rfl _ _ 28 rfl w.heap.size 41 i0 _ 4 Try.underlying28 hi0 hz0 hz1 .i64 .i64 _ _ n rfl rfl rfl rfl (by rw [hz2]; omega) (by unfold maxLen; omega) (Nat.le_refl _) ?_; rintro w1 ho1 hg1; have HO1 := hide ho1; have HG1 := hide hg1; clear ho1 hg1))
  have hb1 : Below w.heap.size w w1 := (Below.refl _ _).grown (unhide HG1) (Nat.le_refl _) (fun k hk => by cases hk)
  obtain ⟨cur, hc1, hc2⟩ : ∃ cur, w1.heap[w.heap.size]? = some (.cells cur 41) ∧ cur.size = n * 4 := by
    rcases (unhide HO1).2 with ⟨k, _⟩ | ⟨g', cap, cur, k1, _, k3, _, _, k6, _⟩
    · cases k
    · simp only [Value.slice.injEq, Option.some.injEq, Addr.mk.injEq, true_and, and_true] at k1
      obtain ⟨rfl, rfl⟩ := k1
      exact ⟨cur, k3, k6⟩
  have HC1 := hide hc1
  have HS := hide (And.intro hc2 hb1)
  clear HO1 HG1 hc1 hc2 hb1
  go_loopw [4] (fun y wr => ∃ (i : Nat), i ≤ n ∧ y = .int .i64 i ∧ (∃ cur', wr.heap[w.heap.size]? = some (.cells cur' 41) ∧ cur'.size = n * 4 ∧ ∀ j, j < i * 4 → cur'[j]? = (fgcells F)[j]?) ∧ Below w.heap.size w wr) (fun y _ => n - (intOf y).toNat)
  case atStart => exact ⟨0, Nat.zero_le _, rfl, ⟨cur, unhide HC1, (unhide HS).1, fun j hj => by omega⟩, (unhide HS).2⟩
  case round =>
    obtain ⟨i, hi, rfl, ⟨cur', hg', hs', ha'⟩, hb⟩ := hrel
    have hbs := hb.size
    clear HC1 HS
    have hgl : w.heap.size < wr.heap.size := (Array.getElem?_eq_some_iff.1 hg').1
    by_cases hlt : i < n
    · have e1 : (i : Int) < (n : Int) := by omega
      obtain ⟨b, o, cap, hvf, hbl, k0, k1, k2, k3, hsz⟩ := (unhide HA).2 i (by omega)
      have hvf' : va = some ⟨b, o, none⟩ := by
        simp only [Value.slice.injEq] at hvf
        exact hvf.1
      subst hvf'
      have hget := fgcells_get F i (F[i]'(by omega)) (List.getElem?_eq_getElem (by omega))
      generalize hO : F[i]'(by omega) = op at *
      obtain ⟨kd, bg, fn, dt⟩ := op
      dsimp only at k0 k1 k2 k3 hsz hget
      have c0 := (hb.cell (p := ⟨b, o + i * 4, none⟩) hbl).trans k0
      have c1 := (hb.cell (p := ⟨b, o + i * 4 + 1, none⟩) hbl).trans k1
      have c2 := (hb.cell (p := ⟨b, o + i * 4 + 2, none⟩) hbl).trans k2
      have c3 := (hb.cell (p := ⟨b, o + i * 4 + 3, none⟩) hbl).trans k3
      have C := hide fun v => toFg kd bg fn dt v
      have HGET := hide hget
      have HG' := hide hg'
      have HA' := hide ha'
      clear k0 k1 k2 k3 hvf hO hget hg' ha'
      go_wp2_with fail
      refine (unhide C _).mono ?_
      rintro e w2 ⟨rfl, hb2⟩
      have hg2 := (hb2.block w.heap.size hgl).trans (unhide HG')
      have hB2 := hb.trans (hb2.mono hbs)
      obtain ⟨y0, hy0⟩ : ∃ y, w2.cell? ⟨w.heap.size, i * 4, none⟩ = some y := ⟨cur'[i * 4]'(by omega), by rw [cell_of_row _ _ _ _ _ _ hg2, Array.getElem?_eq_getElem (by omega)]⟩
      obtain ⟨y1, hy1⟩ : ∃ y, w2.cell? ⟨w.heap.size, i * 4 + 1, none⟩ = some y := ⟨cur'[i * 4 + 1]'(by omega), by rw [cell_of_row _ _ _ _ _ _ hg2, Array.getElem?_eq_getElem (by omega)]⟩
      obtain ⟨y2, hy2⟩ : ∃ y, w2.cell? ⟨w.heap.size, i * 4 + 2, none⟩ = some y := ⟨cur'[i * 4 + 2]'(by omega), by rw [cell_of_row _ _ _ _ _ _ hg2, Array.getElem?_eq_getElem (by omega)]⟩
      obtain ⟨y3, hy3⟩ : ∃ y, w2.cell? ⟨w.heap.size, i * 4 + 3, none⟩ = some y := ⟨cur'[i * 4 + 3]'(by omega), by rw [cell_of_row _ _ _ _ _ _ hg2, Array.getElem?_eq_getElem (by omega)]⟩
      have f2 : w2.frozen? ⟨w.heap.size, i * 4 + 2, none⟩ = false := frz hg2 _
      have f3 : w2.frozen? ⟨w.heap.size, i * 4 + 3, none⟩ = false := frz hg2 _
      have f0 : w2.frozen? ⟨w.heap.size, i * 4, none⟩ = false := frz hg2 _
      have f1 : w2.frozen? ⟨w.heap.size, i * 4 + 1, none⟩ = false := frz hg2 _
      have HG2 := hide hg2
      clear hg2 hb2 c0 c1 c2 c3 C
      go_wp2
      go_roundw
      case rel =>
        refine ⟨i + 1, by omega, by go_num, ⟨_, heap_setCell_same _ _ (i * 4 + 3) _ _ _ (heap_setCell_same _ _ (i * 4 + 2) _ _ _ (heap_setCell_same _ _ (i * 4 + 1) _ _ _ (heap_setCell_same _ _ (i * 4) _ _ _ (unhide HG2)))), by simp [hs'], ?_⟩, (((hB2.setCell (p := ⟨w.heap.size, i * 4, none⟩) (Nat.le_refl _) _).setCell (p := ⟨w.heap.size, i * 4 + 1, none⟩) (Nat.le_refl _) _).setCell (p := ⟨w.heap.size, i * 4 + 2, none⟩) (Nat.le_refl _) _).setCell (p := ⟨w.heap.size, i * 4 + 3, none⟩) (Nat.le_refl _) _⟩
        exact set_fourx cur' _ i _ _ _ _ (by omega) (unhide HGET).1 (unhide HGET).2.1 (unhide HGET).2.2.1 (unhide HGET).2.2.2 (unhide HA')
      case measure => simp [intOf]; omega
    · have e : i = n := by omega
      subst e
      have d1 : ¬ ((i : Int) < (i : Int)) := by omega
      have HH := hide (And.intro hg' ha')
      clear hg' ha'
      go_wp2
      go_ret
      refine ⟨_, rfl, Or.inr ⟨w.heap.size, i, cur', by rw [hnn]; rfl, (unhide HH).1, by rw [hnn]; omega, by rw [hnn]; exact (unhide HH).2⟩, ?_, hb⟩
      intro q hq
      cases hq
      exact Nat.le_refl _
end Go.Proofs.Ytcanpnbpofdpcaa
