/- The law's own copies of options that were handed in, and their bytes counted; what lay in memory stands. -/
import Derived.Test.YtakbldleomhggaaOptRow
import Derived.Deep.WholeRow
namespace Go.Proofs.Ytakbldleomhggaa
open Go.RowKit
/-- Options that were handed in: a slice of n places, each a kind and a text. -/
def ArgO (w : World) (v : Value) (F : List Op.Opt) : Prop :=
  (∃ a cap, v = .slice a F.length cap) ∧ ∀ i (hi : i < F.length), ∃ b o cap, v = .slice (some ⟨b, o, none⟩) F.length cap ∧ b < w.heap.size ∧ w.cell? ⟨b, o + i * 2, none⟩ = some (.int .i64 F[i].kind) ∧ w.cell? ⟨b, o + i * 2 + 1, none⟩ = some (.string F[i].data) ∧ F[i].data.size ≤ maxLen
theorem ArgO.below {w w' : World} {v : Value} {F : List Op.Opt} (h : ArgO w v F) (hb : Below w.heap.size w w') : ArgO w' v F :=
  ⟨h.1, fun i hi => by
    obtain ⟨b, o, cap, h1, h2, h3, h4, h5⟩ := h.2 i hi
    exact ⟨b, o, cap, h1, Nat.lt_of_lt_of_le h2 hb.size, (hb.cell (p := ⟨b, o + i * 2, none⟩) h2).trans h3, (hb.cell (p := ⟨b, o + i * 2 + 1, none⟩) h2).trans h4, h5⟩⟩
set_option maxHeartbeats 400000 in
theorem szO (x : Int) (t : ByteArray) (m : Nat) (w : World) (ht : t.size ≤ maxLen) (hm : m ≤ 1048576) :
    Calls Try.prog 33 #[.agg #[.int .i64 x, .string t], .int .i64 m] w fun e w' => e = .returned (.int .i64 (if t.size ≤ m then ((m - t.size : Nat) : Int) else -1)) ∧ Below w.heap.size w w' := by
  unfold maxLen at ht
  by_cases h : t.size ≤ m
  · rw [if_pos h]
    have d1 : ¬ ((m : Int) - (t.size : Int) < 0) := by omega
    have e1 : (m : Int) - (t.size : Int) = ((m - t.size : Nat) : Int) := by omega
    rw [← e1]
    clear e1
    go_enter Try.func33, Try.ntmps33
    go_wp2
    all_goals first | (exfalso; omega) | (go_ret; exact ⟨rfl, (Below.refl _ _).alloc (Nat.le_refl _) _⟩)
  · rw [if_neg h]
    have d1 : (m : Int) - (t.size : Int) < 0 := by omega
    go_enter Try.func33, Try.ntmps33
    go_wp2
    all_goals first | (exfalso; omega) | (go_ret; exact ⟨rfl, (Below.refl _ _).alloc (Nat.le_refl _) _⟩)
/-- What the count of the bytes tells. -/
def SzP (z : Int) (n : Nat) : Prop := (z < 0 ∨ n ≤ 1048576) ∧ (0 ≤ z ∨ z = -1)
set_option maxHeartbeats 2000000 in
theorem szOs (v : Value) (F : List Op.Opt) (w : World) (hn : F.length ≤ maxLen) (h : ArgO w v F) :
    Calls Try.prog 8 #[v, .int .i64 1048576] w fun e w' => ∃ z : Int, e = .returned (.int .i64 z) ∧ SzP z F.length ∧ Below w.heap.size w w' := by
  unfold maxLen at hn
  obtain ⟨va, vc, rfl⟩ := h.1
  have HA := hide h
  clear h
  obtain ⟨n, hnn⟩ : ∃ n, F.length = n := ⟨_, rfl⟩
  rw [hnn] at hn ⊢
  by_cases h1 : n ≤ 1048576
  · have d1 : ¬ (1048576 - (n : Int) < 0) := by omega
    go_enter Try.func8, Try.ntmps8
    go_wp2_with fail
    have hst : 1048576 - (n : Int) = ((1048576 - n : Nat) : Int) := by omega
    have HST := hide hst
    clear hst
    go_loopw [1, 5] (fun x y wr => ∃ (m i : Nat), m ≤ 1048576 ∧ i ≤ n ∧ x = .int .i64 m ∧ y = .int .i64 i ∧ Below w.heap.size w wr) (fun _ y _ => n - (intOf y).toNat)
    case atStart => exact ⟨1048576 - n, 0, by omega, Nat.zero_le _, by rw [unhide HST], rfl, Below.refl _ _⟩
    case round =>
      obtain ⟨m, i, hm, hi, rfl, rfl, hb⟩ := hrel
      have hbs := hb.size
      by_cases hlt : i < n
      · have e1 : (i : Int) < (n : Int) := by omega
        obtain ⟨b, o, cap, hvf, hbl, k0, k1, hsz⟩ := (unhide HA).2 i (by omega)
        have hvf' : va = some ⟨b, o, none⟩ := by
          simp only [Value.slice.injEq] at hvf
          exact hvf.1
        subst hvf'
        generalize hO : F[i]'(by omega) = op at *
        obtain ⟨kd, dt⟩ := op
        dsimp only at k0 k1 hsz
        have c0 := (hb.cell (p := ⟨b, o + i * 2, none⟩) hbl).trans k0
        have c1 := (hb.cell (p := ⟨b, o + i * 2 + 1, none⟩) hbl).trans k1
        have C := hide fun v => szO kd dt m v hsz hm
        clear k0 k1 hvf hO HST
        by_cases hd : dt.size ≤ m
        · rw [if_pos hd] at C
          have e2 : ¬ (((m - dt.size : Nat) : Int) < 0) := by omega
          go_wp2_with fail
          refine (unhide C _).mono ?_
          rintro e w2 ⟨rfl, hb2⟩
          go_wp2
          go_roundw
          case rel => exact ⟨m - dt.size, i + 1, by omega, by omega, rfl, by go_num, hb.trans (hb2.mono hbs)⟩
          case measure => simp [intOf]; omega
        · rw [if_neg hd] at C
          have e2 : (-1 : Int) < 0 := by decide
          go_wp2_with fail
          refine (unhide C _).mono ?_
          rintro e w2 ⟨rfl, hb2⟩
          go_wp2
          go_ret
          exact ⟨-1, rfl, ⟨Or.inl (by decide), Or.inr rfl⟩, hb.trans (hb2.mono hbs)⟩
      · have e1 : ¬ ((i : Int) < (n : Int)) := by omega
        go_wp2
        go_ret
        exact ⟨_, rfl, ⟨Or.inr h1, Or.inl (by omega)⟩, hb⟩
  · have d1 : 1048576 - (n : Int) < 0 := by omega
    go_enter Try.func8, Try.ntmps8
    go_wp2
    go_ret
    exact ⟨-1, rfl, ⟨Or.inl (by decide), Or.inr rfl⟩, Below.refl _ _⟩
set_option maxHeartbeats 1000000 in
theorem toO (x : Int) (t : ByteArray) (w : World) :
    Calls Try.prog 36 #[.agg #[.int .i64 x, .string t]] w fun e w' => e = .returned (.agg #[.int .i64 x, .string t]) ∧ Below w.heap.size w w' := by
  go_enter Try.func36, Try.ntmps36
  go_wp2
  refine bodyPost_ret (v := .agg #[.int .i64 x, .string t]) (by simp [results, Try.results36, go_sem]) rfl ⟨rfl, ?_⟩
  exact (((Below.refl _ _).alloc (Nat.le_refl _) _).alloc (by simp) _).alloc (by simp; omega) _
theorem set_two2 (cur' : Array Value) (L : List Value) (i : Nat) (A B : Value) (hi : i * 2 + 1 < cur'.size) (h1 : L[i * 2]? = some A) (h2 : L[i * 2 + 1]? = some B) (ha : ∀ j, j < i * 2 → cur'[j]? = L[j]?) :
    ∀ j, j < (i + 1) * 2 → ((cur'.setIfInBounds (i * 2) A).setIfInBounds (i * 2 + 1) B)[j]? = L[j]? := by
  intro j hj
  rw [Array.getElem?_setIfInBounds]
  by_cases e1 : i * 2 + 1 = j
  · rw [if_pos e1, if_pos (by simpa using hi), ← e1, h2]
  · rw [if_neg e1, Array.getElem?_setIfInBounds]
    by_cases e2 : i * 2 = j
    · rw [if_pos e2, if_pos (by omega), ← e2, h1]
    · rw [if_neg e2]
      exact ha j (by omega)
set_option maxHeartbeats 2000000 in
theorem toOs (v : Value) (F : List Op.Opt) (w : World) (hn : F.length ≤ 1048576) (h : ArgO w v F) :
    Calls Try.prog 10 #[v] w fun e w' => ∃ u, e = .returned u ∧ HoldsO w' u F ∧ (∀ q, u.ownBlock = some q → w.heap.size ≤ q) ∧ Below w.heap.size w w' := by
  obtain ⟨i0, hi0, hz0, hz1, hz2⟩ := oinfo
  obtain ⟨va, vc, rfl⟩ := h.1
  have HA := hide h
  clear h
  obtain ⟨n, hnn⟩ : ∃ n, F.length = n := ⟨_, rfl⟩
  rw [hnn] at hn ⊢
  go_enter Try.func10, Try.ntmps10
  go_wp2_with (first
    | (at_make; refine wpList_make_full w rfl _ _ 25 rfl w.heap.size 66 i0 _ 2 Try.underlying25 hi0 hz0 hz1 .i64 .i64 _ _ n rfl rfl rfl rfl (by rw [hz2]; omega) (by unfold maxLen; omega) (Nat.le_refl _) ?_; rintro w1 ho1 hg1; have HO1 := hide ho1; have HG1 := hide hg1; clear ho1 hg1))
  have hb1 : Below w.heap.size w w1 := (Below.refl _ _).grown (unhide HG1) (Nat.le_refl _) (fun k hk => by cases hk)
  obtain ⟨cur, hc1, hc2⟩ : ∃ cur, w1.heap[w.heap.size]? = some (.cells cur 66) ∧ cur.size = n * 2 := by
    rcases (unhide HO1).2 with ⟨k, _⟩ | ⟨g', cap, cur, k1, _, k3, _, _, k6, _⟩
    · cases k
    · simp only [Value.slice.injEq, Option.some.injEq, Addr.mk.injEq, true_and, and_true] at k1
      obtain ⟨rfl, rfl⟩ := k1
      exact ⟨cur, k3, k6⟩
  have HC1 := hide hc1
  have HS := hide (And.intro hc2 hb1)
  clear HO1 HG1 hc1 hc2 hb1
  go_loopw [4] (fun y wr => ∃ (i : Nat), i ≤ n ∧ y = .int .i64 i ∧ (∃ cur', wr.heap[w.heap.size]? = some (.cells cur' 66) ∧ cur'.size = n * 2 ∧ ∀ j, j < i * 2 → cur'[j]? = (ocells F)[j]?) ∧ Below w.heap.size w wr) (fun y _ => n - (intOf y).toNat)
  case atStart => exact ⟨0, Nat.zero_le _, rfl, ⟨cur, unhide HC1, (unhide HS).1, fun j hj => by omega⟩, (unhide HS).2⟩
  case round =>
    obtain ⟨i, hi, rfl, ⟨cur', hg', hs', ha'⟩, hb⟩ := hrel
    have hbs := hb.size
    clear HC1 HS
    have hgl : w.heap.size < wr.heap.size := (Array.getElem?_eq_some_iff.1 hg').1
    by_cases hlt : i < n
    · have e1 : (i : Int) < (n : Int) := by omega
      obtain ⟨b, o, cap, hvf, hbl, k0, k1, hsz⟩ := (unhide HA).2 i (by omega)
      have hvf' : va = some ⟨b, o, none⟩ := by
        simp only [Value.slice.injEq] at hvf
        exact hvf.1
      subst hvf'
      have hget := ocells_get F i (F[i]'(by omega)) (List.getElem?_eq_getElem (by omega))
      generalize hO : F[i]'(by omega) = op at *
      obtain ⟨kd, dt⟩ := op
      dsimp only at k0 k1 hsz hget
      have c0 := (hb.cell (p := ⟨b, o + i * 2, none⟩) hbl).trans k0
      have c1 := (hb.cell (p := ⟨b, o + i * 2 + 1, none⟩) hbl).trans k1
      have C := hide fun v => toO kd dt v
      have HGET := hide hget
      have HG' := hide hg'
      have HA' := hide ha'
      clear k0 k1 hvf hO hget hg' ha'
      go_wp2_with fail
      refine (unhide C _).mono ?_
      rintro e w2 ⟨rfl, hb2⟩
      have hg2 := (hb2.block w.heap.size hgl).trans (unhide HG')
      have hB2 := hb.trans (hb2.mono hbs)
      obtain ⟨y0, hy0⟩ : ∃ y, w2.cell? ⟨w.heap.size, i * 2, none⟩ = some y := ⟨cur'[i * 2]'(by omega), by rw [cell_of_row _ _ _ _ _ _ hg2, Array.getElem?_eq_getElem (by omega)]⟩
      obtain ⟨y1, hy1⟩ : ∃ y, w2.cell? ⟨w.heap.size, i * 2 + 1, none⟩ = some y := ⟨cur'[i * 2 + 1]'(by omega), by rw [cell_of_row _ _ _ _ _ _ hg2, Array.getElem?_eq_getElem (by omega)]⟩
      have f0 : w2.frozen? ⟨w.heap.size, i * 2, none⟩ = false := frz hg2 _
      have f1 : w2.frozen? ⟨w.heap.size, i * 2 + 1, none⟩ = false := frz hg2 _
      have HG2 := hide hg2
      clear hg2 hb2 c0 c1 C
      go_wp2
      go_roundw
      case rel =>
        refine ⟨i + 1, by omega, by go_num, ⟨_, heap_setCell_same _ _ (i * 2 + 1) _ _ _ (heap_setCell_same _ _ (i * 2) _ _ _ (unhide HG2)), by simp [hs'], ?_⟩, (hB2.setCell (p := ⟨w.heap.size, i * 2, none⟩) (Nat.le_refl _) _).setCell (p := ⟨w.heap.size, i * 2 + 1, none⟩) (Nat.le_refl _) _⟩
        exact set_two2 cur' _ i _ _ (by omega) (unhide HGET).1 (unhide HGET).2 (unhide HA')
      case measure => simp [intOf]; omega
    · have e : i = n := by omega
      subst e
      have d1 : ¬ ((i : Int) < (i : Int)) := by omega
      have HH := hide (And.intro hg' ha')
      clear hg' ha'
      go_wp2
      go_ret
      refine ⟨_, rfl, Or.inr ⟨w.heap.size, i, cur', by rw [hnn]; rfl, (unhide HH).1, by rw [hnn]; omega, by rw [hnn]; exact (unhide HH).2⟩, ?_, hb⟩
      intro q hq
      cases hq
      exact Nat.le_refl _
end Go.Proofs.Ytakbldleomhggaa
