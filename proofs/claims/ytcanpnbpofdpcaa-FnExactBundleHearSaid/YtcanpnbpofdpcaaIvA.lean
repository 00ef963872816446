/- Numbers that were handed in: the law's own copies, counted; what lay in memory stands. -/
import Derived.Test.YtcanpnbpofdpcaaIvR
import Derived.Deep.WholeRow
import Derived.Deep.RegionHeld
namespace Go.Proofs.Ytcanpnbpofdpcaa
open Go.RowKit
/-- Numbers that were handed in: a slice of so many places, each a number. -/
def ArgI (w : World) (v : Value) (L : List Int) : Prop :=
  (∃ a cap, v = .slice a L.length cap) ∧ ∀ i (hi : i < L.length), ∃ b o cap, v = .slice (some ⟨b, o, none⟩) L.length cap ∧ b < w.heap.size ∧ w.cell? ⟨b, o + i, none⟩ = some (.int .i64 L[i])
theorem ArgI.below {w w' : World} {v : Value} {L : List Int} (h : ArgI w v L) (hb : Below w.heap.size w w') : ArgI w' v L :=
  ⟨h.1, fun i hi => by
    obtain ⟨b, o, cap, h1, h2, h3⟩ := h.2 i hi
    exact ⟨b, o, cap, h1, Nat.lt_of_lt_of_le h2 hb.size, (hb.cell (p := ⟨b, o + i, none⟩) h2).trans h3⟩⟩
set_option maxHeartbeats 1000000 in
theorem szIs (a : Option Addr) (cp : Nat) (L : List Int) (k : Nat) (w : World) (hk : k ≤ 1048576) (hn : L.length ≤ maxLen) :
    Calls Try.prog 18 #[.slice a L.length cp, .int .i64 k] w fun e w' => ∃ z : Int, e = .returned (.int .i64 z) ∧ (z = -1 ∨ (L.length ≤ 1048576 ∧ ∃ m : Nat, z = (m : Int) ∧ m ≤ 1048576)) ∧ Below w.heap.size w w' := by
  unfold maxLen at hn
  generalize L.length = n at *
  by_cases h1 : n ≤ k
  · have d1 : ¬ ((k : Int) - (n : Int) < 0) := by omega
    go_enter Try.func18, Try.ntmps18
    go_wp2
    go_ret
    exact ⟨_, rfl, Or.inr ⟨by omega, k - n, by omega, by omega⟩, Below.refl _ _⟩
  · have d1 : (k : Int) - (n : Int) < 0 := by omega
    go_enter Try.func18, Try.ntmps18
    go_wp2
    go_ret
    exact ⟨-1, rfl, Or.inl rfl, Below.refl _ _⟩
theorem set_oneI (cur' : Array Value) (L : List Value) (i : Nat) (A : Value) (hi : i < cur'.size) (h1 : L[i]? = some A) (ha : ∀ j, j < i → cur'[j]? = L[j]?) : ∀ j, j < i + 1 → (cur'.setIfInBounds i A)[j]? = L[j]? := by
  intro j hj
  rw [Array.getElem?_setIfInBounds]
  by_cases e1 : i = j
  · rw [if_pos e1, if_pos hi, ← e1, h1]
  · rw [if_neg e1]
    exact ha j (by omega)
set_option maxHeartbeats 2000000 in
theorem toIs (v : Value) (L : List Int) (w : World) (hn : L.length ≤ 1048576) (h : ArgI w v L) :
    Calls Try.prog 22 #[v] w fun e w' => ∃ u, e = .returned u ∧ HoldsI w' u L ∧ (∀ q, u.ownBlock = some q → w.heap.size ≤ q) ∧ Below w.heap.size w w' := by
  obtain ⟨i0, hi0, hz0, hz1, hz2⟩ := iinfo
  obtain ⟨va, vc, rfl⟩ := h.1
  have HA := hide h
  clear h
  obtain ⟨n, hnn⟩ : ∃ n, L.length = n := ⟨_, rfl⟩
  rw [hnn] at hn ⊢
  go_enter Try.func22, Try.ntmps22
  go_wp2_with (first
    | (at_make; refine wpList_make_full w rfl _ _ 22 rfl w.heap.size 2 i0 _ 1 Try.underlying22 hi0 hz0 hz1 .i64 .i64 _ _ n rfl rfl rfl rfl (by rw [hz2]; omega) (by unfold maxLen; omega) (Nat.le_refl _) ?_; rintro w1 ho1 hg1; have HO1 := hide ho1; have HG1 := hide hg1; clear ho1 hg1))
  have hb1 : Below w.heap.size w w1 := (Below.refl _ _).grown (unhide HG1) (Nat.le_refl _) (fun k hk => by cases hk)
  obtain ⟨cur, hc1, hc2⟩ : ∃ cur, w1.heap[w.heap.size]? = some (.cells cur 2) ∧ cur.size = n := by
    rcases (unhide HO1).2 with ⟨k, _⟩ | ⟨g', cap, cur, k1, _, k3, _, _, k6, _⟩
    · cases k
    · simp only [Value.slice.injEq, Option.some.injEq, Addr.mk.injEq, true_and, and_true] at k1
      obtain ⟨rfl, rfl⟩ := k1
      exact ⟨cur, k3, by omega⟩
  have HC1 := hide hc1
  have HS := hide (And.intro hc2 hb1)
  clear HO1 HG1 hc1 hc2 hb1
  go_loopw [4] (fun y wr => ∃ (i : Nat), i ≤ n ∧ y = .int .i64 i ∧ (∃ cur', wr.heap[w.heap.size]? = some (.cells cur' 2) ∧ cur'.size = n ∧ ∀ j, j < i → cur'[j]? = (icells L)[j]?) ∧ Below w.heap.size w wr) (fun y _ => n - (intOf y).toNat)
  case atStart => exact ⟨0, Nat.zero_le _, rfl, ⟨cur, unhide HC1, (unhide HS).1, fun j hj => by omega⟩, (unhide HS).2⟩
  case round =>
    obtain ⟨i, hi, rfl, ⟨cur', hg', hs', ha'⟩, hb⟩ := hrel
    have hbs := hb.size
    clear HC1 HS
    have hgl : w.heap.size < wr.heap.size := (Array.getElem?_eq_some_iff.1 hg').1
    by_cases hlt : i < n
    · have e1 : (i : Int) < (n : Int) := by omega
      obtain ⟨b, o, cap, hvf, hbl, k0⟩ := (unhide HA).2 i (by omega)
      have hvf' : va = some ⟨b, o, none⟩ := by
        simp only [Value.slice.injEq] at hvf
        exact hvf.1
      subst hvf'
      have hget := icells_get L i (L[i]'(by omega)) (List.getElem?_eq_getElem (by omega))
      generalize hO : L[i]'(by omega) = dt at *
      have c0 := (hb.cell (p := ⟨b, o + i, none⟩) hbl).trans k0
      obtain ⟨y0, hy0⟩ : ∃ y, wr.cell? ⟨w.heap.size, i, none⟩ = some y := ⟨cur'[i]'(by omega), by rw [cell_of_row _ _ _ _ _ _ hg', Array.getElem?_eq_getElem (by omega)]⟩
      have f0 : wr.frozen? ⟨w.heap.size, i, none⟩ = false := frz hg' _
      have HGET := hide hget
      have HG' := hide hg'
      have HA' := hide ha'
      have HB := hide hb
      have HI : Hid (i < cur'.size) := hide (by omega)
      clear k0 hvf hO hget hg' ha' hb HA
      go_wp2
      go_roundw
      case rel =>
        refine ⟨i + 1, by omega, by go_num, ⟨_, heap_setCell_same _ _ i _ _ _ (unhide HG'), by simp [hs'], ?_⟩, (unhide HB).setCell (p := ⟨w.heap.size, i, none⟩) (Nat.le_refl _) _⟩
        exact set_oneI cur' _ i _ (unhide HI) (unhide HGET) (unhide HA')
      case measure => simp [intOf]; omega
    · have e : i = n := by omega
      subst e
      have d1 : ¬ ((i : Int) < (i : Int)) := by omega
      have HH := hide (And.intro hg' ha')
      clear hg' ha'
      go_wp2
      go_ret
      refine ⟨_, rfl, Or.inr ⟨w.heap.size, i, cur', by rw [hnn]; rfl, (unhide HH).1, by rw [hnn]; omega, by rw [hnn]; exact (unhide HH).2⟩, ?_, hb⟩
      intro q hq
      cases hq
      exact Nat.le_refl _
end Go.Proofs.Ytcanpnbpofdpcaa
