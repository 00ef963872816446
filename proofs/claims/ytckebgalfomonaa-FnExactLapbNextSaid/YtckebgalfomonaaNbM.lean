/- The law's words on rows of numbered frames: compared, marked by numbers, and whether the marks are there; what lay in memory stands but for the marked row. -/
import Derived.Test.YtckebgalfomonaaNbC
import Derived.Test.YtckebgalfomonaaNbQ
import Derived.Test.YtckebgalfomonaaMarkT
namespace Go.Proofs.Ytckebgalfomonaa
open Go.RowKit
set_option maxHeartbeats 2000000 in
theorem eqNb0 (a1 a2 : Option Addr) (c1 c2 : Nat) (w : World) :
    Calls Try.prog 42 #[.slice a1 0 c1, .slice a2 0 c2] w fun e w' => e = .returned (.bool true) ∧ Below w.heap.size w w' := by
  go_enter Try.func42, Try.ntmps42
  go_wp2_with fail
  go_loopw [5] (fun y wr => y = .int .i64 0 ∧ wr = w) (fun _ _ => 0)
  case atStart => exact ⟨rfl, rfl⟩
  case round =>
    obtain ⟨rfl, rfl⟩ := hrel
    go_wp2
    go_ret
    exact ⟨rfl, Below.refl _ _⟩
set_option maxHeartbeats 2000000 in
theorem eqNbG (g1 g2 c1 c2 : Nat) (F : List Nb) (cur1 cur2 : Array Value) (w : World) (hF : F.length ≤ 2000000) (h1 : w.heap[g1]? = some (.cells cur1 59)) (h2 : w.heap[g2]? = some (.cells cur2 59))
    (a1 : ∀ j, j < F.length * 4 → cur1[j]? = (nbcells F)[j]?) (a2 : ∀ j, j < F.length * 4 → cur2[j]? = (nbcells F)[j]?) :
    Calls Try.prog 42 #[.slice (some ⟨g1, 0, none⟩) F.length c1, .slice (some ⟨g2, 0, none⟩) F.length c2] w fun e w' => e = .returned (.bool true) ∧ Below w.heap.size w w' := by
  have hl1 : g1 < w.heap.size := (Array.getElem?_eq_some_iff.1 h1).1
  have hl2 : g2 < w.heap.size := (Array.getElem?_eq_some_iff.1 h2).1
  obtain ⟨n, hn⟩ : ∃ n, F.length = n := ⟨_, rfl⟩
  have HA : Hid (∀ i, i < n → ∃ k x y t, cur1[i * 4]? = some (.int .i64 k) ∧ cur1[i * 4 + 1]? = some (.int .i64 x) ∧ cur1[i * 4 + 2]? = some (.int .i64 y) ∧ cur1[i * 4 + 3]? = some (.string t) ∧ cur2[i * 4]? = some (.int .i64 k) ∧ cur2[i * 4 + 1]? = some (.int .i64 x) ∧ cur2[i * 4 + 2]? = some (.int .i64 y) ∧ cur2[i * 4 + 3]? = some (.string t)) := by
    refine hide fun i hi => ?_
    have g := nbcells_get F i (F[i]'(by omega)) (List.getElem?_eq_getElem (by omega))
    exact ⟨_, _, _, _, (a1 _ (by omega)).trans g.1, (a1 _ (by omega)).trans g.2.1, (a1 _ (by omega)).trans g.2.2.1, (a1 _ (by omega)).trans g.2.2.2, (a2 _ (by omega)).trans g.1, (a2 _ (by omega)).trans g.2.1, (a2 _ (by omega)).trans g.2.2.1, (a2 _ (by omega)).trans g.2.2.2⟩
  rw [hn] at hF ⊢
  clear a1 a2 hn
  go_enter Try.func42, Try.ntmps42
  go_wp2_with fail
  go_loopw [5] (fun y wr => ∃ (i : Nat), i ≤ n ∧ y = .int .i64 i ∧ Below w.heap.size w wr) (fun y _ => n - (intOf y).toNat)
  case atStart => exact ⟨0, Nat.zero_le _, rfl, Below.refl _ _⟩
  case round =>
    obtain ⟨i, hi, rfl, hb⟩ := hrel
    have hbs := hb.size
    by_cases hlt : i < n
    · have d1 : (i : Int) < (n : Int) := by omega
      obtain ⟨k, x, y, t, q1, q2, q3, q4, q5, q6, q7, q8⟩ := unhide HA i hlt
      have e1 := (hb.block g1 hl1).trans h1
      have e2 := (hb.block g2 hl2).trans h2
      have k0 : wr.cell? ⟨g1, i * 4, none⟩ = some (.int .i64 k) := by rw [cell_of_row _ _ _ _ _ _ e1]; exact q1
      have k1 : wr.cell? ⟨g1, i * 4 + 1, none⟩ = some (.int .i64 x) := by rw [cell_of_row _ _ _ _ _ _ e1]; exact q2
      have k2 : wr.cell? ⟨g1, i * 4 + 2, none⟩ = some (.int .i64 y) := by rw [cell_of_row _ _ _ _ _ _ e1]; exact q3
      have k3 : wr.cell? ⟨g1, i * 4 + 3, none⟩ = some (.string t) := by rw [cell_of_row _ _ _ _ _ _ e1]; exact q4
      have k4 : wr.cell? ⟨g2, i * 4, none⟩ = some (.int .i64 k) := by rw [cell_of_row _ _ _ _ _ _ e2]; exact q5
      have k5 : wr.cell? ⟨g2, i * 4 + 1, none⟩ = some (.int .i64 x) := by rw [cell_of_row _ _ _ _ _ _ e2]; exact q6
      have k6 : wr.cell? ⟨g2, i * 4 + 2, none⟩ = some (.int .i64 y) := by rw [cell_of_row _ _ _ _ _ _ e2]; exact q7
      have k7 : wr.cell? ⟨g2, i * 4 + 3, none⟩ = some (.string t) := by rw [cell_of_row _ _ _ _ _ _ e2]; exact q8
      have C := hide fun v => eqNb k x y t v
      clear e1 e2 q1 q2 q3 q4 q5 q6 q7 q8 h1 h2
      go_wp2_with fail
      go_region_with (first
        | (go_at_call 53; refine (unhide C _).mono ?_; rintro e w2 ⟨rfl, hb2⟩))
      all_goals
        go_wp2_with fail
        go_roundw
        case rel => exact ⟨i + 1, by omega, by go_num, hb.trans (((Below.refl _ _).drew.trans hb2).mono hbs)⟩
        case measure => simp [intOf]; omega
    · have e : i = n := by omega
      subst e
      have d1 : ¬ ((i : Int) < (i : Int)) := by omega
      go_wp2
      go_ret
      exact ⟨rfl, hb⟩
theorem eqNbS (v1 v2 : Value) (F : List Nb) (w : World) (hF : F.length ≤ 2000000) (h1 : HoldsN w v1 F) (h2 : HoldsN w v2 F) :
    Calls Try.prog 42 #[v1, v2] w fun e w' => e = .returned (.bool true) ∧ Below w.heap.size w w' := by
  rcases h1 with ⟨ad1, cp1, rfl, e⟩ | ⟨g1, cp1, cur1, rfl, q1, q2, q3⟩
  · subst e
    rcases h2 with ⟨ad2, cp2, rfl, _⟩ | ⟨g2, cp2, cur2, rfl, _⟩
    · exact eqNb0 _ _ _ _ w
    · exact eqNb0 _ _ _ _ w
  · rcases h2 with ⟨ad2, cp2, rfl, e⟩ | ⟨g2, cp2, cur2, rfl, r1, r2, r3⟩
    · subst e
      exact eqNb0 _ _ _ _ w
    · exact eqNbG g1 g2 cp1 cp2 F cur1 cur2 w hF q1 r1 q3 r3
/-- Frames, marked. -/
def mnb (k n : Nat) : List Nb := (List.range n).map fun i => ⟨((k + 4 * i : Nat) : Int), ((k + 4 * i + 1 : Nat) : Int), ((k + 4 * i + 2 : Nat) : Int), mtx (k + 4 * i + 3)⟩
theorem mnb_len (k n : Nat) : (mnb k n).length = n := by simp [mnb]
theorem mnb_get (k n i K : Nat) (h : i < n) (hK : k + 4 * i = K) : (nbcells (mnb k n))[i * 4]? = some (.int .i64 (K : Int)) ∧ (nbcells (mnb k n))[i * 4 + 1]? = some (.int .i64 ((K : Int) + 1)) ∧ (nbcells (mnb k n))[i * 4 + 2]? = some (.int .i64 ((K : Int) + 1 + 1)) ∧ (nbcells (mnb k n))[i * 4 + 3]? = some (.string (mtx (K + 3))) := by
  subst hK
  exact nbcells_get (mnb k n) i ⟨((k + 4 * i : Nat) : Int), ((k + 4 * i + 1 : Nat) : Int), ((k + 4 * i + 2 : Nat) : Int), mtx (k + 4 * i + 3)⟩ (by simp [mnb, h])
theorem set_four (cur' : Array Value) (L : List Value) (i : Nat) (A B C D : Value) (hi : i * 4 + 3 < cur'.size) (h1 : L[i * 4]? = some A) (h2 : L[i * 4 + 1]? = some B) (h3 : L[i * 4 + 2]? = some C) (h4 : L[i * 4 + 3]? = some D) (ha : ∀ j, j < i * 4 → cur'[j]? = L[j]?) :
    ∀ j, j < (i + 1) * 4 → ((((cur'.setIfInBounds (i * 4) A).setIfInBounds (i * 4 + 1) B).setIfInBounds (i * 4 + 2) C).setIfInBounds (i * 4 + 3) D)[j]? = L[j]? := by
  intro j hj
  rw [Array.getElem?_setIfInBounds]
  by_cases e0 : i * 4 + 3 = j
  · rw [if_pos e0, if_pos (by simpa using hi), ← e0, h4]
  · rw [if_neg e0, Array.getElem?_setIfInBounds]
    by_cases e1 : i * 4 + 2 = j
    · rw [if_pos e1, if_pos (by simp; omega), ← e1, h3]
    · rw [if_neg e1, Array.getElem?_setIfInBounds]
      by_cases e2 : i * 4 + 1 = j
      · rw [if_pos e2, if_pos (by simp; omega), ← e2, h2]
      · rw [if_neg e2, Array.getElem?_setIfInBounds]
        by_cases e3 : i * 4 = j
        · rw [if_pos e3, if_pos (by omega), ← e3, h1]
        · rw [if_neg e3]
          exact ha j (by omega)
set_option maxHeartbeats 2000000 in
theorem markNbG (g cap n k : Nat) (cur : Array Value) (w : World) (hk : 0 < k) (hn : k + 4 * n < 9000000) (hc : n * 4 ≤ cur.size) (hg : w.heap[g]? = some (.cells cur 59)) :
    Calls Try.prog 43 #[.slice (some ⟨g, 0, none⟩) n cap, .int .i64 k] w fun e w' => e = .returned (.int .i64 ((k + 4 * n : Nat) : Int)) ∧
      (∃ cur', w'.heap[g]? = some (.cells cur' 59) ∧ cur'.size = cur.size ∧ ∀ j, j < n * 4 → cur'[j]? = (nbcells (mnb k n))[j]?) ∧ Nr g w w' := by
  have hgl : g < w.heap.size := (Array.getElem?_eq_some_iff.1 hg).1
  go_enter Try.func43, Try.ntmps43
  go_wp2_with fail
  go_loopw [1, 5] (fun x y wr => ∃ (i : Nat), i ≤ n ∧ y = .int .i64 i ∧ x = .int .i64 ((k + 4 * i : Nat) : Int) ∧ (∃ cur', wr.heap[g]? = some (.cells cur' 59) ∧ cur'.size = cur.size ∧ ∀ j, j < i * 4 → cur'[j]? = (nbcells (mnb k n))[j]?) ∧ Nr g w wr) (fun _ y _ => n - (intOf y).toNat)
  case atStart => exact ⟨0, Nat.zero_le _, rfl, rfl, ⟨cur, hg, rfl, fun j hj => by omega⟩, Nr.refl _ _⟩
  case round =>
    obtain ⟨i, hi, rfl, rfl, ⟨cur', hg', hs', ha'⟩, hnr⟩ := hrel
    by_cases hlt : i < n
    · have d1 : (i : Int) < (n : Int) := by omega
      have hgl' : g < wr.heap.size := Nat.lt_of_lt_of_le hgl hnr.size
      obtain ⟨K, hK⟩ : ∃ K : Nat, k + 4 * i = K := ⟨_, rfl⟩
      rw [hK]
      have hMg := mnb_get k n i K hlt hK
      have HMg := hide hMg
      have HKe : Hid ((K : Int) + 1 + 1 + 1 + 1 = ((k + 4 * (i + 1) : Nat) : Int)) := hide (by omega)
      have hK9 : K + 3 < 9000000 := by omega
      have HI : Hid (i * 4 + 3 < cur'.size) := hide (by omega)
      have C := hide fun v => markText (K + 3) v (by omega) (by omega)
      rw [show ((K + 3 : Nat) : Int) = (K : Int) + 1 + 1 + 1 from by omega] at C
      clear hK hMg
      obtain ⟨y0, hy0⟩ : ∃ y, wr.cell? ⟨g, i * 4, none⟩ = some y := ⟨cur'[i * 4]'(by have := unhide HI; omega), by rw [cell_of_row _ _ _ _ _ _ hg', Array.getElem?_eq_getElem (by have := unhide HI; omega)]⟩
      have hf0 : wr.frozen? ⟨g, i * 4, none⟩ = false := frz hg' _
      obtain ⟨y1, hy1⟩ : ∃ y, wr.cell? ⟨g, i * 4 + 1, none⟩ = some y := ⟨cur'[i * 4 + 1]'(by have := unhide HI; omega), by rw [cell_of_row _ _ _ _ _ _ hg', Array.getElem?_eq_getElem (by have := unhide HI; omega)]⟩
      have hf1 : wr.frozen? ⟨g, i * 4 + 1, none⟩ = false := frz hg' _
      obtain ⟨y2, hy2⟩ : ∃ y, wr.cell? ⟨g, i * 4 + 2, none⟩ = some y := ⟨cur'[i * 4 + 2]'(by have := unhide HI; omega), by rw [cell_of_row _ _ _ _ _ _ hg', Array.getElem?_eq_getElem (by have := unhide HI; omega)]⟩
      have hf2 : wr.frozen? ⟨g, i * 4 + 2, none⟩ = false := frz hg' _
      have HG1 : Hid ((((wr.setCell ⟨g, i * 4, none⟩ (.int .i64 (K : Int))).setCell ⟨g, i * 4 + 1, none⟩ (.int .i64 ((K : Int) + 1))).setCell ⟨g, i * 4 + 2, none⟩ (.int .i64 ((K : Int) + 1 + 1))).heap[g]? = some (.cells (((cur'.setIfInBounds (i * 4) (.int .i64 (K : Int))).setIfInBounds (i * 4 + 1) (.int .i64 ((K : Int) + 1))).setIfInBounds (i * 4 + 2) (.int .i64 ((K : Int) + 1 + 1))) 59)) := hide (heap_setCell_same _ _ (i * 4 + 2) _ _ _ (heap_setCell_same _ _ (i * 4 + 1) _ _ _ (heap_setCell_same _ _ (i * 4) _ _ _ hg')))
      have HN1 := hide (((hnr.setCell (i * 4) (.int .i64 (K : Int))).setCell (i * 4 + 1) (.int .i64 ((K : Int) + 1))).setCell (i * 4 + 2) (.int .i64 ((K : Int) + 1 + 1)))
      have hsz1 : (((wr.setCell ⟨g, i * 4, none⟩ (.int .i64 (K : Int))).setCell ⟨g, i * 4 + 1, none⟩ (.int .i64 ((K : Int) + 1))).setCell ⟨g, i * 4 + 2, none⟩ (.int .i64 ((K : Int) + 1 + 1))).heap.size = wr.heap.size := by simp [World.setCell]
      generalize mtx (K + 3) = M at *
      have HA := hide ha'
      clear ha' hnr
      go_wp2_with fail
      refine (unhide C _).mono ?_
      rintro e w2 ⟨rfl, hb2⟩
      have hg2 := (hb2.block g (by rw [hsz1]; exact hgl')).trans (unhide HG1)
      have HN2 := hide ((unhide HN1).of_below hb2)
      obtain ⟨y3, hy3⟩ : ∃ y, w2.cell? ⟨g, i * 4 + 3, none⟩ = some y := ⟨(((cur'.setIfInBounds (i * 4) (.int .i64 (K : Int))).setIfInBounds (i * 4 + 1) (.int .i64 ((K : Int) + 1))).setIfInBounds (i * 4 + 2) (.int .i64 ((K : Int) + 1 + 1)))[i * 4 + 3]'(by have := unhide HI; simpa using this), by rw [cell_of_row _ _ _ _ _ _ hg2, Array.getElem?_eq_getElem (by have := unhide HI; simpa using this)]⟩
      have hf3 : w2.frozen? ⟨g, i * 4 + 3, none⟩ = false := frz hg2 _
      have HG2 := hide hg2
      clear hg2 hb2 HG1 HN1 hy0 hf0 hy1 hf1 hy2 hf2 hsz1 hg'
      go_wp2_with fail
      go_roundw
      case rel =>
        refine ⟨i + 1, by omega, by go_num, by rw [unhide HKe], ⟨_, heap_setCell_same _ _ (i * 4 + 3) _ _ _ (unhide HG2), by simp [hs'], ?_⟩, (unhide HN2).setCell (i * 4 + 3) _⟩
        exact set_four cur' _ i _ _ _ _ (unhide HI) (unhide HMg).1 (unhide HMg).2.1 (unhide HMg).2.2.1 (unhide HMg).2.2.2 (unhide HA)
      case measure => simp [intOf]; omega
    · have e : i = n := by omega
      subst e
      have d1 : ¬ ((i : Int) < (i : Int)) := by omega
      go_wp2
      go_ret
      exact ⟨rfl, ⟨cur', hg', hs', ha'⟩, hnr⟩
set_option maxHeartbeats 2000000 in
theorem heldNbG (g cap n k : Nat) (cur : Array Value) (w : World) (hk : 0 < k) (hn : k + 4 * n < 9000000) (hg : w.heap[g]? = some (.cells cur 59)) (ha : ∀ j, j < n * 4 → cur[j]? = (nbcells (mnb k n))[j]?) :
    Calls Try.prog 44 #[.slice (some ⟨g, 0, none⟩) n cap, .int .i64 k] w fun e w' => e = .returned (.int .i64 ((k + 4 * n : Nat) : Int)) ∧ Below w.heap.size w w' := by
  have hgl : g < w.heap.size := (Array.getElem?_eq_some_iff.1 hg).1
  go_enter Try.func44, Try.ntmps44
  go_wp2_with fail
  go_loopw [1, 5] (fun x y wr => ∃ (i : Nat), i ≤ n ∧ y = .int .i64 i ∧ x = .int .i64 ((k + 4 * i : Nat) : Int) ∧ Below w.heap.size w wr) (fun _ y _ => n - (intOf y).toNat)
  case atStart => exact ⟨0, Nat.zero_le _, rfl, rfl, Below.refl _ _⟩
  case round =>
    obtain ⟨i, hi, rfl, rfl, hb⟩ := hrel
    by_cases hlt : i < n
    · have d1 : (i : Int) < (n : Int) := by omega
      have hg' := (hb.block g hgl).trans hg
      obtain ⟨K, hK⟩ : ∃ K : Nat, k + 4 * i = K := ⟨_, rfl⟩
      rw [hK]
      have hMg := mnb_get k n i K hlt hK
      have HKe : Hid ((K : Int) + 1 + 1 + 1 + 1 = ((k + 4 * (i + 1) : Nat) : Int)) := hide (by omega)
      have hK9 : K + 3 < 9000000 := by omega
      have C := hide fun v => markText (K + 3) v (by omega) (by omega)
      rw [show ((K + 3 : Nat) : Int) = (K : Int) + 1 + 1 + 1 from by omega] at C
      have k0 : wr.cell? ⟨g, i * 4, none⟩ = some (.int .i64 (K : Int)) := by rw [cell_of_row _ _ _ _ _ _ hg', ha _ (by omega)]; exact hMg.1
      have k1 : wr.cell? ⟨g, i * 4 + 1, none⟩ = some (.int .i64 ((K : Int) + 1)) := by rw [cell_of_row _ _ _ _ _ _ hg', ha _ (by omega)]; exact hMg.2.1
      have k2 : wr.cell? ⟨g, i * 4 + 2, none⟩ = some (.int .i64 ((K : Int) + 1 + 1)) := by rw [cell_of_row _ _ _ _ _ _ hg', ha _ (by omega)]; exact hMg.2.2.1
      have k3 : wr.cell? ⟨g, i * 4 + 3, none⟩ = some (.string (mtx (K + 3))) := by rw [cell_of_row _ _ _ _ _ _ hg', ha _ (by omega)]; exact hMg.2.2.2
      generalize mtx (K + 3) = M at *
      have hbs := hb.size
      have hgr : g < wr.heap.size := Nat.lt_of_lt_of_le hgl hbs
      clear hK hMg ha hg hg'
      go_wp2_with fail
      go_region_held (fun q => q.cell? ⟨g, i * 4 + 3, none⟩ = some (.string M)) (first | go_keep | (show World.cell? _ _ = _; rw [hb2.cell (p := ⟨g, i * 4 + 3, none⟩) hgr]; exact k3)) (first
        | (go_at_call 48; refine (unhide C _).mono ?_; rintro e w2 ⟨rfl, hb2⟩))
      all_goals
        go_wp2_with fail
        go_roundw
        case rel => exact ⟨i + 1, by omega, by go_num, by rw [unhide HKe], hb.trans (((Below.refl _ _).drew.trans hb2).mono hbs)⟩
        case measure => simp [intOf]; omega
    · have e : i = n := by omega
      subst e
      have d1 : ¬ ((i : Int) < (i : Int)) := by omega
      go_wp2
      go_ret
      exact ⟨rfl, hb⟩
set_option maxHeartbeats 1000000 in
theorem markNb0 (ad : Option Addr) (cp k : Nat) (w : World) : Calls Try.prog 43 #[.slice ad 0 cp, .int .i64 k] w fun e w' => e = .returned (.int .i64 (k : Int)) ∧ w' = w := by
  go_enter Try.func43, Try.ntmps43
  go_wp2_with fail
  go_loopw [1, 5] (fun x y wr => x = .int .i64 (k : Int) ∧ y = .int .i64 0 ∧ wr = w) (fun _ _ _ => 0)
  case atStart => exact ⟨rfl, rfl, rfl⟩
  case round =>
    obtain ⟨rfl, rfl, rfl⟩ := hrel
    go_wp2
    go_ret
    exact ⟨rfl, rfl⟩
set_option maxHeartbeats 1000000 in
theorem heldNb0 (ad : Option Addr) (cp k : Nat) (w : World) : Calls Try.prog 44 #[.slice ad 0 cp, .int .i64 k] w fun e w' => e = .returned (.int .i64 (k : Int)) ∧ w' = w := by
  go_enter Try.func44, Try.ntmps44
  go_wp2_with fail
  go_loopw [1, 5] (fun x y wr => x = .int .i64 (k : Int) ∧ y = .int .i64 0 ∧ wr = w) (fun _ _ _ => 0)
  case atStart => exact ⟨rfl, rfl, rfl⟩
  case round =>
    obtain ⟨rfl, rfl, rfl⟩ := hrel
    go_wp2
    go_ret
    exact ⟨rfl, rfl⟩
theorem markNbK (v : Value) (F : List Nb) (k : Nat) (w : World) (hk : 0 < k) (hF : k + 4 * F.length < 9000000) (h : HoldsN w v F) :
    Calls Try.prog 43 #[v, .int .i64 k] w fun e w' => e = .returned (.int .i64 ((k + 4 * F.length : Nat) : Int)) ∧ HoldsN w' v (mnb k F.length) ∧ But v.ownBlock w w' ∧ (F = [] → w' = w) := by
  by_cases hFe : F = []
  · subst hFe
    obtain ⟨ad, cp, rfl⟩ := h.form
    exact (markNb0 ad cp k w).mono fun e w' ⟨p1, p2⟩ => ⟨p1, holdsN_nil _ _ _, p2 ▸ But.of_below (Below.refl _ _), fun _ => p2⟩
  · rcases h with ⟨ad, cp, rfl, e0⟩ | ⟨g, cp, cur, rfl, h2, h3, h4⟩
    · exact absurd e0 hFe
    · refine (markNbG g cp F.length k cur w hk hF h3 h2).mono fun e w' ⟨p1, ⟨cur', q1, q2, q3⟩, p3⟩ => ⟨p1, Or.inr ⟨g, cp, cur', by rw [mnb_len], q1, by rw [mnb_len]; omega, by rw [mnb_len]; exact q3⟩, ⟨p3.os, p3.tape, p3.output, p3.size, fun b hb hne => p3.block b hb fun e => hne (by rw [e]; rfl)⟩, fun h => absurd h hFe⟩
theorem heldNbK (v : Value) (n k : Nat) (w : World) (hk : 0 < k) (hn : k + 4 * n < 9000000) (h : HoldsN w v (mnb k n)) :
    Calls Try.prog 44 #[v, .int .i64 k] w fun e w' => e = .returned (.int .i64 ((k + 4 * n : Nat) : Int)) ∧ Below w.heap.size w w' := by
  rcases h with ⟨ad, cp, rfl, e0⟩ | ⟨g, cp, cur, rfl, h2, h3, h4⟩
  · have hn0 : n = 0 := by rw [← mnb_len k n, e0]; rfl
    subst hn0
    exact (heldNb0 ad cp k w).mono fun e w' ⟨p1, p2⟩ => ⟨p1, p2 ▸ Below.refl _ _⟩
  · rw [mnb_len] at h4 ⊢
    exact heldNbG g cp n k cur w hk hn h2 h4
end Go.Proofs.Ytckebgalfomonaa
