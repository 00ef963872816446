/- The law's marks of options: a text of a number, options marked by numbers, and whether the marks are there; two rows held against each other; what lay in memory stands but for the marked row. -/
import Derived.Test.YtakbldleomhggaaOptEq
import Derived.Test.YtakbldleomhggaaMarkT
namespace Go.Proofs.Ytakbldleomhggaa
open Go.RowKit
/-- What is found, marked. -/
def mfd (k n : Nat) : List Op.Opt := (List.range n).map fun i => ⟨((k + 2 * i : Nat) : Int), mtx (k + 2 * i + 1)⟩
theorem mfd_len (k n : Nat) : (mfd k n).length = n := by simp [mfd]
theorem mfd_get (k n i K : Nat) (h : i < n) (hK : k + 2 * i = K) : (ocells (mfd k n))[i * 2]? = some (.int .i64 (K : Int)) ∧ (ocells (mfd k n))[i * 2 + 1]? = some (.string (mtx (K + 1))) := by
  subst hK
  exact ocells_get (mfd k n) i ⟨((k + 2 * i : Nat) : Int), mtx (k + 2 * i + 1)⟩ (by simp [mfd, h])
theorem set_two (cur' : Array Value) (L : List Value) (i : Nat) (A B : Value) (hi : i * 2 + 1 < cur'.size) (h1 : L[i * 2]? = some A) (h2 : L[i * 2 + 1]? = some B) (ha : ∀ j, j < i * 2 → cur'[j]? = L[j]?) :
    ∀ j, j < (i + 1) * 2 → ((cur'.setIfInBounds (i * 2) A).setIfInBounds (i * 2 + 1) B)[j]? = L[j]? := by
  intro j hj
  rw [Array.getElem?_setIfInBounds]
  by_cases e1 : i * 2 + 1 = j
  · rw [if_pos e1, if_pos (by simpa using hi), ← e1, h2]
  · rw [if_neg e1, Array.getElem?_setIfInBounds]
    by_cases e2 : i * 2 = j
    · rw [if_pos e2, if_pos (by omega), ← e2, h1]
    · rw [if_neg e2]
      exact ha j (by omega)
set_option maxHeartbeats 2000000 in
theorem markS (g cap n k : Nat) (cur : Array Value) (w : World) (hk : 0 < k) (hn : k + 2 * n < 9000000) (hc : n * 2 ≤ cur.size) (hg : w.heap[g]? = some (.cells cur 66)) :
    Calls Try.prog 21 #[.slice (some ⟨g, 0, none⟩) n cap, .int .i64 k] w fun e w' => e = .returned (.int .i64 ((k + 2 * n : Nat) : Int)) ∧
      (∃ cur', w'.heap[g]? = some (.cells cur' 66) ∧ cur'.size = cur.size ∧ ∀ j, j < n * 2 → cur'[j]? = (ocells (mfd k n))[j]?) ∧ Nr g w w' := by
  have hgl : g < w.heap.size := (Array.getElem?_eq_some_iff.1 hg).1
  go_enter Try.func21, Try.ntmps21
  go_wp2_with fail
  go_loopw [1, 5] (fun x y wr => ∃ (i : Nat), i ≤ n ∧ y = .int .i64 i ∧ x = .int .i64 ((k + 2 * i : Nat) : Int) ∧ (∃ cur', wr.heap[g]? = some (.cells cur' 66) ∧ cur'.size = cur.size ∧ ∀ j, j < i * 2 → cur'[j]? = (ocells (mfd k n))[j]?) ∧ Nr g w wr) (fun _ y _ => n - (intOf y).toNat)
  case atStart => exact ⟨0, Nat.zero_le _, rfl, rfl, ⟨cur, hg, rfl, fun j hj => by omega⟩, Nr.refl _ _⟩
  case round =>
    obtain ⟨i, hi, rfl, rfl, ⟨cur', hg', hs', ha'⟩, hnr⟩ := hrel
    by_cases hlt : i < n
    · have d1 : (i : Int) < (n : Int) := by omega
      have hgl' : g < wr.heap.size := Nat.lt_of_lt_of_le hgl hnr.size
      obtain ⟨K, hK⟩ : ∃ K : Nat, k + 2 * i = K := ⟨_, rfl⟩
      rw [hK]
      have hMg := mfd_get k n i K hlt hK
      have HMg := hide hMg
      have HKe : Hid ((K : Int) + 1 + 1 = ((k + 2 * (i + 1) : Nat) : Int)) := hide (by omega)
      have hK9 : K + 1 < 9000000 := by omega
      have HI : Hid (i * 2 + 1 < cur'.size) := hide (by omega)
      have C := hide fun v => markText (K + 1) v (by omega) (by omega)
      rw [show ((K + 1 : Nat) : Int) = (K : Int) + 1 from rfl] at C
      clear hK hMg
      obtain ⟨y0, hy0⟩ : ∃ y, wr.cell? ⟨g, i * 2, none⟩ = some y := ⟨cur'[i * 2]'(by have := unhide HI; omega), by rw [cell_of_row _ _ _ _ _ _ hg', Array.getElem?_eq_getElem (by have := unhide HI; omega)]⟩
      have hf0 : wr.frozen? ⟨g, i * 2, none⟩ = false := frz hg' _
      have HG1 : Hid ((wr.setCell ⟨g, i * 2, none⟩ (.int .i64 (K : Int))).heap[g]? = some (.cells (cur'.setIfInBounds (i * 2) (.int .i64 (K : Int))) 66)) := hide (heap_setCell_same _ _ (i * 2) _ _ _ hg')
      have HN1 := hide (hnr.setCell (i * 2) (.int .i64 (K : Int)))
      have hsz1 : (wr.setCell ⟨g, i * 2, none⟩ (.int .i64 (K : Int))).heap.size = wr.heap.size := by simp [World.setCell]
      generalize mtx (K + 1) = M at *
      have HA := hide ha'
      clear ha' hnr
      go_wp2_with fail
      refine (unhide C _).mono ?_
      rintro e w2 ⟨rfl, hb2⟩
      have hg2 := (hb2.block g (by rw [hsz1]; exact hgl')).trans (unhide HG1)
      have HN2 := hide ((unhide HN1).of_below hb2)
      obtain ⟨y1, hy1⟩ : ∃ y, w2.cell? ⟨g, i * 2 + 1, none⟩ = some y := ⟨(cur'.setIfInBounds (i * 2) (.int .i64 (K : Int)))[i * 2 + 1]'(by have := unhide HI; simpa using this), by rw [cell_of_row _ _ _ _ _ _ hg2, Array.getElem?_eq_getElem (by have := unhide HI; simpa using this)]⟩
      have hf1 : w2.frozen? ⟨g, i * 2 + 1, none⟩ = false := frz hg2 _
      have HG2 := hide hg2
      clear hg2 hb2 HG1 HN1 hy0 hf0 hsz1 hg'
      go_wp2_with fail
      go_roundw
      case rel =>
        refine ⟨i + 1, by omega, by go_num, by rw [unhide HKe], ⟨_, heap_setCell_same _ _ (i * 2 + 1) _ _ _ (unhide HG2), by simp [hs'], ?_⟩, (unhide HN2).setCell (i * 2 + 1) _⟩
        exact set_two cur' _ i _ _ (unhide HI) (unhide HMg).1 (unhide HMg).2 (unhide HA)
      case measure => simp [intOf]; omega
    · have e : i = n := by omega
      subst e
      have d1 : ¬ ((i : Int) < (i : Int)) := by omega
      go_wp2
      go_ret
      exact ⟨rfl, ⟨cur', hg', hs', ha'⟩, hnr⟩
set_option maxHeartbeats 2000000 in
theorem heldS (g cap n k : Nat) (cur : Array Value) (w : World) (hk : 0 < k) (hn : k + 2 * n < 9000000) (hg : w.heap[g]? = some (.cells cur 66)) (ha : ∀ j, j < n * 2 → cur[j]? = (ocells (mfd k n))[j]?) :
    Calls Try.prog 48 #[.slice (some ⟨g, 0, none⟩) n cap, .int .i64 k] w fun e w' => e = .returned (.int .i64 ((k + 2 * n : Nat) : Int)) ∧ Below w.heap.size w w' := by
  have hgl : g < w.heap.size := (Array.getElem?_eq_some_iff.1 hg).1
  go_enter Try.func48, Try.ntmps48
  go_wp2_with fail
  go_loopw [1, 5] (fun x y wr => ∃ (i : Nat), i ≤ n ∧ y = .int .i64 i ∧ x = .int .i64 ((k + 2 * i : Nat) : Int) ∧ Below w.heap.size w wr) (fun _ y _ => n - (intOf y).toNat)
  case atStart => exact ⟨0, Nat.zero_le _, rfl, rfl, Below.refl _ _⟩
  case round =>
    obtain ⟨i, hi, rfl, rfl, hb⟩ := hrel
    by_cases hlt : i < n
    · have d1 : (i : Int) < (n : Int) := by omega
      have hg' := (hb.block g hgl).trans hg
      obtain ⟨K, hK⟩ : ∃ K : Nat, k + 2 * i = K := ⟨_, rfl⟩
      rw [hK]
      have hMg := mfd_get k n i K hlt hK
      have HKe : Hid ((K : Int) + 1 + 1 = ((k + 2 * (i + 1) : Nat) : Int)) := hide (by omega)
      have hK9 : K + 1 < 9000000 := by omega
      have C := hide fun v => markText (K + 1) v (by omega) (by omega)
      rw [show ((K + 1 : Nat) : Int) = (K : Int) + 1 from rfl] at C
      have k0 : wr.cell? ⟨g, i * 2, none⟩ = some (.int .i64 (K : Int)) := by rw [cell_of_row _ _ _ _ _ _ hg', ha _ (by omega)]; exact hMg.1
      have k1 : wr.cell? ⟨g, i * 2 + 1, none⟩ = some (.string (mtx (K + 1))) := by rw [cell_of_row _ _ _ _ _ _ hg', ha _ (by omega)]; exact hMg.2
      generalize mtx (K + 1) = M at *
      have hbs := hb.size
      have hgr : g < wr.heap.size := Nat.lt_of_lt_of_le hgl hbs
      clear hK hMg ha hg hg'
      go_wp2_with fail
      go_region_held (fun q => q.cell? ⟨g, i * 2 + 1, none⟩ = some (.string M)) (first | go_keep | (show World.cell? _ _ = _; rw [hb2.cell (p := ⟨g, i * 2 + 1, none⟩) hgr]; exact k1)) (first
        | (go_at_call 47; refine (unhide C _).mono ?_; rintro e w2 ⟨rfl, hb2⟩))
      all_goals
        go_wp2_with fail
        go_roundw
        case rel => exact ⟨i + 1, by omega, by go_num, by rw [unhide HKe], hb.trans (((Below.refl _ _).drew.trans hb2).mono hbs)⟩
        case measure => simp [intOf]; omega
    · have e : i = n := by omega
      subst e
      have d1 : ¬ ((i : Int) < (i : Int)) := by omega
      go_wp2
      go_ret
      exact ⟨rfl, hb⟩
set_option maxHeartbeats 2000000 in
theorem markS0 (ad : Option Addr) (cp k : Nat) (w : World) :
    Calls Try.prog 21 #[.slice ad 0 cp, .int .i64 k] w fun e w' => e = .returned (.int .i64 k) ∧ w' = w := by
  go_enter Try.func21, Try.ntmps21
  go_wp2_with fail
  go_loopw [1, 5] (fun x y wr => x = .int .i64 k ∧ y = .int .i64 0 ∧ wr = w) (fun _ _ _ => 0)
  case atStart => exact ⟨rfl, rfl, rfl⟩
  case round =>
    obtain ⟨rfl, rfl, rfl⟩ := hrel
    go_wp2
    go_ret
    exact ⟨rfl, rfl⟩
set_option maxHeartbeats 2000000 in
theorem heldS0 (ad : Option Addr) (cp k : Nat) (w : World) :
    Calls Try.prog 48 #[.slice ad 0 cp, .int .i64 k] w fun e w' => e = .returned (.int .i64 k) ∧ w' = w := by
  go_enter Try.func48, Try.ntmps48
  go_wp2_with fail
  go_loopw [1, 5] (fun x y wr => x = .int .i64 k ∧ y = .int .i64 0 ∧ wr = w) (fun _ _ _ => 0)
  case atStart => exact ⟨rfl, rfl, rfl⟩
  case round =>
    obtain ⟨rfl, rfl, rfl⟩ := hrel
    go_wp2
    go_ret
    exact ⟨rfl, rfl⟩
theorem markF (v : Value) (F : List Op.Opt) (w : World) (hF : F.length ≤ 1048576) (h : HoldsO w v F) :
    Calls Try.prog 21 #[v, .int .i64 1] w fun e w' => e = .returned (.int .i64 ((1 + 2 * F.length : Nat) : Int)) ∧ HoldsO w' v (mfd 1 F.length) ∧ But v.ownBlock w w' ∧ (F = [] → Below w.heap.size w w') := by
  by_cases hFe : F = []
  · subst hFe
    obtain ⟨ad, cp, rfl⟩ := h.form
    exact (markS0 ad cp 1 w).mono fun e w' ⟨p1, p2⟩ => ⟨p1, holdsO_nil _ _ _, p2 ▸ But.of_below (Below.refl _ _), fun _ => p2 ▸ Below.refl _ _⟩
  · rcases h with ⟨ad, cp, rfl, e0⟩ | ⟨g, cp, cur, rfl, h2, h3, h4⟩
    · exact absurd e0 hFe
    · refine (markS g cp F.length 1 cur w (by decide) (by omega) h3 h2).mono fun e w' ⟨p1, ⟨cur', q1, q2, q3⟩, p3⟩ => ⟨p1, Or.inr ⟨g, cp, cur', by rw [mfd_len], q1, by rw [mfd_len]; omega, by rw [mfd_len]; exact q3⟩, ⟨p3.os, p3.tape, p3.output, p3.size, fun b hb hne => p3.block b hb fun e => hne (by rw [e]; rfl)⟩, fun h => absurd h hFe⟩
theorem heldF (v : Value) (n : Nat) (w : World) (hn : n ≤ 1048576) (h : HoldsO w v (mfd 1 n)) :
    Calls Try.prog 48 #[v, .int .i64 1] w fun e w' => e = .returned (.int .i64 ((1 + 2 * n : Nat) : Int)) ∧ Below w.heap.size w w' := by
  rcases h with ⟨ad, cp, rfl, e0⟩ | ⟨g, cp, cur, rfl, h2, h3, h4⟩
  · have hn0 : n = 0 := by rw [← mfd_len 1 n, e0]; rfl
    subst hn0
    exact (heldS0 ad cp 1 w).mono fun e w' ⟨p1, p2⟩ => ⟨p1, p2 ▸ Below.refl _ _⟩
  · rw [mfd_len] at h4 ⊢
    exact heldS g cp n 1 cur w (by decide) (by omega) h2 h4
end Go.Proofs.Ytakbldleomhggaa
