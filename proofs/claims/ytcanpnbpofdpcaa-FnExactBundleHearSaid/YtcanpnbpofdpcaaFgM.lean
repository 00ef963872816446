/- The law's words on rows of parts: compared, marked by numbers, and whether the marks are there; what lay in memory stands but for the marked row. -/
import Derived.Test.YtcanpnbpofdpcaaFgC
import Derived.Test.YtcanpnbpofdpcaaFgQ
import Derived.Test.YtcanpnbpofdpcaaMarkT
namespace Go.Proofs.Ytcanpnbpofdpcaa
open Go.RowKit
set_option maxHeartbeats 2000000 in
theorem eqFg0 (a1 a2 : Option Addr) (c1 c2 : Nat) (w : World) :
    Calls Try.prog 27 #[.slice a1 0 c1, .slice a2 0 c2] w fun e w' => e = .returned (.bool true) ∧ Below w.heap.size w w' := by
  go_enter Try.func27, Try.ntmps27
  go_wp2_with fail
  go_loopw [5] (fun y wr => y = .int .i64 0 ∧ wr = w) (fun _ _ => 0)
  case atStart => exact ⟨rfl, rfl⟩
  case round =>
    obtain ⟨rfl, rfl⟩ := hrel
    go_wp2
    go_ret
    exact ⟨rfl, Below.refl _ _⟩
set_option maxHeartbeats 2000000 in
theorem eqFgG (g1 g2 c1 c2 : Nat) (F : List Fg) (cur1 cur2 : Array Value) (w : World) (hF : F.length ≤ 2000000) (h1 : w.heap[g1]? = some (.cells cur1 41)) (h2 : w.heap[g2]? = some (.cells cur2 41))
    (a1 : ∀ j, j < F.length * 4 → cur1[j]? = (fgcells F)[j]?) (a2 : ∀ j, j < F.length * 4 → cur2[j]? = (fgcells F)[j]?) :
    Calls Try.prog 27 #[.slice (some ⟨g1, 0, none⟩) F.length c1, .slice (some ⟨g2, 0, none⟩) F.length c2] w fun e w' => e = .returned (.bool true) ∧ Below w.heap.size w w' := by
  have hl1 : g1 < w.heap.size := (Array.getElem?_eq_some_iff.1 h1).1
  have hl2 : g2 < w.heap.size := (Array.getElem?_eq_some_iff.1 h2).1
  obtain ⟨n, hn⟩ : ∃ n, F.length = n := ⟨_, rfl⟩
  have HA : Hid (∀ i, i < n → ∃ k, ∃ x y : Bool, ∃ t, cur1[i * 4]? = some (.int .i64 k) ∧ cur1[i * 4 + 1]? = some (.bool x) ∧ cur1[i * 4 + 2]? = some (.bool y) ∧ cur1[i * 4 + 3]? = some (.string t) ∧ cur2[i * 4]? = some (.int .i64 k) ∧ cur2[i * 4 + 1]? = some (.bool x) ∧ cur2[i * 4 + 2]? = some (.bool y) ∧ cur2[i * 4 + 3]? = some (.string t)) := by
    refine hide fun i hi => ?_
    have g := fgcells_get F i (F[i]'(by omega)) (List.getElem?_eq_getElem (by omega))
    exact ⟨_, _, _, _, (a1 _ (by omega)).trans g.1, (a1 _ (by omega)).trans g.2.1, (a1 _ (by omega)).trans g.2.2.1, (a1 _ (by omega)).trans g.2.2.2, (a2 _ (by omega)).trans g.1, (a2 _ (by omega)).trans g.2.1, (a2 _ (by omega)).trans g.2.2.1, (a2 _ (by omega)).trans g.2.2.2⟩
  rw [hn] at hF ⊢
  clear a1 a2 hn
  go_enter Try.func27, Try.ntmps27
  go_wp2_with fail
  go_loopw [5] (fun y wr => ∃ (i : Nat), i ≤ n ∧ y = .int .i64 i ∧ Below w.heap.size w wr) (fun y _ => n - (intOf y).toNat)
  case atStart => exact ⟨0, Nat.zero_le _, rfl, Below.refl _ _⟩
  case round =>
    obtain ⟨i, hi, rfl, hb⟩ := hrel
    have hbs := hb.size
    by_cases hlt : i < n
    · have d1 : (i : Int) < (n : Int) := by omega
      obtain ⟨k, x, y, t, q1, q2, q3, q4, q5, q6, q7, q8⟩ := unhide HA i hlt
      have e1 := (hb.block g1 hl1).trans h1
      have e2 := (hb.block g2 hl2).trans h2
      have k0 : wr.cell? ⟨g1, i * 4, none⟩ = some (.int .i64 k) := by rw [cell_of_row _ _ _ _ _ _ e1]; exact q1
      have k1 : wr.cell? ⟨g1, i * 4 + 1, none⟩ = some (.bool x) := by rw [cell_of_row _ _ _ _ _ _ e1]; exact q2
      have k2 : wr.cell? ⟨g1, i * 4 + 2, none⟩ = some (.bool y) := by rw [cell_of_row _ _ _ _ _ _ e1]; exact q3
      have k3 : wr.cell? ⟨g1, i * 4 + 3, none⟩ = some (.string t) := by rw [cell_of_row _ _ _ _ _ _ e1]; exact q4
      have k4 : wr.cell? ⟨g2, i * 4, none⟩ = some (.int .i64 k) := by rw [cell_of_row _ _ _ _ _ _ e2]; exact q5
      have k5 : wr.cell? ⟨g2, i * 4 + 1, none⟩ = some (.bool x) := by rw [cell_of_row _ _ _ _ _ _ e2]; exact q6
      have k6 : wr.cell? ⟨g2, i * 4 + 2, none⟩ = some (.bool y) := by rw [cell_of_row _ _ _ _ _ _ e2]; exact q7
      have k7 : wr.cell? ⟨g2, i * 4 + 3, none⟩ = some (.string t) := by rw [cell_of_row _ _ _ _ _ _ e2]; exact q8
      have C := hide fun v => eqFg k x y t v
      clear e1 e2 q1 q2 q3 q4 q5 q6 q7 q8 h1 h2
      go_wp2_with fail
      go_region_with (first
        | (go_at_call 46; refine (unhide C _).mono ?_; rintro e w2 ⟨rfl, hb2⟩))
      all_goals
        go_wp2_with fail
        go_roundw
        case rel => exact ⟨i + 1, by omega, by go_num, hb.trans (((Below.refl _ _).drew.trans hb2).mono hbs)⟩
        case measure => simp [intOf]; omega
    · have e : i = n := by omega
      subst e
      have d1 : ¬ ((i : Int) < (i : Int)) := by omega
      go_wp2
      go_ret
      exact ⟨rfl, hb⟩
theorem eqFgS (v1 v2 : Value) (F : List Fg) (w : World) (hF : F.length ≤ 2000000) (h1 : HoldsG w v1 F) (h2 : HoldsG w v2 F) :
    Calls Try.prog 27 #[v1, v2] w fun e w' => e = .returned (.bool true) ∧ Below w.heap.size w w' := by
  rcases h1 with ⟨ad1, cp1, rfl, e⟩ | ⟨g1, cp1, cur1, rfl, q1, q2, q3⟩
  · subst e
    rcases h2 with ⟨ad2, cp2, rfl, _⟩ | ⟨g2, cp2, cur2, rfl, _⟩
    · exact eqFg0 _ _ _ _ w
    · exact eqFg0 _ _ _ _ w
  · rcases h2 with ⟨ad2, cp2, rfl, e⟩ | ⟨g2, cp2, cur2, rfl, r1, r2, r3⟩
    · subst e
      exact eqFg0 _ _ _ _ w
    · exact eqFgG g1 g2 cp1 cp2 F cur1 cur2 w hF q1 r1 q3 r3
/-- Parts, marked. -/
def mfg (k n : Nat) : List Fg := (List.range n).map fun i => ⟨((k + 4 * i : Nat) : Int), (((k + 4 * i : Nat) : Int) + 1) % 3 == 0, (((k + 4 * i : Nat) : Int) + 1 + 1) % 3 == 0, mtx (k + 4 * i + 3)⟩
theorem mfg_len (k n : Nat) : (mfg k n).length = n := by simp [mfg]
theorem mfg_get (k n i K : Nat) (h : i < n) (hK : k + 4 * i = K) : (fgcells (mfg k n))[i * 4]? = some (.int .i64 (K : Int)) ∧ (fgcells (mfg k n))[i * 4 + 1]? = some (.bool (((K : Int) + 1) % 3 == 0)) ∧ (fgcells (mfg k n))[i * 4 + 2]? = some (.bool (((K : Int) + 1 + 1) % 3 == 0)) ∧ (fgcells (mfg k n))[i * 4 + 3]? = some (.string (mtx (K + 3))) := by
  subst hK
  exact fgcells_get (mfg k n) i ⟨((k + 4 * i : Nat) : Int), (((k + 4 * i : Nat) : Int) + 1) % 3 == 0, (((k + 4 * i : Nat) : Int) + 1 + 1) % 3 == 0, mtx (k + 4 * i + 3)⟩ (by simp [mfg, h])
theorem set_fourg (cur' : Array Value) (L : List Value) (i : Nat) (A B C D : Value) (hi : i * 4 + 3 < cur'.size) (h1 : L[i * 4]? = some A) (h2 : L[i * 4 + 1]? = some B) (h3 : L[i * 4 + 2]? = some C) (h4 : L[i * 4 + 3]? = some D) (ha : ∀ j, j < i * 4 → cur'[j]? = L[j]?) :
    ∀ j, j < (i + 1) * 4 → ((((cur'.setIfInBounds (i * 4) A).setIfInBounds (i * 4 + 1) B).setIfInBounds (i * 4 + 2) C).setIfInBounds (i * 4 + 3) D)[j]? = L[j]? := by
  intro j hj
  rw [Array.getElem?_setIfInBounds]
  by_cases e0 : i * 4 + 3 = j
  · rw [if_pos e0, if_pos (by simpa using hi), ← e0, h4]
  · rw [if_neg e0, Array.getElem?_setIfInBounds]
    by_cases e1 : i * 4 + 2 = j
    · rw [if_pos e1, if_pos (by simp; omega), ← e1, h3]
    · rw [if_neg e1, Array.getElem?_setIfInBounds]
      by_cases e2 : i * 4 + 1 = j
      · rw [if_pos e2, if_pos (by simp; omega), ← e2, h2]
      · rw [if_neg e2, Array.getElem?_setIfInBounds]
        by_cases e3 : i * 4 = j
        · rw [if_pos e3, if_pos (by omega), ← e3, h1]
        · rw [if_neg e3]
          exact ha j (by omega)
set_option maxHeartbeats 2000000 in
theorem markFgG (g cap n k : Nat) (cur : Array Value) (w : World) (hk : 0 < k) (hn : k + 4 * n < 9000000) (hc : n * 4 ≤ cur.size) (hg : w.heap[g]? = some (.cells cur 41)) :
    Calls Try.prog 41 #[.slice (some ⟨g, 0, none⟩) n cap, .int .i64 k] w fun e w' => e = .returned (.int .i64 ((k + 4 * n : Nat) : Int)) ∧
      (∃ cur', w'.heap[g]? = some (.cells cur' 41) ∧ cur'.size = cur.size ∧ ∀ j, j < n * 4 → cur'[j]? = (fgcells (mfg k n))[j]?) ∧ Nr g w w' := by
  have hgl : g < w.heap.size := (Array.getElem?_eq_some_iff.1 hg).1
  go_enter Try.func41, Try.ntmps41
  go_wp2_with fail
  go_loopw [1, 5] (fun x y wr => ∃ (i : Nat), i ≤ n ∧ y = .int .i64 i ∧ x = .int .i64 ((k + 4 * i : Nat) : Int) ∧ (∃ cur', wr.heap[g]? = some (.cells cur' 41) ∧ cur'.size = cur.size ∧ ∀ j, j < i * 4 → cur'[j]? = (fgcells (mfg k n))[j]?) ∧ Nr g w wr) (fun _ y _ => n - (intOf y).toNat)
  case atStart => exact ⟨0, Nat.zero_le _, rfl, rfl, ⟨cur, hg, rfl, fun j hj => by omega⟩, Nr.refl _ _⟩
  case round =>
    obtain ⟨i, hi, rfl, rfl, ⟨cur', hg', hs', ha'⟩, hnr⟩ := hrel
    by_cases hlt : i < n
    · have d1 : (i : Int) < (n : Int) := by omega
      have hgl' : g < wr.heap.size := Nat.lt_of_lt_of_le hgl hnr.size
      obtain ⟨K, hK⟩ : ∃ K : Nat, k + 4 * i = K := ⟨_, rfl⟩
      rw [hK]
      have hMg := mfg_get k n i K hlt hK
      have HMg := hide hMg
      have HKe : Hid ((K : Int) + 1 + 1 + 1 + 1 = ((k + 4 * (i + 1) : Nat) : Int)) := hide (by omega)
      have hK9 : K + 3 < 9000000 := by omega
      have HI : Hid (i * 4 + 3 < cur'.size) := hide (by omega)
      have C := hide fun v => markText (K + 3) v (by omega) (by omega)
      rw [show ((K + 3 : Nat) : Int) = (K : Int) + 1 + 1 + 1 from by omega] at C
      clear hK hMg
      obtain ⟨y0, hy0⟩ : ∃ y, wr.cell? ⟨g, i * 4, none⟩ = some y := ⟨cur'[i * 4]'(by have := unhide HI; omega), by rw [cell_of_row _ _ _ _ _ _ hg', Array.getElem?_eq_getElem (by have := unhide HI; omega)]⟩
      have hf0 : wr.frozen? ⟨g, i * 4, none⟩ = false := frz hg' _
      obtain ⟨y1, hy1⟩ : ∃ y, wr.cell? ⟨g, i * 4 + 1, none⟩ = some y := ⟨cur'[i * 4 + 1]'(by have := unhide HI; omega), by rw [cell_of_row _ _ _ _ _ _ hg', Array.getElem?_eq_getElem (by have := unhide HI; omega)]⟩
      have hf1 : wr.frozen? ⟨g, i * 4 + 1, none⟩ = false := frz hg' _
      obtain ⟨y2, hy2⟩ : ∃ y, wr.cell? ⟨g, i * 4 + 2, none⟩ = some y := ⟨cur'[i * 4 + 2]'(by have := unhide HI; omega), by rw [cell_of_row _ _ _ _ _ _ hg', Array.getElem?_eq_getElem (by have := unhide HI; omega)]⟩
      have hf2 : wr.frozen? ⟨g, i * 4 + 2, none⟩ = false := frz hg' _
      have HG1 : Hid ((((wr.setCell ⟨g, i * 4, none⟩ (.int .i64 (K : Int))).setCell ⟨g, i * 4 + 1, none⟩ (.bool (((K : Int) + 1) % 3 == 0))).setCell ⟨g, i * 4 + 2, none⟩ (.bool (((K : Int) + 1 + 1) % 3 == 0))).heap[g]? = some (.cells (((cur'.setIfInBounds (i * 4) (.int .i64 (K : Int))).setIfInBounds (i * 4 + 1) (.bool (((K : Int) + 1) % 3 == 0))).setIfInBounds (i * 4 + 2) (.bool (((K : Int) + 1 + 1) % 3 == 0))) 41)) := hide (heap_setCell_same _ _ (i * 4 + 2) _ _ _ (heap_setCell_same _ _ (i * 4 + 1) _ _ _ (heap_setCell_same _ _ (i * 4) _ _ _ hg')))
      have HN1 := hide (((hnr.setCell (i * 4) (.int .i64 (K : Int))).setCell (i * 4 + 1) (.bool (((K : Int) + 1) % 3 == 0))).setCell (i * 4 + 2) (.bool (((K : Int) + 1 + 1) % 3 == 0)))
      have hsz1 : (((wr.setCell ⟨g, i * 4, none⟩ (.int .i64 (K : Int))).setCell ⟨g, i * 4 + 1, none⟩ (.bool (((K : Int) + 1) % 3 == 0))).setCell ⟨g, i * 4 + 2, none⟩ (.bool (((K : Int) + 1 + 1) % 3 == 0))).heap.size = wr.heap.size := by simp [World.setCell]
      generalize mtx (K + 3) = M at *
      have HA := hide ha'
      clear ha' hnr
      go_wp2_with fail
      refine (unhide C _).mono ?_
      rintro e w2 ⟨rfl, hb2⟩
      have hg2 := (hb2.block g (by rw [hsz1]; exact hgl')).trans (unhide HG1)
      have HN2 := hide ((unhide HN1).of_below hb2)
      obtain ⟨y3, hy3⟩ : ∃ y, w2.cell? ⟨g, i * 4 + 3, none⟩ = some y := ⟨(((cur'.setIfInBounds (i * 4) (.int .i64 (K : Int))).setIfInBounds (i * 4 + 1) (.bool (((K : Int) + 1) % 3 == 0))).setIfInBounds (i * 4 + 2) (.bool (((K : Int) + 1 + 1) % 3 == 0)))[i * 4 + 3]'(by have := unhide HI; simpa using this), by rw [cell_of_row _ _ _ _ _ _ hg2, Array.getElem?_eq_getElem (by have := unhide HI; simpa using this)]⟩
      have hf3 : w2.frozen? ⟨g, i * 4 + 3, none⟩ = false := frz hg2 _
      have HG2 := hide hg2
      clear hg2 hb2 HG1 HN1 hy0 hf0 hy1 hf1 hy2 hf2 hsz1 hg'
      go_wp2_with fail
      go_roundw
      case rel =>
        refine ⟨i + 1, by omega, by go_num, by rw [unhide HKe], ⟨_, heap_setCell_same _ _ (i * 4 + 3) _ _ _ (unhide HG2), by simp [hs'], ?_⟩, (unhide HN2).setCell (i * 4 + 3) _⟩
        exact set_fourg cur' _ i _ _ _ _ (unhide HI) (unhide HMg).1 (unhide HMg).2.1 (unhide HMg).2.2.1 (unhide HMg).2.2.2 (unhide HA)
      case measure => simp [intOf]; omega
    · have e : i = n := by omega
      subst e
      have d1 : ¬ ((i : Int) < (i : Int)) := by omega
      go_wp2
      go_ret
      exact ⟨rfl, ⟨cur', hg', hs', ha'⟩, hnr⟩
set_option maxHeartbeats 2000000 in
theorem heldFgG (g cap n k : Nat) (cur : Array Value) (w : World) (hk : 0 < k) (hn : k + 4 * n < 9000000) (hg : w.heap[g]? = some (.cells cur 41)) (ha : ∀ j, j < n * 4 → cur[j]? = (fgcells (mfg k n))[j]?) :
    Calls Try.prog 59 #[.slice (some ⟨g, 0, none⟩) n cap, .int .i64 k] w fun e w' => e = .returned (.int .i64 ((k + 4 * n : Nat) : Int)) ∧ Below w.heap.size w w' := by
  have hgl : g < w.heap.size := (Array.getElem?_eq_some_iff.1 hg).1
  go_enter Try.func59, Try.ntmps59
  go_wp2_with fail
  go_loopw [1, 5] (fun x y wr => ∃ (i : Nat), i ≤ n ∧ y = .int .i64 i ∧ x = .int .i64 ((k + 4 * i : Nat) : Int) ∧ Below w.heap.size w wr) (fun _ y _ => n - (intOf y).toNat)
  case atStart => exact ⟨0, Nat.zero_le _, rfl, rfl, Below.refl _ _⟩
  case round =>
    obtain ⟨i, hi, rfl, rfl, hb⟩ := hrel
    by_cases hlt : i < n
    · have d1 : (i : Int) < (n : Int) := by omega
      have hg' := (hb.block g hgl).trans hg
      obtain ⟨K, hK⟩ : ∃ K : Nat, k + 4 * i = K := ⟨_, rfl⟩
      rw [hK]
      have hMg := mfg_get k n i K hlt hK
      have HKe : Hid ((K : Int) + 1 + 1 + 1 + 1 = ((k + 4 * (i + 1) : Nat) : Int)) := hide (by omega)
      have hK9 : K + 3 < 9000000 := by omega
      have C := hide fun v => markText (K + 3) v (by omega) (by omega)
      rw [show ((K + 3 : Nat) : Int) = (K : Int) + 1 + 1 + 1 from by omega] at C
      have k0 : wr.cell? ⟨g, i * 4, none⟩ = some (.int .i64 (K : Int)) := by rw [cell_of_row _ _ _ _ _ _ hg', ha _ (by omega)]; exact hMg.1
      have k1 : wr.cell? ⟨g, i * 4 + 1, none⟩ = some (.bool (((K : Int) + 1) % 3 == 0)) := by rw [cell_of_row _ _ _ _ _ _ hg', ha _ (by omega)]; exact hMg.2.1
      have k2 : wr.cell? ⟨g, i * 4 + 2, none⟩ = some (.bool (((K : Int) + 1 + 1) % 3 == 0)) := by rw [cell_of_row _ _ _ _ _ _ hg', ha _ (by omega)]; exact hMg.2.2.1
      have k3 : wr.cell? ⟨g, i * 4 + 3, none⟩ = some (.string (mtx (K + 3))) := by rw [cell_of_row _ _ _ _ _ _ hg', ha _ (by omega)]; exact hMg.2.2.2
      generalize mtx (K + 3) = M at *
      have hbs := hb.size
      have hgr : g < wr.heap.size := Nat.lt_of_lt_of_le hgl hbs
      clear hK hMg ha hg hg'
      go_wp2_with fail
      go_region_held (fun q => q.cell? ⟨g, i * 4 + 3, none⟩ = some (.string M)) (first | go_keep | (show World.cell? _ _ = _; rw [hb2.cell (p := ⟨g, i * 4 + 3, none⟩) hgr]; exact k3)) (first
        | (go_at_call 57; refine (unhide C _).mono ?_; rintro e w2 ⟨rfl, hb2⟩))
      all_goals
        go_wp2_with fail
        go_roundw
        case rel => exact ⟨i + 1, by omega, by go_num, by rw [unhide HKe], hb.trans (((Below.refl _ _).drew.trans hb2).mono hbs)⟩
        case measure => simp [intOf]; omega
    · have e : i = n := by omega
      subst e
      have d1 : ¬ ((i : Int) < (i : Int)) := by omega
      go_wp2
      go_ret
      exact ⟨rfl, hb⟩
set_option maxHeartbeats 1000000 in
theorem markFg0 (ad : Option Addr) (cp k : Nat) (w : World) : Calls Try.prog 41 #[.slice ad 0 cp, .int .i64 k] w fun e w' => e = .returned (.int .i64 (k : Int)) ∧ w' = w := by
  go_enter Try.func41, Try.ntmps41
  go_wp2_with fail
  go_loopw [1, 5] (fun x y wr => x = .int .i64 (k : Int) ∧ y = .int .i64 0 ∧ wr = w) (fun _ _ _ => 0)
  case atStart => exact ⟨rfl, rfl, rfl⟩
  case round =>
    obtain ⟨rfl, rfl, rfl⟩ := hrel
    go_wp2
    go_ret
    exact ⟨rfl, rfl⟩
set_option maxHeartbeats 1000000 in
theorem heldFg0 (ad : Option Addr) (cp k : Nat) (w : World) : Calls Try.prog 59 #[.slice ad 0 cp, .int .i64 k] w fun e w' => e = .returned (.int .i64 (k : Int)) ∧ w' = w := by
  go_enter Try.func59, Try.ntmps59
  go_wp2_with fail
  go_loopw [1, 5] (fun x y wr => x = .int .i64 (k : Int) ∧ y = .int .i64 0 ∧ wr = w) (fun _ _ _ => 0)
  case atStart => exact ⟨rfl, rfl, rfl⟩
  case round =>
    obtain ⟨rfl, rfl, rfl⟩ := hrel
    go_wp2
    go_ret
    exact ⟨rfl, rfl⟩
theorem markFgK (v : Value) (F : List Fg) (k : Nat) (w : World) (hk : 0 < k) (hF : k + 4 * F.length < 9000000) (h : HoldsG w v F) :
    Calls Try.prog 41 #[v, .int .i64 k] w fun e w' => e = .returned (.int .i64 ((k + 4 * F.length : Nat) : Int)) ∧ HoldsG w' v (mfg k F.length) ∧ But v.ownBlock w w' ∧ (F = [] → w' = w) := by
  by_cases hFe : F = []
  · subst hFe
    obtain ⟨ad, cp, rfl⟩ := h.form
    exact (markFg0 ad cp k w).mono fun e w' ⟨p1, p2⟩ => ⟨p1, holdsG_nil _ _ _, p2 ▸ But.of_below (Below.refl _ _), fun _ => p2⟩
  · rcases h with ⟨ad, cp, rfl, e0⟩ | ⟨g, cp, cur, rfl, h2, h3, h4⟩
    · exact absurd e0 hFe
    · refine (markFgG g cp F.length k cur w hk hF h3 h2).mono fun e w' ⟨p1, ⟨cur', q1, q2, q3⟩, p3⟩ => ⟨p1, Or.inr ⟨g, cp, cur', by rw [mfg_len], q1, by rw [mfg_len]; omega, by rw [mfg_len]; exact q3⟩, ⟨p3.os, p3.tape, p3.output, p3.size, fun b hb hne => p3.block b hb fun e => hne (by rw [e]; rfl)⟩, fun h => absurd h hFe⟩
theorem heldFgK (v : Value) (n k : Nat) (w : World) (hk : 0 < k) (hn : k + 4 * n < 9000000) (h : HoldsG w v (mfg k n)) :
    Calls Try.prog 59 #[v, .int .i64 k] w fun e w' => e = .returned (.int .i64 ((k + 4 * n : Nat) : Int)) ∧ Below w.heap.size w w' := by
  rcases h with ⟨ad, cp, rfl, e0⟩ | ⟨g, cp, cur, rfl, h2, h3, h4⟩
  · have hn0 : n = 0 := by rw [← mfg_len k n, e0]; rfl
    subst hn0
    exact (heldFg0 ad cp k w).mono fun e w' ⟨p1, p2⟩ => ⟨p1, p2 ▸ Below.refl _ _⟩
  · rw [mfg_len] at h4 ⊢
    exact heldFgG g cp n k cur w hk hn h2 h4
end Go.Proofs.Ytcanpnbpofdpcaa
