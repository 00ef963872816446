/- The law's words on rows of texts: two held against each other, marked by numbers, and whether the marks are there; what lay in memory stands but for the marked row. -/
import Derived.Test.YtdhhkdkppcijnaaStrRow
import Derived.Test.YtdhhkdkppcijnaaMarkT
import Derived.Test.YtdhhkdkppcijnaaOwnB
namespace Go.Proofs.Ytdhhkdkppcijnaa
open Go.RowKit
set_option maxHeartbeats 1000000 in
theorem eqT (v1 v2 : Value) (L : List ByteArray) (w : World) (hn : L.length ≤ 2000000) (h1 : HoldsT w v1 L) (h2 : HoldsT w v2 L) :
    Calls Try.prog 8 #[v1, v2] w fun e w' => e = .returned (.bool true) ∧ Below w.heap.size w w' := by
  have HA : Hid (∀ i (hi : i < L.length), (∃ g1, v1.ownBlock = some g1 ∧ (∃ cp, v1 = .slice (some ⟨g1, 0, none⟩) L.length cp) ∧ g1 < w.heap.size ∧ w.cell? ⟨g1, i, none⟩ = some (.string L[i])) ∧ ∃ g2, (∃ cp, v2 = .slice (some ⟨g2, 0, none⟩) L.length cp) ∧ g2 < w.heap.size ∧ w.cell? ⟨g2, i, none⟩ = some (.string L[i])) := by
    refine hide fun i hi => ⟨?_, ?_⟩
    · rcases h1 with ⟨_, _, _, e⟩ | ⟨g, cp, cur, e, q1, q2, q3⟩
      · rw [e] at hi; exact absurd hi (Nat.not_lt_zero _)
      · exact ⟨g, by rw [e]; rfl, ⟨cp, e⟩, (Array.getElem?_eq_some_iff.1 q1).1, by rw [cell_of_row _ _ _ _ _ _ q1, q3 i hi]; exact scells_get L i _ (List.getElem?_eq_getElem hi)⟩
    · rcases h2 with ⟨_, _, _, e⟩ | ⟨g, cp, cur, e, q1, q2, q3⟩
      · rw [e] at hi; exact absurd hi (Nat.not_lt_zero _)
      · exact ⟨g, ⟨cp, e⟩, (Array.getElem?_eq_some_iff.1 q1).1, by rw [cell_of_row _ _ _ _ _ _ q1, q3 i hi]; exact scells_get L i _ (List.getElem?_eq_getElem hi)⟩
  obtain ⟨a1, c1, rfl⟩ := h1.form
  obtain ⟨a2, c2, rfl⟩ := h2.form
  obtain ⟨n, hL⟩ : ∃ n, L.length = n := ⟨_, rfl⟩
  rw [hL] at hn ⊢
  clear h1 h2
  go_enter Try.func8, Try.ntmps8
  go_wp2_with fail
  go_loopw [5] (fun y wr => ∃ (i : Nat), i ≤ n ∧ y = .int .i64 i ∧ Below w.heap.size w wr) (fun y _ => n - (intOf y).toNat)
  case atStart => exact ⟨0, Nat.zero_le _, rfl, Below.refl _ _⟩
  case round =>
    obtain ⟨i, hi, rfl, hb⟩ := hrel
    by_cases hlt : i < n
    · have d1 : (i : Int) < (n : Int) := by omega
      have d0 : (0 : Int) ≤ (i : Int) := by omega
      obtain ⟨⟨g1, _, ⟨cp1, e1⟩, hg1, k1⟩, g2, ⟨cp2, e2⟩, hg2, k2⟩ := unhide HA i (by omega)
      cases e1
      cases e2
      replace k1 := (hb.cell (p := ⟨g1, i, none⟩) hg1).trans k1
      replace k2 := (hb.cell (p := ⟨g2, i, none⟩) hg2).trans k2
      generalize L[i]'(by omega) = t at *
      have HB := hide hb
      clear hb HA
      go_wp2_with fail
      go_quiet (fail)
      go_wp2_with fail
      go_roundw
      case rel => exact ⟨i + 1, by omega, by go_num, (unhide HB).os, (unhide HB).tape, (unhide HB).output, (unhide HB).size, (unhide HB).block⟩
      case measure => simp [intOf]; omega
    · have e : i = n := by omega
      subst e
      have d1 : ¬ ((i : Int) < (i : Int)) := by omega
      go_wp2
      go_ret
      exact ⟨rfl, hb⟩
/-- Texts that are marks. -/
def mtl (k n : Nat) : List ByteArray := (List.range n).map fun i => mtx (k + i)
theorem mtl_len (k n : Nat) : (mtl k n).length = n := by simp [mtl]
theorem mtl_get (k n i K : Nat) (h : i < n) (hK : k + i = K) : (scells (mtl k n))[i]? = some (.string (mtx K)) := by
  subst hK
  exact scells_get _ i _ (by simp [mtl, h])
theorem set_one (cur' : Array Value) (L : List Value) (i : Nat) (A : Value) (hi : i < cur'.size) (h1 : L[i]? = some A) (ha : ∀ j, j < i → cur'[j]? = L[j]?) : ∀ j, j < i + 1 → (cur'.setIfInBounds i A)[j]? = L[j]? := by
  intro j hj
  rw [Array.getElem?_setIfInBounds]
  by_cases e1 : i = j
  · rw [if_pos e1, if_pos hi, ← e1, h1]
  · rw [if_neg e1]
    exact ha j (by omega)
set_option maxHeartbeats 2000000 in
theorem markTs (g cap n k : Nat) (cur : Array Value) (w : World) (hk : 0 < k) (hn : k + n < 9000000) (hc : n ≤ cur.size) (hg : w.heap[g]? = some (.cells cur 9)) :
    Calls Try.prog 9 #[.slice (some ⟨g, 0, none⟩) n cap, .int .i64 k] w fun e w' => e = .returned (.int .i64 ((k + n : Nat) : Int)) ∧
      (∃ cur', w'.heap[g]? = some (.cells cur' 9) ∧ cur'.size = cur.size ∧ ∀ j, j < n → cur'[j]? = (scells (mtl k n))[j]?) ∧ Nr g w w' := by
  have hgl : g < w.heap.size := (Array.getElem?_eq_some_iff.1 hg).1
  go_enter Try.func9, Try.ntmps9
  go_wp2_with fail
  go_loopw [1, 5] (fun x y wr => ∃ (i : Nat), i ≤ n ∧ y = .int .i64 i ∧ x = .int .i64 ((k + i : Nat) : Int) ∧ (∃ cur', wr.heap[g]? = some (.cells cur' 9) ∧ cur'.size = cur.size ∧ ∀ j, j < i → cur'[j]? = (scells (mtl k n))[j]?) ∧ Nr g w wr) (fun _ y _ => n - (intOf y).toNat)
  case atStart => exact ⟨0, Nat.zero_le _, rfl, rfl, ⟨cur, hg, rfl, fun j hj => by omega⟩, Nr.refl _ _⟩
  case round =>
    obtain ⟨i, hi, rfl, rfl, ⟨cur', hg', hs', ha'⟩, hnr⟩ := hrel
    by_cases hlt : i < n
    · have d1 : (i : Int) < (n : Int) := by omega
      have hgl' : g < wr.heap.size := Nat.lt_of_lt_of_le hgl hnr.size
      obtain ⟨K, hK⟩ : ∃ K : Nat, k + i = K := ⟨_, rfl⟩
      rw [hK]
      have HMg := hide (mtl_get k n i K hlt hK)
      have HKe : Hid ((K : Int) + 1 = ((k + (i + 1) : Nat) : Int)) := hide (by omega)
      have hK9 : K < 9000000 := by omega
      have HI : Hid (i < cur'.size) := hide (by omega)
      have C := hide fun v => markText K v (by omega) (by omega)
      generalize mtx K = M at *
      have HA := hide ha'
      have HN := hide hnr
      have HG := hide hg'
      clear ha' hnr hg' hK
      go_wp2_with fail
      refine (unhide C _).mono ?_
      rintro e w2 ⟨rfl, hb2⟩
      have hg2 := (hb2.block g hgl').trans (unhide HG)
      have HN2 := hide ((unhide HN).of_below hb2)
      obtain ⟨y1, hy1⟩ : ∃ y, w2.cell? ⟨g, i, none⟩ = some y := ⟨cur'[i]'(unhide HI), by rw [cell_of_row _ _ _ _ _ _ hg2, Array.getElem?_eq_getElem (unhide HI)]⟩
      have hf1 : w2.frozen? ⟨g, i, none⟩ = false := frz hg2 _
      have HG2 := hide hg2
      clear hg2 hb2 HG HN
      go_wp2_with fail
      go_roundw
      case rel =>
        refine ⟨i + 1, by omega, by go_num, by rw [unhide HKe], ⟨_, heap_setCell_same _ _ i _ _ _ (unhide HG2), by simp [hs'], ?_⟩, (unhide HN2).setCell i _⟩
        exact set_one cur' _ i _ (unhide HI) (unhide HMg) (unhide HA)
      case measure => simp [intOf]; omega
    · have e : i = n := by omega
      subst e
      have d1 : ¬ ((i : Int) < (i : Int)) := by omega
      go_wp2
      go_ret
      exact ⟨rfl, ⟨cur', hg', hs', ha'⟩, hnr⟩
set_option maxHeartbeats 2000000 in
theorem heldTs (g cap n k : Nat) (cur : Array Value) (w : World) (hk : 0 < k) (hn : k + n < 9000000) (hg : w.heap[g]? = some (.cells cur 9)) (ha : ∀ j, j < n → cur[j]? = (scells (mtl k n))[j]?) :
    Calls Try.prog 10 #[.slice (some ⟨g, 0, none⟩) n cap, .int .i64 k] w fun e w' => e = .returned (.int .i64 ((k + n : Nat) : Int)) ∧ Below w.heap.size w w' := by
  have hgl : g < w.heap.size := (Array.getElem?_eq_some_iff.1 hg).1
  go_enter Try.func10, Try.ntmps10
  go_wp2_with fail
  go_loopw [1, 5] (fun x y wr => ∃ (i : Nat), i ≤ n ∧ y = .int .i64 i ∧ x = .int .i64 ((k + i : Nat) : Int) ∧ Below w.heap.size w wr) (fun _ y _ => n - (intOf y).toNat)
  case atStart => exact ⟨0, Nat.zero_le _, rfl, rfl, Below.refl _ _⟩
  case round =>
    obtain ⟨i, hi, rfl, rfl, hb⟩ := hrel
    by_cases hlt : i < n
    · have d1 : (i : Int) < (n : Int) := by omega
      have d0 : (0 : Int) ≤ (i : Int) := by omega
      have hg' := (hb.block g hgl).trans hg
      obtain ⟨K, hK⟩ : ∃ K : Nat, k + i = K := ⟨_, rfl⟩
      rw [hK]
      have hMg := mtl_get k n i K hlt hK
      have HKe : Hid ((K : Int) + 1 = ((k + (i + 1) : Nat) : Int)) := hide (by omega)
      have hK9 : K < 9000000 := by omega
      have C := hide fun v => markText K v (by omega) (by omega)
      have k1 : wr.cell? ⟨g, i, none⟩ = some (.string (mtx K)) := by rw [cell_of_row _ _ _ _ _ _ hg', ha _ (by omega)]; exact hMg
      generalize mtx K = M at *
      have hbs := hb.size
      have hgr : g < wr.heap.size := Nat.lt_of_lt_of_le hgl hbs
      clear hK hMg ha hg hg'
      go_wp2_with fail
      go_region_held (fun q => q.cell? ⟨g, i, none⟩ = some (.string M)) (first | go_keep | (show World.cell? _ _ = _; rw [hb2.cell (p := ⟨g, i, none⟩) hgr]; exact k1)) (first
        | (go_at_call 15; refine (unhide C _).mono ?_; rintro e w2 ⟨rfl, hb2⟩))
      all_goals
        go_wp2_with fail
        go_roundw
        case rel => exact ⟨i + 1, by omega, by go_num, by rw [unhide HKe], hb.trans (((Below.refl _ _).drew.trans hb2).mono hbs)⟩
        case measure => simp [intOf]; omega
    · have e : i = n := by omega
      subst e
      have d1 : ¬ ((i : Int) < (i : Int)) := by omega
      go_wp2
      go_ret
      exact ⟨rfl, hb⟩
set_option maxHeartbeats 1000000 in
theorem markT0 (ad : Option Addr) (cp k : Nat) (w : World) : Calls Try.prog 9 #[.slice ad 0 cp, .int .i64 k] w fun e w' => e = .returned (.int .i64 k) ∧ w' = w := by
  go_enter Try.func9, Try.ntmps9
  go_wp2_with fail
  go_loopw [1, 5] (fun x y wr => x = .int .i64 k ∧ y = .int .i64 0 ∧ wr = w) (fun _ _ _ => 0)
  case atStart => exact ⟨rfl, rfl, rfl⟩
  case round =>
    obtain ⟨rfl, rfl, rfl⟩ := hrel
    go_wp2
    go_ret
    exact ⟨rfl, rfl⟩
set_option maxHeartbeats 1000000 in
theorem heldT0 (ad : Option Addr) (cp k : Nat) (w : World) : Calls Try.prog 10 #[.slice ad 0 cp, .int .i64 k] w fun e w' => e = .returned (.int .i64 k) ∧ w' = w := by
  go_enter Try.func10, Try.ntmps10
  go_wp2_with fail
  go_loopw [1, 5] (fun x y wr => x = .int .i64 k ∧ y = .int .i64 0 ∧ wr = w) (fun _ _ _ => 0)
  case atStart => exact ⟨rfl, rfl, rfl⟩
  case round =>
    obtain ⟨rfl, rfl, rfl⟩ := hrel
    go_wp2
    go_ret
    exact ⟨rfl, rfl⟩
/-- A row of texts is marked from a number on. -/
theorem markTF (v : Value) (L : List ByteArray) (k : Nat) (w : World) (hk : 0 < k) (hL : k + L.length < 9000000) (h : HoldsT w v L) :
    Calls Try.prog 9 #[v, .int .i64 k] w fun e w' => e = .returned (.int .i64 ((k + L.length : Nat) : Int)) ∧ HoldsT w' v (mtl k L.length) ∧ But v.ownBlock w w' ∧ (L = [] → Below w.heap.size w w') := by
  by_cases hLe : L = []
  · subst hLe
    obtain ⟨ad, cp, rfl⟩ := h.form
    exact (markT0 ad cp k w).mono fun e w' ⟨p1, p2⟩ => ⟨p1, Or.inl ⟨ad, cp, rfl, rfl⟩, p2 ▸ But.of_below (Below.refl _ _), fun _ => p2 ▸ Below.refl _ _⟩
  · rcases h with ⟨ad, cp, rfl, e0⟩ | ⟨g, cp, cur, rfl, h2, h3, h4⟩
    · exact absurd e0 hLe
    · refine (markTs g cp L.length k cur w hk hL h3 h2).mono fun e w' ⟨p1, ⟨cur', q1, q2, q3⟩, p3⟩ => ⟨p1, Or.inr ⟨g, cp, cur', by rw [mtl_len], q1, by rw [mtl_len]; omega, by rw [mtl_len]; exact q3⟩, ⟨p3.os, p3.tape, p3.output, p3.size, fun b hb hne => p3.block b hb fun e => hne (by rw [e]; rfl)⟩, fun h => absurd h hLe⟩
theorem heldTF (v : Value) (n k : Nat) (w : World) (hk : 0 < k) (hn : k + n < 9000000) (h : HoldsT w v (mtl k n)) :
    Calls Try.prog 10 #[v, .int .i64 k] w fun e w' => e = .returned (.int .i64 ((k + n : Nat) : Int)) ∧ Below w.heap.size w w' := by
  rcases h with ⟨ad, cp, rfl, e0⟩ | ⟨g, cp, cur, rfl, h2, h3, h4⟩
  · have hn0 : n = 0 := by rw [← mtl_len k n, e0]; rfl
    subst hn0
    exact (heldT0 ad cp k w).mono fun e w' ⟨p1, p2⟩ => ⟨p1, p2 ▸ Below.refl _ _⟩
  · rw [mtl_len] at h4 ⊢
    exact heldTs g cp n k cur w hk hn h2 h4
/-- A row of texts stands where its block does. -/
theorem holdsT_but {u v : Value} {L : List ByteArray} {W W' : World} (h : HoldsT W v L) (hb : But u.ownBlock W W') (n : ∀ g, v.ownBlock = some g → u.ownBlock ≠ some g) : HoldsT W' v L :=
  h.imp id fun ⟨g, cp, cur, e1, e2, e3⟩ => ⟨g, cp, cur, e1, (hb.block g (Array.getElem?_eq_some_iff.1 e2).1 (n g (by rw [e1]; rfl))).trans e2, e3⟩
end Go.Proofs.Ytdhhkdkppcijnaa
