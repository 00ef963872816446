/- The program's Cut: the pieces, in memory of its own; what lay in memory stands. -/
import Derived.Test.YtfkeokfmancgiaaFgP
import Derived.Test.YtfkeokfmancgiaaFgC
import Derived.Test.YtfkeokfmancgiaaGC
namespace Go.Proofs.Ytfkeokfmancgiaa
open Go.RowKit
/-- An answer of parts: a row of its own. -/
def AnP (F : List Fg) (w : World) (e : Ending) (w' : World) : Prop := ∃ u, e = .returned u ∧ HoldsG w' u F ∧ (∀ q, u.ownBlock = some q → w.heap.size ≤ q) ∧ Below w.heap.size w w'
theorem anp_nil (w : World) : AnP [] w (.returned (.slice none 0 0)) w := ⟨_, rfl, holdsG_nil _ _ _, (fun q hq => by cases hq), Below.refl _ _⟩
theorem cut_ways (t : ByteArray) (z q : Int) (P : Prop)
    (h1 : 2000 < t.size → cutF t z q = [] → P) (h2 : t.size ≤ 2000 → ¬ (1 ≤ z ∧ z ≤ 200) → cutF t z q = [] → P) (h3 : t.size ≤ 2000 → (1 ≤ z ∧ z ≤ 200) → ¬ (0 ≤ q ∧ q ≤ 16777215) → cutF t z q = [] → P)
    (h4 : cutOk t z q → P) : P := by
  by_cases a : t.size ≤ 2000
  · by_cases b : 1 ≤ z ∧ z ≤ 200
    · by_cases c : 0 ≤ q ∧ q ≤ 16777215
      · exact h4 ⟨a, b, c⟩
      · exact h3 a b c (if_neg fun h => c h.2.2)
    · exact h2 a b (if_neg fun h => b h.2.1)
  · exact h1 (by omega) (if_neg fun h => a h.1)
set_option maxHeartbeats 2000000 in
theorem iCut_no (t : ByteArray) (z q : Int) (w : World) (ht : t.size ≤ maxLen) (h : ¬ cutOk t z q) : Calls Try.prog 7 #[.string t, .int .i64 z, .int .i64 q] w (AnP (cutF t z q) w) := by
  unfold maxLen at ht
  have C1 := hide fun v => iWithin9 z 1 200 v
  have C2 := hide fun v => iSeq q v
  refine cut_ways t z q _ (fun a e => ?_) (fun a b e => ?_) (fun a b c e => ?_) (fun a => absurd a h)
  all_goals
    rw [e]
    clear e h
  · have d1 : decide ((2000 : Int) < (t.size : Int)) = true := decide_eq_true (by omega)
    go_enter Try.func7, Try.ntmps7
    go_wp2
    go_ret
    exact anp_nil w
  · have d1 : decide ((2000 : Int) < (t.size : Int)) = false := decide_eq_false (by omega)
    rw [wo b] at C1
    clear b
    go_enter Try.func7, Try.ntmps7
    go_wp2_with fail
    refine (unhide C1 _).mono ?_
    rintro e w2 ⟨rfl, hw⟩
    replace hw := hw.symm
    subst hw
    go_wp2
    go_ret
    exact anp_nil w
  · have d1 : decide ((2000 : Int) < (t.size : Int)) = false := decide_eq_false (by omega)
    rw [wi b] at C1
    rw [wo c] at C2
    clear b c
    go_enter Try.func7, Try.ntmps7
    go_wp2_with fail
    refine (unhide C1 _).mono ?_
    rintro e w2 ⟨rfl, hw⟩
    replace hw := hw.symm
    subst hw
    go_wp2_with fail
    refine (unhide C2 _).mono ?_
    rintro e w2 ⟨rfl, hw⟩
    replace hw := hw.symm
    subst hw
    go_wp2
    go_ret
    exact anp_nil w
set_option maxHeartbeats 2000000 in
theorem iCut_yes (t : ByteArray) (z q : Int) (w : World) (h : cutOk t z q) : Calls Try.prog 7 #[.string t, .int .i64 z, .int .i64 q] w (AnP (cutF t z q) w) := by
  unfold cutF
  rw [if_pos h]
  obtain ⟨hL, hz, hq⟩ := h
  obtain ⟨s, rfl⟩ : ∃ s : Nat, z = (s : Int) := ⟨z.toNat, by omega⟩
  rw [Int.toNat_natCast]
  have C1 := hide fun v => iWithin9 (s : Int) 1 200 v
  rw [wi hz] at C1
  have C2 := hide fun v => iSeq q v
  rw [wi hq] at C2
  have C3 := hide fun v => iPieces t.size s v hL (by omega)
  have d1 : decide ((2000 : Int) < (t.size : Int)) = false := decide_eq_false (by omega)
  have hs1 : 1 ≤ s := by omega
  have hs2 : s ≤ 200 := by omega
  have HAt := hide fun i => cnt_at (L := t.size) (s := s) (i := i) hs1
  have hp := cnt_pos t.size s
  have CL : Hid (∀ (u : ByteArray) v, u.size ≤ 2000 → Calls Try.prog 35 #[.string u] v fun e w' => e = .returned (.string u) ∧ Below v.heap.size v w') := hide fun u v hu => cloneStr9 u v (by omega)
  obtain ⟨n, hn⟩ : ∃ n, cnt t.size s = n := ⟨_, rfl⟩
  rw [hn] at C3 HAt hp ⊢
  clear hz hn
  by_cases h40 : n ≤ 40
  · have d2 : decide ((40 : Int) < (n : Int)) = false := decide_eq_false (by omega)
    have C4 := hide fun v => iSeq (q + (n : Int) - 1) v
    by_cases hM : q + (n : Int) - 1 ≤ 16777215
    · rw [if_pos ⟨h40, hM⟩]
      rw [wi (by omega)] at C4
      have hFl := cutL_len t s q n
      have HG := hide fun i hi => fgcells_get (cutL t s q n) i _ (cutL_get t s q n i hi)
      generalize cutL t s q n = F at *
      obtain ⟨i0, hi0, hz0, hz1, hz2⟩ := fginfo
      go_enter Try.func7, Try.ntmps7
      go_wp2_with fail
      refine (unhide C1 _).mono ?_
      rintro e w2 ⟨rfl, hw⟩
      replace hw := hw.symm
      subst hw
      go_wp2_with fail
      refine (unhide C2 _).mono ?_
      rintro e w2 ⟨rfl, hw⟩
      replace hw := hw.symm
      subst hw
      go_wp2_with fail
      refine (unhide C3 _).mono ?_
      rintro e w2 ⟨rfl, hw⟩
      replace hw := hw.symm
      subst hw
      go_wp2_with fail
      refine (unhide C4 _).mono ?_
      rintro e w2 ⟨rfl, hw⟩
      replace hw := hw.symm
      subst hw
      clear C1 C2 C3 C4
      go_wp2_with (first
        | (at_make; refine wpList_make_full w rfl _ _ 25 rfl w.heap.size 33 i0 _ 4 Try.underlying25 hi0 hz0 hz1 .i64 .i64 _ _ n rfl rfl rfl rfl (by rw [hz2]; omega) (by unfold maxLen; omega) (Nat.le_refl _) ?_; rintro w1 ho1 hg1; have HO1 := hide ho1; have HG1 := hide hg1; clear ho1 hg1))
      have hb1 : Below w.heap.size w w1 := (Below.refl _ _).grown (unhide HG1) (Nat.le_refl _) (fun k hk => by cases hk)
      obtain ⟨cur, hc1, hc2⟩ : ∃ cur, w1.heap[w.heap.size]? = some (.cells cur 33) ∧ cur.size = n * 4 := by
        rcases (unhide HO1).2 with ⟨k, _⟩ | ⟨g', cap, cur, k1, _, k3, _, _, k6, _⟩
        · cases k
        · simp only [Value.slice.injEq, Option.some.injEq, Addr.mk.injEq, true_and, and_true] at k1
          obtain ⟨rfl, rfl⟩ := k1
          exact ⟨cur, k3, k6⟩
      have HC1 := hide hc1
      have HS := hide (And.intro hc2 hb1)
      clear HO1 HG1 hc1 hc2 hb1 d1 d2 hp hi0 hz0 hz1 hz2
      go_loopw [42] (fun y wr => ∃ (i : Nat), i ≤ n ∧ y = .int .i64 i ∧ (∃ cur', wr.heap[w.heap.size]? = some (.cells cur' 33) ∧ cur'.size = n * 4 ∧ ∀ j, j < i * 4 → cur'[j]? = (fgcells F)[j]?) ∧ Below w.heap.size w wr) (fun y _ => n - (intOf y).toNat)
      case atStart => exact ⟨0, Nat.zero_le _, rfl, ⟨cur, unhide HC1, (unhide HS).1, fun j hj => by omega⟩, (unhide HS).2⟩
      case round =>
        obtain ⟨i, hi, rfl, ⟨cur', hg', hs', ha'⟩, hb⟩ := hrel
        have hbs := hb.size
        clear HC1 HS
        have hgl : w.heap.size < wr.heap.size := (Array.getElem?_eq_some_iff.1 hg').1
        by_cases hlt : i < n
        · have e1 : (i : Int) < (n : Int) := by omega
          have hget := unhide HG i hlt
          have hat := unhide HAt i hlt
          obtain ⟨a, ha⟩ : ∃ a, i * s = a := ⟨_, rfl⟩
          have hmul : (i : Int) * (s : Int) = (a : Int) := by rw [← ha]; simp
          rw [ha] at hget hat
          have HGET := hide hget
          have HG' := hide hg'
          have HA' := hide ha'
          clear hget hg' ha' ha
          obtain ⟨b, hbm⟩ : ∃ b, min (a + s) t.size = b := ⟨_, rfl⟩
          have hmin : min ((a : Int) + (s : Int)) (t.size : Int) = (b : Int) := by omega
          have hab : a ≤ b := by omega
          have hbL : b ≤ t.size := by omega
          rw [hbm] at HGET
          have hus : (t.extract a b).size ≤ 2000 := by rw [ByteArray.size_extract]; omega
          have C := hide fun v => unhide CL (t.extract a b) v hus
          clear hus hbm
          generalize hx : t.extract a b = U at *
          go_wp2_with fail
          refine (unhide C _).mono ?_
          rintro e w2 ⟨rfl, hb2⟩
          have hg2 := (hb2.block w.heap.size hgl).trans (unhide HG')
          have hB2 := hb.trans (hb2.mono hbs)
          obtain ⟨y0, hy0⟩ : ∃ y, w2.cell? ⟨w.heap.size, i * 4, none⟩ = some y := ⟨cur'[i * 4]'(by omega), by rw [cell_of_row _ _ _ _ _ _ hg2, Array.getElem?_eq_getElem (by omega)]⟩
          obtain ⟨y1, hy1⟩ : ∃ y, w2.cell? ⟨w.heap.size, i * 4 + 1, none⟩ = some y := ⟨cur'[i * 4 + 1]'(by omega), by rw [cell_of_row _ _ _ _ _ _ hg2, Array.getElem?_eq_getElem (by omega)]⟩
          obtain ⟨y2, hy2⟩ : ∃ y, w2.cell? ⟨w.heap.size, i * 4 + 2, none⟩ = some y := ⟨cur'[i * 4 + 2]'(by omega), by rw [cell_of_row _ _ _ _ _ _ hg2, Array.getElem?_eq_getElem (by omega)]⟩
          obtain ⟨y3, hy3⟩ : ∃ y, w2.cell? ⟨w.heap.size, i * 4 + 3, none⟩ = some y := ⟨cur'[i * 4 + 3]'(by omega), by rw [cell_of_row _ _ _ _ _ _ hg2, Array.getElem?_eq_getElem (by omega)]⟩
          have f0 : w2.frozen? ⟨w.heap.size, i * 4, none⟩ = false := frz hg2 _
          have f1 : w2.frozen? ⟨w.heap.size, i * 4 + 1, none⟩ = false := frz hg2 _
          have f2 : w2.frozen? ⟨w.heap.size, i * 4 + 2, none⟩ = false := frz hg2 _
          have f3 : w2.frozen? ⟨w.heap.size, i * 4 + 3, none⟩ = false := frz hg2 _
          have HG2 := hide hg2
          clear hg2 hb2 C hx hmin hmul
          go_wp2
          go_roundw
          case rel =>
            refine ⟨i + 1, by omega, by go_num, ⟨_, heap_setCell_same _ _ (i * 4 + 3) _ _ _ (heap_setCell_same _ _ (i * 4 + 2) _ _ _ (heap_setCell_same _ _ (i * 4 + 1) _ _ _ (heap_setCell_same _ _ (i * 4) _ _ _ (unhide HG2)))), by simp [hs'], ?_⟩, (((hB2.setCell (p := ⟨w.heap.size, i * 4, none⟩) (Nat.le_refl _) _).setCell (p := ⟨w.heap.size, i * 4 + 1, none⟩) (Nat.le_refl _) _).setCell (p := ⟨w.heap.size, i * 4 + 2, none⟩) (Nat.le_refl _) _).setCell (p := ⟨w.heap.size, i * 4 + 3, none⟩) (Nat.le_refl _) _⟩
            exact set_fourx cur' _ i _ _ _ _ (by omega) (unhide HGET).1 (unhide HGET).2.1 (unhide HGET).2.2.1 (unhide HGET).2.2.2 (unhide HA')
          case measure => simp [intOf]; omega
        · have e : i = n := by omega
          subst e
          have d1 : ¬ ((i : Int) < (i : Int)) := by omega
          have HH := hide (And.intro hg' ha')
          clear hg' ha'
          go_wp2
          go_ret
          refine ⟨_, rfl, Or.inr ⟨w.heap.size, i, cur', by rw [hFl]; rfl, (unhide HH).1, by rw [hFl]; omega, by rw [hFl]; exact (unhide HH).2⟩, ?_, hb⟩
          intro q hq
          cases hq
          exact Nat.le_refl _
    · rw [if_neg (fun h => hM h.2)]
      rw [wo (by omega)] at C4
      clear CL HAt
      go_enter Try.func7, Try.ntmps7
      go_wp2_with fail
      refine (unhide C1 _).mono ?_
      rintro e w2 ⟨rfl, hw⟩
      replace hw := hw.symm
      subst hw
      go_wp2_with fail
      refine (unhide C2 _).mono ?_
      rintro e w2 ⟨rfl, hw⟩
      replace hw := hw.symm
      subst hw
      go_wp2_with fail
      refine (unhide C3 _).mono ?_
      rintro e w2 ⟨rfl, hw⟩
      replace hw := hw.symm
      subst hw
      go_wp2_with fail
      refine (unhide C4 _).mono ?_
      rintro e w2 ⟨rfl, hw⟩
      replace hw := hw.symm
      subst hw
      go_wp2
      go_ret
      exact anp_nil w
  · rw [if_neg (fun h => h40 h.1)]
    have d2 : decide ((40 : Int) < (n : Int)) = true := decide_eq_true (by omega)
    clear CL HAt
    go_enter Try.func7, Try.ntmps7
    go_wp2_with fail
    refine (unhide C1 _).mono ?_
    rintro e w2 ⟨rfl, hw⟩
    replace hw := hw.symm
    subst hw
    go_wp2_with fail
    refine (unhide C2 _).mono ?_
    rintro e w2 ⟨rfl, hw⟩
    replace hw := hw.symm
    subst hw
    go_wp2_with fail
    refine (unhide C3 _).mono ?_
    rintro e w2 ⟨rfl, hw⟩
    replace hw := hw.symm
    subst hw
    go_wp2
    go_ret
    exact anp_nil w
theorem iCut (t : ByteArray) (z q : Int) (w : World) (ht : t.size ≤ maxLen) : Calls Try.prog 7 #[.string t, .int .i64 z, .int .i64 q] w (AnP (cutF t z q) w) := by
  by_cases h : cutOk t z q
  · exact iCut_yes t z q w h
  · exact iCut_no t z q w ht h
end Go.Proofs.Ytfkeokfmancgiaa
