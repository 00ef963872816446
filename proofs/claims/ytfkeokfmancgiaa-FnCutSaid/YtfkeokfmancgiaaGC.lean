/- The program's Cut: the pieces, in memory of its own; what lay in memory stands. The model's Cut: the pieces, in memory of its own; what lay in memory stands. -/
import Derived.Test.YtfkeokfmancgiaaFgP
import Derived.Test.YtfkeokfmancgiaaFgC
import Derived.Test.YtfkeokfmancgiaaGB
namespace Go.Proofs.Ytfkeokfmancgiaa
open Go.RowKit
/-- An answer of parts: a row of its own. -/
def AnP (F : List Fg) (w : World) (e : Ending) (w' : World) : Prop := ∃ u, e = .returned u ∧ HoldsG w' u F ∧ (∀ q, u.ownBlock = some q → w.heap.size ≤ q) ∧ Below w.heap.size w w'
theorem anp_nil (w : World) : AnP [] w (.returned (.slice none 0 0)) w := ⟨_, rfl, holdsG_nil _ _ _, (fun q hq => by cases hq), Below.refl _ _⟩
theorem cut_ways (t : ByteArray) (z q : Int) (P : Prop)
    (h1 : 2000 < t.size → cutF t z q = [] → P) (h2 : t.size ≤ 2000 → ¬ (1 ≤ z ∧ z ≤ 200) → cutF t z q = [] → P) (h3 : t.size ≤ 2000 → (1 ≤ z ∧ z ≤ 200) → ¬ (0 ≤ q ∧ q ≤ 16777215) → cutF t z q = [] → P)
    (h4 : cutOk t z q → P) : P := by
  by_cases a : t.size ≤ 2000
  · by_cases b : 1 ≤ z ∧ z ≤ 200
    · by_cases c : 0 ≤ q ∧ q ≤ 16777215
      · exact h4 ⟨a, b, c⟩
      · exact h3 a b c (if_neg fun h => c h.2.2)
    · exact h2 a b (if_neg fun h => b h.2.1)
  · exact h1 (by omega) (if_neg fun h => a h.1)
set_option maxHeartbeats 2000000 in
theorem iCut_no (t : ByteArray) (z q : Int) (w : World) (ht : t.size ≤ maxLen) (h : ¬ cutOk t z q) : Calls Try.prog 7 #[.string t, .int .i64 z, .int .i64 q] w (AnP (cutF t z q) w) := by
  unfold maxLen at ht
  have C1 := hide fun v => iWithin9 z 1 200 v
  have C2 := hide fun v => iSeq q v
  refine cut_ways t z q _ (fun a e => ?_) (fun a b e => ?_) (fun a b c e => ?_) (fun a => absurd a h)
  all_goals
    rw [e]
    clear e h
  · have d1 : decide ((2000 : Int) < (t.size : Int)) = true := decide_eq_true (by omega)
    go_enter Try.func7, Try.ntmps7
    go_wp2
    go_ret
    exact anp_nil w
  · have d1 : decide ((2000 : Int) < (t.size : Int)) = false := decide_eq_false (by omega)
    rw [wo b] at C1
    clear b
    go_enter Try.func7, Try.ntmps7
    go_wp2_with fail
    refine (unhide C1 _).mono ?_
    rintro e w2 ⟨rfl, hw⟩
    replace hw := hw.symm
    subst hw
    go_wp2
    go_ret
    exact anp_nil w
  · have d1 : decide ((2000 : Int) < (t.size : Int)) = false := decide_eq_false (by omega)
    rw [wi b] at C1
    rw [wo c] at C2
    clear b c
    go_enter Try.func7, Try.ntmps7
    go_wp2_with fail
    refine (unhide C1 _).mono ?_
    rintro e w2 ⟨rfl, hw⟩
    replace hw := hw.symm
    subst hw
    go_wp2_with fail
    refine (unhide C2 _).mono ?_
    rintro e w2 ⟨rfl, hw⟩
    replace hw := hw.symm
    subst hw
    go_wp2
    go_ret
    exact anp_nil w
set_option maxHeartbeats 2000000 in
theorem iCut_yes (t : ByteArray) (z q : Int) (w : World) (h : cutOk t z q) : Calls Try.prog 7 #[.string t, .int .i64 z, .int .i64 q] w (AnP (cutF t z q) w) := by
  unfold cutF
  rw [if_pos h]
  obtain ⟨hL, hz, hq⟩ := h
  obtain ⟨s, rfl⟩ : ∃ s : Nat, z = (s : Int) := ⟨z.toNat, by omega⟩
  rw [Int.toNat_natCast]
  have C1 := hide fun v => iWithin9 (s : Int) 1 200 v
  rw [wi hz] at C1
  have C2 := hide fun v => iSeq q v
  rw [wi hq] at C2
  have C3 := hide fun v => iPieces t.size s v hL (by omega)
  have d1 : decide ((2000 : Int) < (t.size : Int)) = false := decide_eq_false (by omega)
  have hs1 : 1 ≤ s := by omega
  have hs2 : s ≤ 200 := by omega
  have HAt := hide fun i => cnt_at (L := t.size) (s := s) (i := i) hs1
  have hp := cnt_pos t.size s
  have CL : Hid (∀ (u : ByteArray) v, u.size ≤ 2000 → Calls Try.prog 35 #[.string u] v fun e w' => e = .returned (.string u) ∧ Below v.heap.size v w') := hide fun u v hu => cloneStr9 u v (by omega)
  obtain ⟨n, hn⟩ : ∃ n, cnt t.size s = n := ⟨_, rfl⟩
  rw [hn] at C3 HAt hp ⊢
  clear hz hn
  by_cases h40 : n ≤ 40
  · have d2 : decide ((40 : Int) < (n : Int)) = false := decide_eq_false (by omega)
    have C4 := hide fun v => iSeq (q + (n : Int) - 1) v
    by_cases hM : q + (n : Int) - 1 ≤ 16777215
    · rw [if_pos ⟨h40, hM⟩]
      rw [wi (by omega)] at C4
      have hFl := cutL_len t s q n
      have HG := hide fun i hi => fgcells_get (cutL t s q n) i _ (cutL_get t s q n i hi)
      generalize cutL t s q n = F at *
      obtain ⟨i0, hi0, hz0, hz1, hz2⟩ := fginfo
      go_enter Try.func7, Try.ntmps7
      go_wp2_with fail
      refine (unhide C1 _).mono ?_
      rintro e w2 ⟨rfl, hw⟩
      replace hw := hw.symm
      subst hw
      go_wp2_with fail
      refine (unhide C2 _).mono ?_
      rintro e w2 ⟨rfl, hw⟩
      replace hw := hw.symm
      subst hw
      go_wp2_with fail
      refine (unhide C3 _).mono ?_
      rintro e w2 ⟨rfl, hw⟩
      replace hw := hw.symm
      subst hw
      go_wp2_with fail
      refine (unhide C4 _).mono ?_
      rintro e w2 ⟨rfl, hw⟩
      replace hw := hw.symm
      subst hw
      clear C1 C2 C3 C4
      go_wp2_with (first
        | (at_make; refine wpList_make_full w rfl _ _ 25 rfl w.heap.size 33 i0 _ 4 Try.underlying25 hi0 hz0 hz1 .i64 .i64 _ _ n rfl rfl rfl rfl (by rw [hz2]; omega) (by unfold maxLen; omega) (Nat.le_refl _) ?_; rintro w1 ho1 hg1; have HO1 := hide ho1; have HG1 := hide hg1; clear ho1 hg1))
      have hb1 : Below w.heap.size w w1 := (Below.refl _ _).grown (unhide HG1) (Nat.le_refl _) (fun k hk => by cases hk)
      obtain ⟨cur, hc1, hc2⟩ : ∃ cur, w1.heap[w.heap.size]? = some (.cells cur 33) ∧ cur.size = n * 4 := by
        rcases (unhide HO1).2 with ⟨k, _⟩ | ⟨g', cap, cur, k1, _, k3, _, _, k6, _⟩
        · cases k
        · simp only [Value.slice.injEq, Option.some.injEq, Addr.mk.injEq, true_and, and_true] at k1
          obtain ⟨rfl, rfl⟩ := k1
          exact ⟨cur, k3, k6⟩
      have HC1 := hide hc1
      have HS := hide (And.intro hc2 hb1)
      clear HO1 HG1 hc1 hc2 hb1 d1 d2 hp hi0 hz0 hz1 hz2
      go_loopw [42] (fun y wr => ∃ (i : Nat), i ≤ n ∧ y = .int .i64 i ∧ (∃ cur', wr.heap[w.heap.size]? = some (.cells cur' 33) ∧ cur'.size = n * 4 ∧ ∀ j, j < i * 4 → cur'[j]? = (fgcells F)[j]?) ∧ Below w.heap.size w wr) (fun y _ => n - (intOf y).toNat)
      case atStart => exact ⟨0, Nat.zero_le _, rfl, ⟨cur, unhide HC1, (unhide HS).1, fun j hj => by omega⟩, (unhide HS).2⟩
      case round =>
        obtain ⟨i, hi, rfl, ⟨cur', hg', hs', ha'⟩, hb⟩ := hrel
        have hbs := hb.size
        clear HC1 HS
        have hgl : w.heap.size < wr.heap.size := (Array.getElem?_eq_some_iff.1 hg').1
        by_cases hlt : i < n
        · have e1 : (i : Int) < (n : Int) := by omega
          have hget := unhide HG i hlt
          have hat := unhide HAt i hlt
          obtain ⟨a, ha⟩ : ∃ a, i * s = a := ⟨_, rfl⟩
          have hmul : (i : Int) * (s : Int) = (a : Int) := by rw [← ha]; simp
          rw [ha] at hget hat
          have HGET := hide hget
          have HG' := hide hg'
          have HA' := hide ha'
          clear hget hg' ha' ha
          obtain ⟨b, hbm⟩ : ∃ b, min (a + s) t.size = b := ⟨_, rfl⟩
          have hmin : min ((a : Int) + (s : Int)) (t.size : Int) = (b : Int) := by omega
          have hab : a ≤ b := by omega
          have hbL : b ≤ t.size := by omega
          rw [hbm] at HGET
          have hus : (t.extract a b).size ≤ 2000 := by rw [ByteArray.size_extract]; omega
          have C := hide fun v => unhide CL (t.extract a b) v hus
          clear hus hbm
          generalize hx : t.extract a b = U at *
          go_wp2_with fail
          refine (unhide C _).mono ?_
          rintro e w2 ⟨rfl, hb2⟩
          have hg2 := (hb2.block w.heap.size hgl).trans (unhide HG')
          have hB2 := hb.trans (hb2.mono hbs)
          obtain ⟨y0, hy0⟩ : ∃ y, w2.cell? ⟨w.heap.size, i * 4, none⟩ = some y := ⟨cur'[i * 4]'(by omega), by rw [cell_of_row _ _ _ _ _ _ hg2, Array.getElem?_eq_getElem (by omega)]⟩
          obtain ⟨y1, hy1⟩ : ∃ y, w2.cell? ⟨w.heap.size, i * 4 + 1, none⟩ = some y := ⟨cur'[i * 4 + 1]'(by omega), by rw [cell_of_row _ _ _ _ _ _ hg2, Array.getElem?_eq_getElem (by omega)]⟩
          obtain ⟨y2, hy2⟩ : ∃ y, w2.cell? ⟨w.heap.size, i * 4 + 2, none⟩ = some y := ⟨cur'[i * 4 + 2]'(by omega), by rw [cell_of_row _ _ _ _ _ _ hg2, Array.getElem?_eq_getElem (by omega)]⟩
          obtain ⟨y3, hy3⟩ : ∃ y, w2.cell? ⟨w.heap.size, i * 4 + 3, none⟩ = some y := ⟨cur'[i * 4 + 3]'(by omega), by rw [cell_of_row _ _ _ _ _ _ hg2, Array.getElem?_eq_getElem (by omega)]⟩
          have f0 : w2.frozen? ⟨w.heap.size, i * 4, none⟩ = false := frz hg2 _
          have f1 : w2.frozen? ⟨w.heap.size, i * 4 + 1, none⟩ = false := frz hg2 _
          have f2 : w2.frozen? ⟨w.heap.size, i * 4 + 2, none⟩ = false := frz hg2 _
          have f3 : w2.frozen? ⟨w.heap.size, i * 4 + 3, none⟩ = false := frz hg2 _
          have HG2 := hide hg2
          clear hg2 hb2 C hx hmin hmul
          go_wp2
          go_roundw
          case rel =>
            refine ⟨i + 1, by omega, by go_num, ⟨_, heap_setCell_same _ _ (i * 4 + 3) _ _ _ (heap_setCell_same _ _ (i * 4 + 2) _ _ _ (heap_setCell_same _ _ (i * 4 + 1) _ _ _ (heap_setCell_same _ _ (i * 4) _ _ _ (unhide HG2)))), by simp [hs'], ?_⟩, (((hB2.setCell (p := ⟨w.heap.size, i * 4, none⟩) (Nat.le_refl _) _).setCell (p := ⟨w.heap.size, i * 4 + 1, none⟩) (Nat.le_refl _) _).setCell (p := ⟨w.heap.size, i * 4 + 2, none⟩) (Nat.le_refl _) _).setCell (p := ⟨w.heap.size, i * 4 + 3, none⟩) (Nat.le_refl _) _⟩
            exact set_fourx cur' _ i _ _ _ _ (by omega) (unhide HGET).1 (unhide HGET).2.1 (unhide HGET).2.2.1 (unhide HGET).2.2.2 (unhide HA')
          case measure => simp [intOf]; omega
        · have e : i = n := by omega
          subst e
          have d1 : ¬ ((i : Int) < (i : Int)) := by omega
          have HH := hide (And.intro hg' ha')
          clear hg' ha'
          go_wp2
          go_ret
          refine ⟨_, rfl, Or.inr ⟨w.heap.size, i, cur', by rw [hFl]; rfl, (unhide HH).1, by rw [hFl]; omega, by rw [hFl]; exact (unhide HH).2⟩, ?_, hb⟩
          intro q hq
          cases hq
          exact Nat.le_refl _
    · rw [if_neg (fun h => hM h.2)]
      rw [wo (by omega)] at C4
      clear CL HAt
      go_enter Try.func7, Try.ntmps7
      go_wp2_with fail
      refine (unhide C1 _).mono ?_
      rintro e w2 ⟨rfl, hw⟩
      replace hw := hw.symm
      subst hw
      go_wp2_with fail
      refine (unhide C2 _).mono ?_
      rintro e w2 ⟨rfl, hw⟩
      replace hw := hw.symm
      subst hw
      go_wp2_with fail
      refine (unhide C3 _).mono ?_
      rintro e w2 ⟨rfl, hw⟩
      replace hw := hw.symm
      subst hw
      go_wp2_with fail
      refine (unhide C4 _).mono ?_
      rintro e w2 ⟨rfl, hw⟩
      replace hw := hw.symm
      subst hw
      go_wp2
      go_ret
      exact anp_nil w
  · rw [if_neg (fun h => h40 h.1)]
    have d2 : decide ((40 : Int) < (n : Int)) = true := decide_eq_true (by omega)
    clear CL HAt
    go_enter Try.func7, Try.ntmps7
    go_wp2_with fail
    refine (unhide C1 _).mono ?_
    rintro e w2 ⟨rfl, hw⟩
    replace hw := hw.symm
    subst hw
    go_wp2_with fail
    refine (unhide C2 _).mono ?_
    rintro e w2 ⟨rfl, hw⟩
    replace hw := hw.symm
    subst hw
    go_wp2_with fail
    refine (unhide C3 _).mono ?_
    rintro e w2 ⟨rfl, hw⟩
    replace hw := hw.symm
    subst hw
    go_wp2
    go_ret
    exact anp_nil w
theorem iCut (t : ByteArray) (z q : Int) (w : World) (ht : t.size ≤ maxLen) : Calls Try.prog 7 #[.string t, .int .i64 z, .int .i64 q] w (AnP (cutF t z q) w) := by
  by_cases h : cutOk t z q
  · exact iCut_yes t z q w h
  · exact iCut_no t z q w ht h
end Go.Proofs.Ytfkeokfmancgiaa
namespace Go.Proofs.Ytfkeokfmancgiaa
open Go.RowKit
theorem empty_of9 {t : ByteArray} (h : t.size = 0) : t = ⟨#[]⟩ := by
  apply ByteArray.ext
  exact Array.eq_empty_of_size_eq_zero h
theorem nonempty_of9 {t : ByteArray} (h : t.size ≠ 0) : t.toList.isEmpty = false := by
  rw [ByteArray.toList_eq]
  cases hq : t.data.toList with
  | nil => exact absurd (by have := congrArg List.length hq; simpa using this) h
  | cons a l => rfl
theorem isempty_of9 {t : ByteArray} (h : t.size = 0) : t.toList.isEmpty = true := by
  rw [empty_of9 h, ByteArray.toList_eq]
  rfl
def lenV : Value → Nat
  | .slice _ n _ => n
  | _ => 0
theorem anp_lit (w : World) (W : World) (hb : Below w.heap.size w W) : AnP [] w (.returned (.slice (some ⟨W.heap.size, 0, none⟩) 0 0)) (W.alloc (.cells #[] 33)) :=
  ⟨_, rfl, holdsG_nil _ _ _, (fun q hq => by cases hq; exact hb.size), hb.alloc hb.size _⟩
theorem anp_own {F : List Fg} {w w' : World} {v : Value} (h : w'.ownsRow w.heap.size 33 4 v F.length (fgcells F)) (hb : Below w.heap.size w w') : AnP F w (.returned v) w' :=
  ⟨_, rfl, HoldsG.own h, fun q hq => (World.ownsRow.lt h q hq).1, hb⟩
set_option maxHeartbeats 2000000 in
theorem sCut_no (t : ByteArray) (z q : Int) (w : World) (ht : t.size ≤ maxLen) (h : ¬ cutOk t z q) : Calls Try.prog 8 #[.string t, .int .i64 z, .int .i64 q] w (AnP (cutF t z q) w) := by
  unfold maxLen at ht
  have C1 := hide fun v => sWithin9 z 1 200 v
  have C2 := hide fun v => sWithin9 q 0 16777215 v
  refine cut_ways t z q _ (fun a e => ?_) (fun a b e => ?_) (fun a b c e => ?_) (fun a => absurd a h)
  all_goals
    rw [e]
    clear e h
  · have d1 : decide ((2000 : Int) < (t.size : Int)) = true := decide_eq_true (by omega)
    go_enter Try.func8, Try.ntmps8
    go_wp2
    go_ret
    exact anp_lit w w (Below.refl _ _)
  · have d1 : decide ((2000 : Int) < (t.size : Int)) = false := decide_eq_false (by omega)
    rw [wo b] at C1
    clear b
    go_enter Try.func8, Try.ntmps8
    go_wp2_with fail
    refine (unhide C1 _).mono ?_
    rintro e w2 ⟨rfl, rfl⟩
    go_wp2
    go_ret
    exact anp_lit w w (Below.refl _ _)
  · have d1 : decide ((2000 : Int) < (t.size : Int)) = false := decide_eq_false (by omega)
    rw [wi b] at C1
    rw [wo c] at C2
    clear b c
    go_enter Try.func8, Try.ntmps8
    go_wp2_with fail
    refine (unhide C1 _).mono ?_
    rintro e w2 ⟨rfl, rfl⟩
    go_wp2_with fail
    refine (unhide C2 _).mono ?_
    rintro e w2 ⟨rfl, rfl⟩
    go_wp2
    go_ret
    exact anp_lit w w (Below.refl _ _)
/-- What is left of the text behind so many pieces. -/
def lft (t : ByteArray) (s j : Nat) : ByteArray := t.extract (min (j * s) t.size) t.size
theorem lft_size (t : ByteArray) (s j : Nat) : (lft t s j).size = t.size - j * s := by unfold lft; rw [ByteArray.size_extract]; omega
theorem lft_piece (t : ByteArray) (s j : Nat) (h : j * s ≤ t.size) : (lft t s j).extract 0 (min s (lft t s j).size) = t.extract (j * s) (min (j * s + s) t.size) := by
  rw [lft_size]
  unfold lft
  rw [ByteArray.extract_extract, show min (j * s) t.size = j * s by omega]
  congr 1
  omega
theorem lft_step (t : ByteArray) (s j : Nat) (h : j * s ≤ t.size) : (lft t s j).extract (min s (lft t s j).size) (lft t s j).size = lft t s (j + 1) := by
  rw [lft_size]
  unfold lft
  rw [ByteArray.extract_extract, show min (j * s) t.size = j * s by omega, Nat.add_mul, Nat.one_mul]
  congr 1
  · omega
  · omega
theorem cut_end {t : ByteArray} {s j n : Nat} (hn : cnt t.size s = n) (hs : 1 ≤ s) (h : j < n) : (((min s (lft t s j).size : Nat) : Int) == ((lft t s j).size : Int)) = ((j : Int) == (n : Int) - 1) := by
  subst hn
  have h1 := cnt_last hs h
  have h2 := cnt_at hs h
  rw [lft_size]
  by_cases e : j = cnt t.size s - 1
  · have e2 := h1.1 e
    rw [beq_iff_eq.2 (by omega), beq_iff_eq.2 (by omega)]
  · have e2 := mt h1.2 e
    rw [beq_eq_false_iff_ne.2 (by omega), beq_eq_false_iff_ne.2 (by omega)]
theorem lft_more {t : ByteArray} {s j n : Nat} (hn : cnt t.size s = n) (hs : 1 ≤ s) (h : j < n) (h0 : j ≠ 0) : (lft t s j).size ≠ 0 := by
  subst hn
  rw [lft_size]
  obtain ⟨i, rfl⟩ : ∃ i, j = i + 1 := ⟨j - 1, by omega⟩
  have := cnt_lt hs h
  rw [Nat.add_mul, Nat.one_mul]
  omega
theorem lft_none {t : ByteArray} {s n : Nat} (hn : cnt t.size s = n) (hs : 1 ≤ s) : (lft t s n).size = 0 := by
  subst hn
  rw [lft_size]
  have := cnt_end t.size s hs
  omega
set_option maxHeartbeats 4000000 in
theorem sCut_yes (t : ByteArray) (z q : Int) (w : World) (h : cutOk t z q) : Calls Try.prog 8 #[.string t, .int .i64 z, .int .i64 q] w (AnP (cutF t z q) w) := by
  unfold cutF
  rw [if_pos h]
  obtain ⟨hL, hz, hq⟩ := h
  obtain ⟨s, rfl⟩ : ∃ s : Nat, z = (s : Int) := ⟨z.toNat, by omega⟩
  rw [Int.toNat_natCast]
  have C1 := hide fun v => sWithin9 (s : Int) 1 200 v
  rw [wi hz] at C1
  have C2 := hide fun v => sWithin9 q 0 16777215 v
  rw [wi hq] at C2
  have d1 : decide ((2000 : Int) < (t.size : Int)) = false := decide_eq_false (by omega)
  have hs1 : 1 ≤ s := by omega
  have hs2 : s ≤ 200 := by omega
  have hp := cnt_pos t.size s
  obtain ⟨n, hn⟩ : ∃ n, cnt t.size s = n := ⟨_, rfl⟩
  have hn2 : n ≤ 2001 := by
    rw [← hn]
    unfold cnt
    have : (t.size + s - 1) / s ≤ t.size := by
      apply Nat.le_of_lt_succ
      apply (Nat.div_lt_iff_lt_mul (by omega)).2
      rw [Nat.succ_mul]
      have := Nat.mul_le_mul_left t.size hs1
      omega
    omega
  have HE := hide fun j hj => cut_end (t := t) (s := s) (j := j) hn hs1 hj
  have HM := hide fun j hj h0 => lft_more (t := t) (s := s) (j := j) hn hs1 hj h0
  have HN := hide (lft_none (t := t) hn hs1)
  have HAt := hide fun i => cnt_at (L := t.size) (s := s) (i := i) hs1
  rw [hn] at HAt hp ⊢
  have hFl := cutL_len t s q n
  have HG := hide fun i hi => cutL_get t s q n i hi
  obtain ⟨F, hF⟩ : ∃ F, cutL t s q n = F := ⟨_, rfl⟩
  rw [hF] at HG hFl ⊢
  clear hz hn hF
  obtain ⟨R, hR⟩ : ∃ R, (if n ≤ 40 ∧ q + (n : Int) - 1 ≤ 16777215 then F else []) = R := ⟨_, rfl⟩
  rw [hR]
  have HR := hide hR
  clear hR
  go_enter Try.func8, Try.ntmps8
  go_wp2_with fail
  refine (unhide C1 _).mono ?_
  rintro e w2 ⟨rfl, hw⟩
  go_wp2_with fail
  refine (unhide C2 _).mono ?_
  rintro e w3 ⟨rfl, hw3⟩
  replace hw3 := hw3.symm
  subst hw3
  have HO : Hid ((w.alloc (.cells #[] 33)).ownsRow w.heap.size 33 4 (.slice (some ⟨w.heap.size, 0, none⟩) 0 0) 0 (fgcells []) ∧ Below w.heap.size w (w.alloc (.cells #[] 33))) :=
    hide ⟨World.ownsRow_lit _ _ 0 (Nat.le_refl _) (by decide) rfl, (Below.refl _ _).alloc (Nat.le_refl _) _⟩
  subst hw
  clear C1 C2 d1
  go_wp2_with fail
  go_loopw [7, 8] (fun v u wr => ∃ (j : Nat), j ≤ n ∧ (∃ ad cp, v = .slice ad j cp) ∧ u = .string (lft t s j) ∧ wr.ownsRow w.heap.size 33 4 v j (fgcells (F.take j)) ∧ Below w.heap.size w wr) (fun v _ _ => n - lenV v)
  case atStart => exact ⟨0, Nat.zero_le _, ⟨_, _, rfl⟩, by unfold lft; simp, (unhide HO).1, (unhide HO).2⟩
  case round =>
    obtain ⟨j, hj, ⟨ad, cp, rfl⟩, rfl, hown, hb⟩ := hrel
    clear HO
    have hbs := hb.size
    by_cases hlt : j < n
    · have hat := unhide HAt j hlt
      have hget := unhide HG j hlt
      have hpc := lft_piece t s j hat
      have hst := lft_step t s j hat
      have hen := unhide HE j hlt
      have hsU : (lft t s j).size ≤ 2000 := by rw [lft_size]; omega
      have C3 := hide fun v => sMinN s (lft t s j).size v
      have hne : j ≠ 0 → (lft t s j).toList.isEmpty = false := fun h0 => nonempty_of9 (unhide HM j hlt h0)
      generalize lft t s j = U at *
      obtain ⟨k, hk⟩ : ∃ k, min s U.size = k := ⟨_, rfl⟩
      rw [hk] at C3 hpc hst hen
      have hkU : k ≤ U.size := by omega
      have hF1 : F.take (j + 1) = F.take j ++ [⟨q + (j : Int), ((j : Int) == 0), ((k : Int) == (U.size : Int)), U.extract 0 k⟩] := by
        obtain ⟨hl, hge⟩ := List.getElem?_eq_some_iff.1 hget
        rw [List.take_succ_eq_append_getElem hl, hge, hen, hpc]
      have HF1 := hide hF1
      have HST := hide hst
      have HOW := hide hown
      have hlen : (F.take j).length = j := by rw [List.length_take]; omega
      generalize hT : F.take j = T at *
      generalize hx : U.extract 0 k = X at *
      clear hget hpc hst hen hF1 hown hk hat hT
      obtain ⟨bj, hbj⟩ : ∃ bj, ((j : Int) == 0) = bj := ⟨_, rfl⟩
      have hne' : bj = false → U.toList.isEmpty = false := fun e => hne (by rw [e] at hbj; have := beq_eq_false_iff_ne.1 hbj; omega)
      rw [hbj] at HF1
      clear hne
      cases bj
      all_goals
        try (have hU := hne' rfl)
        clear hne'
        go_wp2_with fail
        refine (unhide C3 _).mono ?_
        rintro e w3 ⟨rfl, hw3⟩
        replace hw3 := hw3.symm
        subst hw3
        go_wp2_with (first
          | (at_builtin; refine append_fg rfl _ _ rfl w.heap.size (.slice ad j cp) T j hlen rfl (unhide HOW) _ _ _ _ rfl (by omega) hbs ?_; rintro v6 w6 ho6 hg6; obtain ⟨a6, c6, rfl⟩ := own_form ho6))
        have hgr : Below w.heap.size w w6 := (hb.alloc hbs _).grown hg6 (by simp; omega) (fun q hq => (World.ownsRow.lt (unhide HOW) q hq).1)
        exact ⟨⟨j + 1, by omega, ⟨_, _, rfl⟩, by rw [unhide HST], by rw [unhide HF1]; exact ho6, hgr⟩, by show n - (j + 1) < n - j; omega⟩
    · have e : j = n := by omega
      subst e
      have hU := isempty_of9 (unhide HN)
      have d0 : ((j : Int) == 0) = false := beq_eq_false_iff_ne.2 (by omega)
      have hTk : F.take j = F := List.take_of_length_le (by omega)
      rw [hTk] at hown
      have hAn : AnP F w (.returned (.slice ad j cp)) wr := anp_own (by rw [hFl]; exact hown) hb
      have hgl := unhide HG (j - 1) (by omega)
      obtain ⟨g, cur, hvg, hgb, hcl⟩ : ∃ g cur, ad = some ⟨g, 0, none⟩ ∧ wr.heap[g]? = some (.cells cur 33) ∧ cur[(j - 1) * 4]? = some (.int .i64 (q + (j : Int) - 1)) := by
        obtain ⟨u, hu, hh, _⟩ := hAn
        cases hu
        rcases hh with ⟨_, _, h1, h2⟩ | ⟨g, cp', cur, h1, h2, h3, h4⟩
        · rw [h2] at hFl
          simp at hFl
          omega
        · simp only [Value.slice.injEq] at h1
          refine ⟨g, cur, h1.1, h2, ?_⟩
          rw [h4 _ (by omega), (fgcells_get F (j - 1) _ hgl).1]
          congr 2
          dsimp only
          omega
      subst hvg
      have c0 : wr.cell? ⟨g, (j - 1) * 4, none⟩ = some (.int .i64 (q + (j : Int) - 1)) := by rw [cell_of_row _ _ _ _ _ _ hgb]; exact hcl
      have HAN := hide (And.intro hAn hb)
      generalize lft t s j = U at *
      obtain ⟨i, rfl⟩ : ∃ i, j = i + 1 := ⟨j - 1, by omega⟩
      rw [Nat.add_sub_cancel] at c0
      clear hgb hcl hgl hAn hown hTk HG HE HM HN HAt hb
      by_cases h40 : i + 1 ≤ 40
      · have d2 : decide ((40 : Int) < ((i + 1 : Nat) : Int)) = false := decide_eq_false (by omega)
        by_cases hM : q + ((i + 1 : Nat) : Int) - 1 ≤ 16777215
        · have d3 : decide ((16777215 : Int) < q + ((i + 1 : Nat) : Int) - 1) = false := decide_eq_false (by omega)
          have hR := unhide HR
          rw [if_pos ⟨h40, hM⟩] at hR
          subst hR
          go_wp2
          go_ret
          exact (unhide HAN).1
        · have d3 : decide ((16777215 : Int) < q + ((i + 1 : Nat) : Int) - 1) = true := decide_eq_true (by omega)
          have hR := unhide HR
          rw [if_neg (fun h => hM h.2)] at hR
          subst hR
          go_wp2
          go_ret
          exact anp_lit w wr (unhide HAN).2
      · have d2 : decide ((40 : Int) < ((i + 1 : Nat) : Int)) = true := decide_eq_true (by omega)
        have hR := unhide HR
        rw [if_neg (fun h => h40 h.1)] at hR
        subst hR
        go_wp2
        go_ret
        exact anp_lit w wr (unhide HAN).2
theorem sCut (t : ByteArray) (z q : Int) (w : World) (ht : t.size ≤ maxLen) : Calls Try.prog 8 #[.string t, .int .i64 z, .int .i64 q] w (AnP (cutF t z q) w) := by
  by_cases h : cutOk t z q
  · exact sCut_yes t z q w h
  · exact sCut_no t z q w ht h
end Go.Proofs.Ytfkeokfmancgiaa
