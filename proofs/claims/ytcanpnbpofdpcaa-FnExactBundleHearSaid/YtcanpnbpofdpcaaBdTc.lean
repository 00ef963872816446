/- A bundle that was handed in, copied by the law, and the room of its rows; no condition but those named. -/
import Derived.Test.YtcanpnbpofdpcaaBdT
namespace Go.Proofs.Ytcanpnbpofdpcaa
open Go.RowKit
set_option maxHeartbeats 2000000 in
theorem toFgC (v : Value) (F : List Fg) (w : World) (hn : F.length ≤ 1048576) (h : ArgG w v F) :
    Calls Try.prog 23 #[v] w fun e w' => ∃ u, e = .returned u ∧ HoldsG w' u F ∧ ((∀ q, u.ownBlock = some q → w.heap.size ≤ q) ∧ ∀ ad n c, u = .slice ad n c → n ≤ c) ∧ Below w.heap.size w w' := by
  obtain ⟨i0, hi0, hz0, hz1, hz2⟩ := fginfo
  obtain ⟨va, vc, rfl⟩ := h.1
  have HA := hide h
  clear h
  obtain ⟨n, hnn⟩ : ∃ n, F.length = n := ⟨_, rfl⟩
  rw [hnn] at hn ⊢
  go_enter Try.func23, Try.ntmps23
  go_wp2_with (first
    | (at_make; refine wpList_make_full w rfl _ _ 28 rfl w.heap.size 41 i0 _ 4 Try.underlying28 hi0 hz0 hz1 .i64 .i64 _ _ n rfl rfl rfl rfl (by rw [hz2]; omega) (by unfold maxLen; omega) (Nat.le_refl _) ?_; rintro w1 ho1 hg1; have HO1 := hide ho1; have HG1 := hide hg1; clear ho1 hg1))
  have hb1 : Below w.heap.size w w1 := (Below.refl _ _).grown (unhide HG1) (Nat.le_refl _) (fun k hk => by cases hk)
  obtain ⟨cur, hc1, hc2⟩ : ∃ cur, w1.heap[w.heap.size]? = some (.cells cur 41) ∧ cur.size = n * 4 := by
    rcases (unhide HO1).2 with ⟨k, _⟩ | ⟨g', cap, cur, k1, _, k3, _, _, k6, _⟩
    · cases k
    · simp only [Value.slice.injEq, Option.some.injEq, Addr.mk.injEq, true_and, and_true] at k1
      obtain ⟨rfl, rfl⟩ := k1
      exact ⟨cur, k3, k6⟩
  have HC1 := hide hc1
  have HS := hide (And.intro hc2 hb1)
  clear HO1 HG1 hc1 hc2 hb1
  go_loopw [4] (fun y wr => ∃ (i : Nat), i ≤ n ∧ y = .int .i64 i ∧ (∃ cur', wr.heap[w.heap.size]? = some (.cells cur' 41) ∧ cur'.size = n * 4 ∧ ∀ j, j < i * 4 → cur'[j]? = (fgcells F)[j]?) ∧ Below w.heap.size w wr) (fun y _ => n - (intOf y).toNat)
  case atStart => exact ⟨0, Nat.zero_le _, rfl, ⟨cur, unhide HC1, (unhide HS).1, fun j hj => by omega⟩, (unhide HS).2⟩
  case round =>
    obtain ⟨i, hi, rfl, ⟨cur', hg', hs', ha'⟩, hb⟩ := hrel
    have hbs := hb.size
    clear HC1 HS
    have hgl : w.heap.size < wr.heap.size := (Array.getElem?_eq_some_iff.1 hg').1
    by_cases hlt : i < n
    · have e1 : (i : Int) < (n : Int) := by omega
      obtain ⟨b, o, cap, hvf, hbl, k0, k1, k2, k3, hsz⟩ := (unhide HA).2 i (by omega)
      have hvf' : va = some ⟨b, o, none⟩ := by
        simp only [Value.slice.injEq] at hvf
        exact hvf.1
      subst hvf'
      have hget := fgcells_get F i (F[i]'(by omega)) (List.getElem?_eq_getElem (by omega))
      generalize hO : F[i]'(by omega) = op at *
      obtain ⟨kd, bg, fn, dt⟩ := op
      dsimp only at k0 k1 k2 k3 hsz hget
      have c0 := (hb.cell (p := ⟨b, o + i * 4, none⟩) hbl).trans k0
      have c1 := (hb.cell (p := ⟨b, o + i * 4 + 1, none⟩) hbl).trans k1
      have c2 := (hb.cell (p := ⟨b, o + i * 4 + 2, none⟩) hbl).trans k2
      have c3 := (hb.cell (p := ⟨b, o + i * 4 + 3, none⟩) hbl).trans k3
      have C := hide fun v => toFg kd bg fn dt v
      have HGET := hide hget
      have HG' := hide hg'
      have HA' := hide ha'
      clear k0 k1 k2 k3 hvf hO hget hg' ha'
      go_wp2_with fail
      refine (unhide C _).mono ?_
      rintro e w2 ⟨rfl, hb2⟩
      have hg2 := (hb2.block w.heap.size hgl).trans (unhide HG')
      have hB2 := hb.trans (hb2.mono hbs)
      obtain ⟨y0, hy0⟩ : ∃ y, w2.cell? ⟨w.heap.size, i * 4, none⟩ = some y := ⟨cur'[i * 4]'(by omega), by rw [cell_of_row _ _ _ _ _ _ hg2, Array.getElem?_eq_getElem (by omega)]⟩
      obtain ⟨y1, hy1⟩ : ∃ y, w2.cell? ⟨w.heap.size, i * 4 + 1, none⟩ = some y := ⟨cur'[i * 4 + 1]'(by omega), by rw [cell_of_row _ _ _ _ _ _ hg2, Array.getElem?_eq_getElem (by omega)]⟩
      obtain ⟨y2, hy2⟩ : ∃ y, w2.cell? ⟨w.heap.size, i * 4 + 2, none⟩ = some y := ⟨cur'[i * 4 + 2]'(by omega), by rw [cell_of_row _ _ _ _ _ _ hg2, Array.getElem?_eq_getElem (by omega)]⟩
      obtain ⟨y3, hy3⟩ : ∃ y, w2.cell? ⟨w.heap.size, i * 4 + 3, none⟩ = some y := ⟨cur'[i * 4 + 3]'(by omega), by rw [cell_of_row _ _ _ _ _ _ hg2, Array.getElem?_eq_getElem (by omega)]⟩
      have f2 : w2.frozen? ⟨w.heap.size, i * 4 + 2, none⟩ = false := frz hg2 _
      have f3 : w2.frozen? ⟨w.heap.size, i * 4 + 3, none⟩ = false := frz hg2 _
      have f0 : w2.frozen? ⟨w.heap.size, i * 4, none⟩ = false := frz hg2 _
      have f1 : w2.frozen? ⟨w.heap.size, i * 4 + 1, none⟩ = false := frz hg2 _
      have HG2 := hide hg2
      clear hg2 hb2 c0 c1 c2 c3 C
      go_wp2
      go_roundw
      case rel =>
        refine ⟨i + 1, by omega, by go_num, ⟨_, heap_setCell_same _ _ (i * 4 + 3) _ _ _ (heap_setCell_same _ _ (i * 4 + 2) _ _ _ (heap_setCell_same _ _ (i * 4 + 1) _ _ _ (heap_setCell_same _ _ (i * 4) _ _ _ (unhide HG2)))), by simp [hs'], ?_⟩, (((hB2.setCell (p := ⟨w.heap.size, i * 4, none⟩) (Nat.le_refl _) _).setCell (p := ⟨w.heap.size, i * 4 + 1, none⟩) (Nat.le_refl _) _).setCell (p := ⟨w.heap.size, i * 4 + 2, none⟩) (Nat.le_refl _) _).setCell (p := ⟨w.heap.size, i * 4 + 3, none⟩) (Nat.le_refl _) _⟩
        exact set_fourx cur' _ i _ _ _ _ (by omega) (unhide HGET).1 (unhide HGET).2.1 (unhide HGET).2.2.1 (unhide HGET).2.2.2 (unhide HA')
      case measure => simp [intOf]; omega
    · have e : i = n := by omega
      subst e
      have d1 : ¬ ((i : Int) < (i : Int)) := by omega
      have HH := hide (And.intro hg' ha')
      clear hg' ha'
      go_wp2
      go_ret
      refine ⟨_, rfl, Or.inr ⟨w.heap.size, i, cur', by rw [hnn]; rfl, (unhide HH).1, by rw [hnn]; omega, by rw [hnn]; exact (unhide HH).2⟩, ⟨?_, ?_⟩, hb⟩
      · intro q hq
        cases hq
        exact Nat.le_refl _
      · intro ad n c e
        cases e
        exact Nat.le_refl _
set_option maxHeartbeats 4000000 in
theorem toBdC (a1 b1 : Option Addr) (c1 d1 : Nat) (L : List Int) (F : List Fg) (w : World) (l1 : L.length ≤ 1048576) (l2 : F.length ≤ 1048576) (h1 : ArgI w (.slice a1 L.length c1) L) (k1 : ArgG w (.slice b1 F.length d1) F) :
    Calls Try.prog 7 #[.agg #[.slice a1 L.length c1, .slice b1 F.length d1]] w fun r w' => ∃ u1 z1 u2 z2, r = .returned (.agg #[.slice u1 L.length z1, .slice u2 F.length z2]) ∧ HoldsI w' (.slice u1 L.length z1) L ∧ HoldsG w' (.slice u2 F.length z2) F ∧ (∀ g, (Value.slice u1 L.length z1).ownBlock = some g → w.heap.size ≤ g) ∧ ((∀ g, (Value.slice u2 F.length z2).ownBlock = some g → w.heap.size ≤ g) ∧ F.length ≤ z2) ∧ Below w.heap.size w w' := by
  have C := hide fun W (hb : Below w.heap.size w W) => toIs _ L W l1 (h1.below hb)
  have C2 := hide fun W (hb : Below w.heap.size w W) => toFgC _ F W l2 (k1.below hb)
  clear h1 k1
  obtain ⟨n, hn⟩ : ∃ n, L.length = n := ⟨_, rfl⟩
  obtain ⟨m, hm⟩ : ∃ m, F.length = m := ⟨_, rfl⟩
  rw [hn] at C ⊢
  rw [hm] at C2 ⊢
  have q := hide (new3b w (.cells #[.slice a1 n c1, .slice b1 m d1] 25) (.cells #[.slice none 0 0, .slice none 0 0] 30) (.cells #[.slice none 0 0, .slice none 0 0] 30))
  go_enter Try.func7, Try.ntmps7
  go_wp2_with fail
  refine (unhide C _ (unhide q).2.2.2.1).mono ?_
  rintro e w1 ⟨u, rfl, hu, hul, hb1⟩
  obtain ⟨u1, z1, e1⟩ := hu.form
  rw [hn] at e1
  subst e1
  have t1 := toB1 (x := .slice u1 n z1) hb1 hu hul
  obtain ⟨r0, r1⟩ := row2b t1.1
  obtain ⟨o0, o1⟩ := row2b t1.2.2.1
  have p0 := frz t1.2.2.1 0
  have p1 := frz t1.2.2.1 1
  have n1 : ¬ (w.heap.size = w.heap.size + 1) := by omega
  have n2 : ¬ (w.heap.size = w.heap.size + 1 + 1) := by omega
  have n3 : ¬ (w.heap.size + 1 = w.heap.size + 1 + 1) := by omega
  have n4 : ¬ (w.heap.size + 1 + 1 = w.heap.size) := by omega
  have n5 : ¬ (w.heap.size + 1 + 1 = w.heap.size + 1) := by omega
  have HT := hide t1
  clear hu hul hb1 t1 q C
  go_wp2_with fail
  refine (unhide C2 _ (unhide HT).2.2.2.2.2.1).mono ?_
  rintro e w2 ⟨v, rfl, hv, ⟨hvl, hvc⟩, hb2⟩
  obtain ⟨u2, z2, e2⟩ := hv.form
  rw [hm] at e2
  subst e2
  have hcap : m ≤ z2 := hvc _ _ _ rfl
  clear hvc
  have t2 : Hid (w2.heap[w.heap.size + 1]? = some (.cells #[.slice none 0 0, .slice none 0 0] 30) ∧ w2.heap[w.heap.size + 1 + 1]? = some (.cells #[.slice u1 n z1, .slice none 0 0] 30) ∧ HoldsI w2 (.slice u1 n z1) L ∧ HoldsG w2 (.slice u2 m z2) F ∧ (∀ g, (Value.slice u1 n z1).ownBlock = some g → w.heap.size + 3 ≤ g) ∧ (∀ g, (Value.slice u2 m z2).ownBlock = some g → w.heap.size + 3 ≤ g) ∧ Below w.heap.size w w2) := by
    obtain ⟨_, s1, s2, s3, s4, s5, s6⟩ := unhide HT
    have hsz : (w1.setCell ⟨w.heap.size + 1 + 1, 0, none⟩ (.slice u1 n z1)).heap.size = w1.heap.size := World.size_setCell _ _ _
    refine hide ⟨(hb2.block _ (by rw [hsz]; omega)).trans ((heap_setCell_other _ _ _ _ (by show w.heap.size + 1 ≠ w.heap.size + 1 + 1; omega)).trans s1), (hb2.block _ (by rw [hsz]; omega)).trans (heap_setCell_same _ _ 0 _ _ _ s2), s3.below hb2 rfl, hv, s4, fun g hg => ?_, s5.trans (hb2.mono s5.size)⟩
    have := hvl g hg
    rw [hsz] at this
    omega
  clear r0 r1 o0 o1 p0 p1 hv hvl hb2 HT C2
  obtain ⟨r0, r1⟩ := row2b (unhide t2).1
  obtain ⟨o0, o1⟩ := row2b (unhide t2).2.1
  have p0 := frz (unhide t2).2.1 0
  have p1 := frz (unhide t2).2.1 1
  have f0 := frz (unhide t2).1 0
  have f1 := frz (unhide t2).1 1
  go_wp2
  refine bodyPost_ret (v := .agg #[.slice u1 n z1, .slice u2 m z2]) (by simp [results, Try.results7, asAddr, loadB (set2_bd ((heap_setCell_other w2 ⟨w.heap.size + 1 + 1, 1, none⟩ (w.heap.size + 1) (.slice u2 m z2) (by show w.heap.size + 1 ≠ w.heap.size + 1 + 1; omega)).trans (unhide t2).1) (.slice u1 n z1) (.slice u2 m z2))]) rfl ?_
  obtain ⟨_, _, s3, s4, s5, s6, s7⟩ := unhide t2
  refine ⟨u1, z1, u2, z2, rfl, ?_, ?_, fun g hg => by have := s5 g hg; omega, ⟨fun g hg => by have := s6 g hg; omega, hcap⟩, ?_⟩
  · exact ((s3.set (a := ⟨w.heap.size + 1 + 1, 1, none⟩) (fun g hg => by have := s5 g hg; show g ≠ w.heap.size + 1 + 1; omega) _).set (a := ⟨w.heap.size + 1, 0, none⟩) (fun g hg => by have := s5 g hg; show g ≠ w.heap.size + 1; omega) _).set (a := ⟨w.heap.size + 1, 1, none⟩) (fun g hg => by have := s5 g hg; show g ≠ w.heap.size + 1; omega) _
  · exact ((s4.set (a := ⟨w.heap.size + 1 + 1, 1, none⟩) (fun g hg => by have := s6 g hg; show g ≠ w.heap.size + 1 + 1; omega) _).set (a := ⟨w.heap.size + 1, 0, none⟩) (fun g hg => by have := s6 g hg; show g ≠ w.heap.size + 1; omega) _).set (a := ⟨w.heap.size + 1, 1, none⟩) (fun g hg => by have := s6 g hg; show g ≠ w.heap.size + 1; omega) _
  · exact ((s7.setCell (p := ⟨w.heap.size + 1 + 1, 1, none⟩) (by show w.heap.size ≤ w.heap.size + 1 + 1; omega) _).setCell (p := ⟨w.heap.size + 1, 0, none⟩) (by show w.heap.size ≤ w.heap.size + 1; omega) _).setCell (p := ⟨w.heap.size + 1, 1, none⟩) (by show w.heap.size ≤ w.heap.size + 1; omega) _
end Go.Proofs.Ytcanpnbpofdpcaa
