/- The law's words on answers: compared, marked, held; what lay in memory stands but for the marked rows. -/
import Derived.Test.YtckebgalfomonaaLwO
import Derived.Test.YtckebgalfomonaaNbM
import Derived.Test.YtckebgalfomonaaLpX
import Derived.Test.YtckebgalfomonaaLpR
namespace Go.Proofs.Ytckebgalfomonaa
open Go.RowKit
set_option maxHeartbeats 1000000 in
theorem eqTS (v1 v2 : Value) (L : List ByteArray) (w : World) (hn : L.length ≤ 2000000) (h1 : HoldsS w v1 L) (h2 : HoldsS w v2 L) :
    Calls Try.prog 28 #[v1, v2] w fun e w' => e = .returned (.bool true) ∧ Below w.heap.size w w' := by
  have HA : Hid (∀ i (hi : i < L.length), (∃ g1 o1, (∃ cp, v1 = .slice (some ⟨g1, o1, none⟩) L.length cp) ∧ g1 < w.heap.size ∧ w.cell? ⟨g1, o1 + i, none⟩ = some (.string L[i])) ∧ ∃ g2 o2, (∃ cp, v2 = .slice (some ⟨g2, o2, none⟩) L.length cp) ∧ g2 < w.heap.size ∧ w.cell? ⟨g2, o2 + i, none⟩ = some (.string L[i])) := by
    refine hide fun i hi => ⟨?_, ?_⟩
    · obtain ⟨g, o, cp, e, hg, hc⟩ := h1.get i hi
      exact ⟨g, o, ⟨cp, e⟩, hg, hc⟩
    · obtain ⟨g, o, cp, e, hg, hc⟩ := h2.get i hi
      exact ⟨g, o, ⟨cp, e⟩, hg, hc⟩
  obtain ⟨a1, c1, rfl⟩ := h1.form
  obtain ⟨a2, c2, rfl⟩ := h2.form
  obtain ⟨n, hL⟩ : ∃ n, L.length = n := ⟨_, rfl⟩
  rw [hL] at hn ⊢
  clear h1 h2
  go_enter Try.func28, Try.ntmps28
  go_wp2_with fail
  go_loopw [5] (fun y wr => ∃ (i : Nat), i ≤ n ∧ y = .int .i64 i ∧ Below w.heap.size w wr) (fun y _ => n - (intOf y).toNat)
  case atStart => exact ⟨0, Nat.zero_le _, rfl, Below.refl _ _⟩
  case round =>
    obtain ⟨i, hi, rfl, hb⟩ := hrel
    by_cases hlt : i < n
    · have d1 : (i : Int) < (n : Int) := by omega
      have d0 : (0 : Int) ≤ (i : Int) := by omega
      obtain ⟨⟨g1, o1, ⟨cp1, e1⟩, hg1, k1⟩, g2, o2, ⟨cp2, e2⟩, hg2, k2⟩ := unhide HA i (by omega)
      cases e1
      cases e2
      replace k1 := (hb.cell (p := ⟨g1, o1 + i, none⟩) hg1).trans k1
      replace k2 := (hb.cell (p := ⟨g2, o2 + i, none⟩) hg2).trans k2
      generalize L[i]'(by omega) = t at *
      have HB := hide hb
      clear hb HA
      go_wp2_with fail
      go_quiet (fail)
      go_wp2_with fail
      go_roundw
      case rel => exact ⟨i + 1, by omega, by go_num, (unhide HB).os, (unhide HB).tape, (unhide HB).output, (unhide HB).size, (unhide HB).block⟩
      case measure => simp [intOf]; omega
    · have e : i = n := by omega
      subst e
      have d1 : ¬ ((i : Int) < (i : Int)) := by omega
      go_wp2
      go_ret
      exact ⟨rfl, hb⟩
set_option maxHeartbeats 2000000 in
theorem eqLpS (p : Lp) (x1 x2 : Option Addr) (y1 y2 : Nat) (L : List ByteArray) (w : World) (hL : L.length ≤ 2000000) (h1 : HoldsS w (.slice x1 L.length y1) L) (h2 : HoldsS w (.slice x2 L.length y2) L) :
    Calls Try.prog 10 #[.agg (lpC p (.slice x1 L.length y1)), .agg (lpC p (.slice x2 L.length y2))] w fun e w' => e = .returned (.bool true) ∧ Below w.heap.size w w' := by
  have C := hide fun W (hb : Below w.heap.size w W) => eqTS _ _ L W hL (h1.below hb) (h2.below hb)
  obtain ⟨wi, vs, va, vr, ak⟩ := p
  obtain ⟨_, _, hb0, _⟩ := new2l w (.cells (lpC ⟨wi, vs, va, vr, ak⟩ (.slice x1 L.length y1)) 24) (.cells (lpC ⟨wi, vs, va, vr, ak⟩ (.slice x2 L.length y2)) 24)
  unfold lpC at hb0 ⊢
  dsimp only at hb0 ⊢
  have hA := hide hb0
  obtain ⟨q0, q1, _, _⟩ := new2l w (.cells #[.int .i64 wi, .int .i64 vs, .int .i64 va, .int .i64 vr, .slice x1 L.length y1, .bool ak] 24) (.cells #[.int .i64 wi, .int .i64 vs, .int .i64 va, .int .i64 vr, .slice x2 L.length y2, .bool ak] 24)
  have HQ := hide (And.intro q0 q1)
  clear h1 h2 hb0 q0 q1
  generalize L.length = n at *
  go_enter Try.func10, Try.ntmps10
  go_wp2_with fail
  refine (unhide C _ (unhide hA)).mono ?_
  rintro e w1 ⟨rfl, hb1⟩
  have k0 := (hb1.block w.heap.size (Array.getElem?_eq_some_iff.1 (unhide HQ).1).1).trans (unhide HQ).1
  have k1 := (hb1.block (w.heap.size + 1) (Array.getElem?_eq_some_iff.1 (unhide HQ).2).1).trans (unhide HQ).2
  obtain ⟨_, _, _, _, _, c5⟩ := row6l k0
  obtain ⟨_, _, _, _, _, e5⟩ := row6l k1
  have HB := hide ((unhide hA).trans (hb1.mono (unhide hA).size))
  clear k0 k1 hb1 hA HQ C
  go_wp2
  go_ret
  exact ⟨rfl, unhide HB⟩
set_option maxHeartbeats 4000000 in
theorem eqLoS (o : LO) (x1 x2 x3 x4 x5 x6 : Option Addr) (y1 y2 y3 y4 y5 y6 : Nat) (w : World) (l1 : o.Q.length ≤ 2000000) (l2 : o.sn.length ≤ 2000000) (l3 : o.gt.length ≤ 2000000)
    (h1 : HoldsS w (.slice x1 o.Q.length y1) o.Q) (h2 : HoldsN w (.slice x2 o.sn.length y2) o.sn) (h3 : HoldsS w (.slice x3 o.gt.length y3) o.gt)
    (k1 : HoldsS w (.slice x4 o.Q.length y4) o.Q) (k2 : HoldsN w (.slice x5 o.sn.length y5) o.sn) (k3 : HoldsS w (.slice x6 o.gt.length y6) o.gt) :
    Calls Try.prog 19 #[.agg (loC o.p (.slice x1 o.Q.length y1) (.slice x2 o.sn.length y2) (.slice x3 o.gt.length y3) o.cd), .agg (loC o.p (.slice x4 o.Q.length y4) (.slice x5 o.sn.length y5) (.slice x6 o.gt.length y6) o.cd)] w fun e w' => e = .returned (.bool true) ∧ Below w.heap.size w w' := by
  have C1 := hide fun W (hb : Below w.heap.size w W) => eqLpS o.p x1 x4 y1 y4 o.Q W l1 (h1.below hb) (k1.below hb)
  have C2 := hide fun W (hb : Below w.heap.size w W) => eqNbS _ _ o.sn W l2 (h2.below hb rfl) (k2.below hb rfl)
  have C3 := hide fun W (hb : Below w.heap.size w W) => eqTS _ _ o.gt W l3 (h3.below hb) (k3.below hb)
  obtain ⟨hN0, hN1, hbN, hsN⟩ := new2l w (.cells (loC o.p (.slice x1 o.Q.length y1) (.slice x2 o.sn.length y2) (.slice x3 o.gt.length y3) o.cd) 36) (.cells (loC o.p (.slice x4 o.Q.length y4) (.slice x5 o.sn.length y5) (.slice x6 o.gt.length y6) o.cd) 36)
  obtain ⟨⟨wi, vs, va, vr, ak⟩, Q, F, G, cd⟩ := o
  unfold loC at hN0 hN1 hbN hsN ⊢
  unfold lpC at C1
  dsimp only at *
  have H0 := hide (And.intro hN0 (And.intro hN1 hbN))
  clear hN0 hN1 hbN hsN h1 h2 h3 k1 k2 k3 l1 l2 l3
  generalize Q.length = n1 at *
  generalize F.length = n2 at *
  generalize G.length = n3 at *
  go_enter Try.func19, Try.ntmps19
  go_wp2_with fail
  refine (unhide C1 _ (unhide H0).2.2).mono ?_
  rintro e w1 ⟨rfl, hb1⟩
  have H1 := hide (And.intro ((hb1.block _ (Array.getElem?_eq_some_iff.1 (unhide H0).1).1).trans (unhide H0).1) (And.intro ((hb1.block _ (Array.getElem?_eq_some_iff.1 (unhide H0).2.1).1).trans (unhide H0).2.1) ((unhide H0).2.2.trans (hb1.mono (unhide H0).2.2.size))))
  obtain ⟨_, _, _, _, _, _, a6, a7, a8⟩ := row9l (unhide H1).1
  obtain ⟨_, _, _, _, _, _, b6, b7, b8⟩ := row9l (unhide H1).2.1
  clear hb1 H0 C1
  go_wp2_with fail
  refine (unhide C2 _ (unhide H1).2.2).mono ?_
  rintro e w2 ⟨rfl, hb1⟩
  have H2 := hide (And.intro ((hb1.block _ (Array.getElem?_eq_some_iff.1 (unhide H1).1).1).trans (unhide H1).1) (And.intro ((hb1.block _ (Array.getElem?_eq_some_iff.1 (unhide H1).2.1).1).trans (unhide H1).2.1) ((unhide H1).2.2.trans (hb1.mono (unhide H1).2.2.size))))
  clear a6 a7 a8 b6 b7 b8
  obtain ⟨_, _, _, _, _, _, a6, a7, a8⟩ := row9l (unhide H2).1
  obtain ⟨_, _, _, _, _, _, b6, b7, b8⟩ := row9l (unhide H2).2.1
  clear hb1 H1 C2
  go_wp2_with fail
  refine (unhide C3 _ (unhide H2).2.2).mono ?_
  rintro e w3 ⟨rfl, hb1⟩
  have H3 := hide (And.intro ((hb1.block _ (Array.getElem?_eq_some_iff.1 (unhide H2).1).1).trans (unhide H2).1) (And.intro ((hb1.block _ (Array.getElem?_eq_some_iff.1 (unhide H2).2.1).1).trans (unhide H2).2.1) ((unhide H2).2.2.trans (hb1.mono (unhide H2).2.2.size))))
  clear a6 a7 a8 b6 b7 b8
  obtain ⟨_, _, _, _, _, _, a6, a7, a8⟩ := row9l (unhide H3).1
  obtain ⟨_, _, _, _, _, _, b6, b7, b8⟩ := row9l (unhide H3).2.1
  clear hb1 H2 C3
  go_wp2
  go_ret
  exact ⟨rfl, (unhide H3).2.2⟩
end Go.Proofs.Ytckebgalfomonaa
