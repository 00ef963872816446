/- The law's word on two ends of a line: the same, where both hold the same. The law's word on two answers that are the same. Plain mathematics of the Lapb law: an answer that is given is right, its lists are short, what is sent is numbered; a frame comes back from its bytes. A row of frames that the call made, at any offset: put behind by another row, cut at its head; no condition but those named. An end of a line under way in its draw: what lies where; each step keeps it; no condition. The draw of an end of a line under way: its rounds and their answers laid in memory, each step kept; no condition. The last steps of an end's draw: what lies where, its texts put behind; no condition. -/
import Derived.Test.YtjgnldkncoighaaLpR
import Derived.Deep.DeepCutAuto
import Derived.Test.YtjgnldkncoighaaLwO
import Derived.Test.YtjgnldkncoighaaLpS
import Derived.Test.YtjgnldkncoighaaNbC
import Derived.Test.YtjgnldkncoighaaLwU
import Derived.Test.YtjgnldkncoighaaLwNx
import Derived.Test.YtjgnldkncoighaaLwP
import Derived.Test.YtjgnldkncoighaaLwH
import Derived.Test.YtjgnldkncoighaaNbD
import Derived.ArgAppend
import Derived.Test.YtjgnldkncoighaaDrawNa
import Derived.Test.YtjgnldkncoighaaLpM
import Derived.Test.YtjgnldkncoighaaLpG
import Derived.Deep.LoopGhost
import Derived.Laws.Tables
namespace Go.Proofs.Ytjgnldkncoighaa
open Go.RowKit
set_option maxHeartbeats 4000000 in
theorem lwLapb (p : Lp) (x1 x2 : Option Addr) (y1 y2 : Nat) (L : List ByteArray) (w : World) (hl : L.length ≤ 1048576) (h1 : HoldsS w (.slice x1 L.length y1) L) (h2 : HoldsS w (.slice x2 L.length y2) L) :
    Calls Try.prog 33 #[.agg (lpC p (.slice x1 L.length y1)), .agg (lpC p (.slice x2 L.length y2))] w fun e w' => e = .returned (.bool true) ∧ Below w.heap.size w w' := by
  have HA := hide fun i (hi : i < L.length) => And.intro (h1.get i hi) (h2.get i hi)
  obtain ⟨wi, vs, va, vr, ak⟩ := p
  obtain ⟨q0, q1, hb0, hs0⟩ := new2l w (.cells #[.int .i64 wi, .int .i64 vs, .int .i64 va, .int .i64 vr, .slice x1 L.length y1, .bool ak] 25) (.cells #[.int .i64 wi, .int .i64 vs, .int .i64 va, .int .i64 vr, .slice x2 L.length y2, .bool ak] 25)
  unfold lpC
  dsimp only
  have HQ := hide (And.intro q0 q1)
  have HB0 := hide hb0
  have HS0 := hide hs0
  clear h1 h2 hb0 q0 q1 hs0
  obtain ⟨n, hL⟩ : ∃ n, L.length = n := ⟨_, rfl⟩
  rw [hL] at hl HQ HB0 HS0 ⊢
  go_enter Try.func33, Try.ntmps33
  go_wp2_with fail
  go_loopw [5] (fun y wr => ∃ (i : Nat), i ≤ n ∧ y = .int .i64 i ∧ Below ((w.alloc (.cells #[.int .i64 wi, .int .i64 vs, .int .i64 va, .int .i64 vr, .slice x1 n y1, .bool ak] 25)).alloc (.cells #[.int .i64 wi, .int .i64 vs, .int .i64 va, .int .i64 vr, .slice x2 n y2, .bool ak] 25)).heap.size ((w.alloc (.cells #[.int .i64 wi, .int .i64 vs, .int .i64 va, .int .i64 vr, .slice x1 n y1, .bool ak] 25)).alloc (.cells #[.int .i64 wi, .int .i64 vs, .int .i64 va, .int .i64 vr, .slice x2 n y2, .bool ak] 25)) wr) (fun y _ => n - (intOf y).toNat)
  case atStart => exact ⟨0, Nat.zero_le _, rfl, Below.refl _ _⟩
  case round =>
    obtain ⟨i, hi, rfl, hb⟩ := hrel
    have k0 := (hb.block w.heap.size (Array.getElem?_eq_some_iff.1 (unhide HQ).1).1).trans (unhide HQ).1
    have k1 := (hb.block (w.heap.size + 1) (Array.getElem?_eq_some_iff.1 (unhide HQ).2).1).trans (unhide HQ).2
    obtain ⟨_, _, _, _, c4, _⟩ := row6l k0
    obtain ⟨_, _, _, _, e4, _⟩ := row6l k1
    have hbw := (unhide HB0).trans (hb.mono (unhide HB0).size)
    by_cases hlt : i < n
    · have d1 : (i : Int) < (n : Int) := by omega
      have d0 : (0 : Int) ≤ (i : Int) := by omega
      obtain ⟨⟨g1, o1, cp1, e1, hg1, m1⟩, g2, o2, cp2, e2, hg2, m2⟩ := unhide HA i (by omega)
      cases e1
      cases e2
      replace m1 := (hbw.cell (p := ⟨g1, o1 + i, none⟩) hg1).trans m1
      replace m2 := (hbw.cell (p := ⟨g2, o2 + i, none⟩) hg2).trans m2
      generalize L[i]'(by omega) = t at *
      have HB := hide hb
      clear hb HA hbw k0 k1
      go_wp2_with fail
      go_quiet (fail)
      go_wp2_with fail
      go_roundw
      case rel => exact ⟨i + 1, by omega, by go_num, (unhide HB).os, (unhide HB).tape, (unhide HB).output, (unhide HB).size, (unhide HB).block⟩
      case measure => simp [intOf]; omega
    · have e : i = n := by omega
      subst e
      have d1 : ¬ ((i : Int) < (i : Int)) := by omega
      have HB := hide hbw
      clear hb hbw k0 k1
      go_wp2
      go_ret
      exact ⟨rfl, unhide HB⟩
end Go.Proofs.Ytjgnldkncoighaa
namespace Go.Proofs.Ytjgnldkncoighaa
open Go.RowKit
/-- How two frames that are the same are compared. -/
def EqNb : Prop := (∀ (k x y : Int) (t : ByteArray) (W : World), (binOp .neq 30 (.agg #[.int .i64 k, .int .i64 x, .int .i64 y, .string t]) (.agg #[.int .i64 k, .int .i64 x, .int .i64 y, .string t])).run Try.prog W = .ok (.bool false) W) ∧
  ∀ (op : BinOp) (a b : Operand) (xs ys : Array Value) (W : World), (eqGuard op 30 a b (.agg xs) (.agg ys)).run Try.prog W = .ok () W
theorem HoldsN.get {w : World} {v : Value} {F : List Nb} (h : HoldsN w v F) (i : Nat) (hi : i < F.length) : ∃ g cp, v = .slice (some ⟨g, 0, none⟩) F.length cp ∧ g < w.heap.size ∧ w.cell? ⟨g, i * 4, none⟩ = some (.int .i64 F[i].kind) ∧ w.cell? ⟨g, i * 4 + 1, none⟩ = some (.int .i64 F[i].ns) ∧ w.cell? ⟨g, i * 4 + 2, none⟩ = some (.int .i64 F[i].nr) ∧ w.cell? ⟨g, i * 4 + 3, none⟩ = some (.string F[i].text) := by
  rcases h with ⟨_, _, _, e⟩ | ⟨g, cp, cur, e, q1, q2, q3⟩
  · rw [e] at hi; exact absurd hi (Nat.not_lt_zero _)
  · have k := nbcells_get F i F[i] (List.getElem?_eq_getElem hi)
    exact ⟨g, cp, e, (Array.getElem?_eq_some_iff.1 q1).1, by rw [cell_of_row _ _ _ _ _ _ q1]; exact (q3 _ (by omega)).trans k.1, by rw [cell_of_row _ _ _ _ _ _ q1]; exact (q3 _ (by omega)).trans k.2.1, by rw [cell_of_row _ _ _ _ _ _ q1]; exact (q3 _ (by omega)).trans k.2.2.1, by rw [cell_of_row _ _ _ _ _ _ q1]; exact (q3 _ (by omega)).trans k.2.2.2⟩
set_option maxHeartbeats 8000000 in
set_option maxRecDepth 100000 in
theorem lwSent_of (o : LO) (x1 x2 x3 x4 x5 x6 : Option Addr) (y1 y2 y3 y4 y5 y6 : Nat) (w : World) (l1 : o.Q.length ≤ 1048576) (l2 : o.sn.length ≤ 1048576) (l3 : o.gt.length ≤ 1048576)
    (h1 : HoldsS w (.slice x1 o.Q.length y1) o.Q) (h2 : HoldsN w (.slice x2 o.sn.length y2) o.sn) (h3 : HoldsS w (.slice x3 o.gt.length y3) o.gt)
    (k1 : HoldsS w (.slice x4 o.Q.length y4) o.Q) (k2 : HoldsN w (.slice x5 o.sn.length y5) o.sn) (k3 : HoldsS w (.slice x6 o.gt.length y6) o.gt) (hok : o.cd = 0 → lpOk o.p o.Q = true) (hEq : EqNb) :
    Calls Try.prog 8 #[.agg (loC o.p (.slice x1 o.Q.length y1) (.slice x2 o.sn.length y2) (.slice x3 o.gt.length y3) o.cd), .agg (loC o.p (.slice x4 o.Q.length y4) (.slice x5 o.sn.length y5) (.slice x6 o.gt.length y6) o.cd)] w fun e w' => e = .returned (.bool true) ∧ Below w.heap.size w w' := by
  have HEQ := hide hEq
  have C1 := hide fun W (hb : Below w.heap.size w W) => lwLapb o.p x1 x4 y1 y4 o.Q W l1 (h1.below hb) (k1.below hb)
  have C2 := hide fun W (hb : Below w.heap.size w W) => sLpRight o.p x1 y1 o.Q W l1 (h1.below hb)
  have HA := hide fun i (hi : i < o.sn.length) => And.intro (h2.get i hi) (k2.get i hi)
  have HG := hide fun i (hi : i < o.gt.length) => And.intro (h3.get i hi) (k3.get i hi)
  obtain ⟨hN0, hN1, hbN, hsN⟩ := new2l w (.cells (loC o.p (.slice x1 o.Q.length y1) (.slice x2 o.sn.length y2) (.slice x3 o.gt.length y3) o.cd) 35) (.cells (loC o.p (.slice x4 o.Q.length y4) (.slice x5 o.sn.length y5) (.slice x6 o.gt.length y6) o.cd) 35)
  obtain ⟨⟨wi, vs, va, vr, ak⟩, Q, F, G, cd⟩ := o
  unfold loC at hN0 hN1 hbN hsN ⊢
  unfold lpC at C1 C2
  dsimp only at *
  have H0 := hide (And.intro hN0 (And.intro hN1 hbN))
  have hne : ¬ (w.heap.size = w.heap.size + 1) := by omega
  clear hN0 hN1 hbN hsN h1 h2 h3 k1 k2 k3 hEq
  generalize hok' : lpOk ⟨wi, vs, va, vr, ak⟩ Q = ok at *
  clear hok'
  generalize Q.length = n1 at *
  obtain ⟨n2, hn2⟩ : ∃ n2, F.length = n2 := ⟨_, rfl⟩
  obtain ⟨n3, hn3⟩ : ∃ n3, G.length = n3 := ⟨_, rfl⟩
  have HA2 : Hid (∀ i, i < n2 → ∃ k x y t, (∃ g cp, Value.slice x2 n2 y2 = .slice (some ⟨g, 0, none⟩) n2 cp ∧ g < w.heap.size ∧ w.cell? ⟨g, i * 4, none⟩ = some (.int .i64 k) ∧ w.cell? ⟨g, i * 4 + 1, none⟩ = some (.int .i64 x) ∧ w.cell? ⟨g, i * 4 + 2, none⟩ = some (.int .i64 y) ∧ w.cell? ⟨g, i * 4 + 3, none⟩ = some (.string t)) ∧ ∃ g cp, Value.slice x5 n2 y5 = .slice (some ⟨g, 0, none⟩) n2 cp ∧ g < w.heap.size ∧ w.cell? ⟨g, i * 4, none⟩ = some (.int .i64 k) ∧ w.cell? ⟨g, i * 4 + 1, none⟩ = some (.int .i64 x) ∧ w.cell? ⟨g, i * 4 + 2, none⟩ = some (.int .i64 y) ∧ w.cell? ⟨g, i * 4 + 3, none⟩ = some (.string t)) := by
    subst hn2
    exact hide fun i hi => ⟨_, _, _, _, unhide HA i hi⟩
  have HG2 : Hid (∀ i, i < n3 → ∃ t, (∃ g o cp, Value.slice x3 n3 y3 = .slice (some ⟨g, o, none⟩) n3 cp ∧ g < w.heap.size ∧ w.cell? ⟨g, o + i, none⟩ = some (.string t)) ∧ ∃ g o cp, Value.slice x6 n3 y6 = .slice (some ⟨g, o, none⟩) n3 cp ∧ g < w.heap.size ∧ w.cell? ⟨g, o + i, none⟩ = some (.string t)) := by
    subst hn3
    exact hide fun i hi => ⟨_, unhide HG i hi⟩
  clear HA HG
  rw [hn2, hn3] at H0 ⊢
  rw [hn2] at l2
  rw [hn3] at l3
  clear hn2 hn3 F G Q
  go_enter Try.func8, Try.ntmps8
  go_upto_region 1 with fail
  go_cut [48] (fun b wx => b = .bool false ∧ wx.heap[w.heap.size]? = some (.cells #[.int .i64 wi, .int .i64 vs, .int .i64 va, .int .i64 vr, .slice x1 n1 y1, .bool ak, .slice x2 n2 y2, .slice x3 n3 y3, .int .i64 cd] 35) ∧ wx.heap[w.heap.size + 1]? = some (.cells #[.int .i64 wi, .int .i64 vs, .int .i64 va, .int .i64 vr, .slice x4 n1 y4, .bool ak, .slice x5 n2 y5, .slice x6 n3 y6, .int .i64 cd] 35) ∧ Below w.heap.size w wx)
  case first =>
    go_wp2_with fail
    refine (unhide C1 _ (unhide H0).2.2).mono ?_
    rintro e w1 ⟨rfl, hb1⟩
    have H1 := hide (And.intro ((hb1.block _ (Array.getElem?_eq_some_iff.1 (unhide H0).1).1).trans (unhide H0).1) (And.intro ((hb1.block _ (Array.getElem?_eq_some_iff.1 (unhide H0).2.1).1).trans (unhide H0).2.1) ((unhide H0).2.2.trans (hb1.mono (unhide H0).2.2.size))))
    obtain ⟨a0, a1, a2, a3, a4, a5, a6, a7, a8⟩ := row9l (unhide H1).1
    obtain ⟨b0, b1, b2, b3, b4, b5, b6, b7, b8⟩ := row9l (unhide H1).2.1
    clear hb1 H0 C1
    by_cases hc : cd = 0
    · have ho := hok hc
      subst hc
      subst ho
      go_wp2_with fail
      refine (unhide C2 _ (unhide H1).2.2).mono ?_
      rintro e w2 ⟨rfl, hb1⟩
      have H2 := hide (And.intro ((hb1.block _ (Array.getElem?_eq_some_iff.1 (unhide H1).1).1).trans (unhide H1).1) (And.intro ((hb1.block _ (Array.getElem?_eq_some_iff.1 (unhide H1).2.1).1).trans (unhide H1).2.1) ((unhide H1).2.2.trans (hb1.mono (unhide H1).2.2.size))))
      go_wp2_with fail
      go_meet
      exact ⟨rfl, unhide H2⟩
    · have hcc : (cd == 0) = false := beq_eq_false_iff_ne.2 hc
      go_wp2_with fail
      go_meet
      exact ⟨rfl, unhide H1⟩
  case rest =>
    obtain ⟨rfl, hq⟩ := hcut
    have H1 := hide hq
    clear hq H0 C1 C2
    go_upto_region 4 with fail
    go_loopw [5] (fun y wr => ∃ (i : Nat), i ≤ n2 ∧ y = .int .i64 i ∧ wr.heap[w.heap.size]? = some (.cells #[.int .i64 wi, .int .i64 vs, .int .i64 va, .int .i64 vr, .slice x1 n1 y1, .bool ak, .slice x2 n2 y2, .slice x3 n3 y3, .int .i64 cd] 35) ∧ wr.heap[w.heap.size + 1]? = some (.cells #[.int .i64 wi, .int .i64 vs, .int .i64 va, .int .i64 vr, .slice x4 n1 y4, .bool ak, .slice x5 n2 y5, .slice x6 n3 y6, .int .i64 cd] 35) ∧ Below w.heap.size w wr) (fun y _ => n2 - (intOf y).toNat)
    case atStart => exact ⟨0, Nat.zero_le _, rfl, unhide H1⟩
    case round =>
      obtain ⟨i, hi, rfl, hw1, hw2, hbw⟩ := hrel
      clear H1
      obtain ⟨a0, a1, a2, a3, a4, a5, a6, a7, a8⟩ := row9l hw1
      obtain ⟨b0, b1, b2, b3, b4, b5, b6, b7, b8⟩ := row9l hw2
      have HB := hide (And.intro hw1 (And.intro hw2 hbw))
      by_cases hlt : i < n2
      · have d1 : (i : Int) < (n2 : Int) := by omega
        have d0 : (0 : Int) ≤ (i : Int) := by omega
        obtain ⟨k, x, y, t, ⟨g1, cp1, e1, hg1, m0, m1, m2, m3⟩, g2, cp2, e2, hg2, p0, p1, p2, p3⟩ := unhide HA2 i hlt
        cases e1
        cases e2
        replace m0 := (hbw.cell (p := ⟨g1, i * 4, none⟩) hg1).trans m0
        replace m1 := (hbw.cell (p := ⟨g1, i * 4 + 1, none⟩) hg1).trans m1
        replace m2 := (hbw.cell (p := ⟨g1, i * 4 + 2, none⟩) hg1).trans m2
        replace m3 := (hbw.cell (p := ⟨g1, i * 4 + 3, none⟩) hg1).trans m3
        replace p0 := (hbw.cell (p := ⟨g2, i * 4, none⟩) hg2).trans p0
        replace p1 := (hbw.cell (p := ⟨g2, i * 4 + 1, none⟩) hg2).trans p1
        replace p2 := (hbw.cell (p := ⟨g2, i * 4 + 2, none⟩) hg2).trans p2
        replace p3 := (hbw.cell (p := ⟨g2, i * 4 + 3, none⟩) hg2).trans p3
        have hE1 := (unhide HEQ).1 k x y t
        have hE2 := fun a b xs ys W => (unhide HEQ).2 .neq a b xs ys W
        clear HA2 HG2 hw1 hw2 hbw
        go_wp2_with fail
        go_quiet (fail)
        go_wp2_with fail
        go_roundw
        case rel => exact ⟨i + 1, by omega, by go_num, (unhide HB).1, (unhide HB).2.1, (unhide HB).2.2.os, (unhide HB).2.2.tape, (unhide HB).2.2.output, (unhide HB).2.2.size, (unhide HB).2.2.block⟩
        case measure => simp [intOf]; omega
      · have e : i = n2 := by omega
        subst e
        have d1 : ¬ ((i : Int) < (i : Int)) := by omega
        clear hw1 hw2 hbw
        go_upto_region 9 with fail
        clear a0 a1 a2 a3 a4 a5 a6 a7 a8 b0 b1 b2 b3 b4 b5 b6 b7 b8
        go_loopw [6] (fun y wr => ∃ (j : Nat), j ≤ n3 ∧ y = .int .i64 j ∧ wr.heap[w.heap.size]? = some (.cells #[.int .i64 wi, .int .i64 vs, .int .i64 va, .int .i64 vr, .slice x1 n1 y1, .bool ak, .slice x2 i y2, .slice x3 n3 y3, .int .i64 cd] 35) ∧ wr.heap[w.heap.size + 1]? = some (.cells #[.int .i64 wi, .int .i64 vs, .int .i64 va, .int .i64 vr, .slice x4 n1 y4, .bool ak, .slice x5 i y5, .slice x6 n3 y6, .int .i64 cd] 35) ∧ Below w.heap.size w wr) (fun y _ => n3 - (intOf y).toNat)
        case atStart => exact ⟨0, Nat.zero_le _, rfl, unhide HB⟩
        case round =>
          obtain ⟨j, hj, rfl, hw1, hw2, hbw⟩ := hrel
          clear HB
          obtain ⟨a0, a1, a2, a3, a4, a5, a6, a7, a8⟩ := row9l hw1
          obtain ⟨b0, b1, b2, b3, b4, b5, b6, b7, b8⟩ := row9l hw2
          have HB := hide (And.intro hw1 (And.intro hw2 hbw))
          by_cases hlt : j < n3
          · have d1 : (j : Int) < (n3 : Int) := by omega
            have d0 : (0 : Int) ≤ (j : Int) := by omega
            obtain ⟨t, ⟨g1, o1, cp1, e1, hg1, m0⟩, g2, o2, cp2, e2, hg2, p0⟩ := unhide HG2 j hlt
            cases e1
            cases e2
            replace m0 := (hbw.cell (p := ⟨g1, o1 + j, none⟩) hg1).trans m0
            replace p0 := (hbw.cell (p := ⟨g2, o2 + j, none⟩) hg2).trans p0
            clear HA2 HG2 hw1 hw2 hbw
            go_wp2_with fail
            go_quiet (fail)
            go_wp2_with fail
            go_roundw
            case rel => exact ⟨j + 1, by omega, by go_num, (unhide HB).1, (unhide HB).2.1, (unhide HB).2.2.os, (unhide HB).2.2.tape, (unhide HB).2.2.output, (unhide HB).2.2.size, (unhide HB).2.2.block⟩
            case measure => simp [intOf]; omega
          · have e : j = n3 := by omega
            subst e
            have d1 : ¬ ((j : Int) < (j : Int)) := by omega
            clear hw1 hw2 hbw
            go_wp2
            go_ret
            exact ⟨rfl, (unhide HB).2.2⟩
end Go.Proofs.Ytjgnldkncoighaa
namespace Go.Proofs.Ytjgnldkncoighaa
open Go.RowKit
theorem lpOk_of {p : Lp} {L : List ByteArray} (h : LpRt p L) : lpOk p L = true := by
  unfold lpOk qOk winOk numOk
  simp only [Bool.and_eq_true, decide_eq_true_eq, List.all_eq_true]
  exact ⟨h.wi, h.vs, h.va, h.vr, ⟨h.l20, h.z⟩, h.fw, h.fl⟩
/-- An answer of short lists; right, where it is no fault. -/
structure Fine (o : LO) : Prop where
  q : o.Q.length ≤ 20
  s : o.sn.length ≤ 7
  g : o.gt.length ≤ 1
  ok : o.cd = 0 → lpOk o.p o.Q = true
theorem fine_err (k : Int) (hk : k ≠ 0) : Fine (loErr k) := ⟨Nat.zero_le _, Nat.zero_le _, Nat.zero_le _, fun h => absurd h hk⟩
theorem fine_put (p : Lp) (L : List ByteArray) (t : ByteArray) : Fine (putLF p L t) := by
  unfold putLF
  split
  · exact fine_err _ (by decide)
  · split
    · rename_i h
      split
      · exact fine_err _ (by decide)
      · rename_i h20
        have r := lpRt h.1
        have l := r.l20
        refine ⟨by simp; omega, Nat.zero_le _, Nat.zero_le _, fun _ => lpOk_of ⟨r.wi, r.vs, r.va, r.vr, by simp; omega, fun x hx => ?_, r.fw, ?_⟩⟩
        · rcases List.mem_append.1 hx with hx | hx
          · exact r.z x hx
          · rw [List.mem_singleton.1 hx]; exact h.2
        · have := r.fl
          rw [List.length_append]
          simp
          omega
    · exact fine_err _ (by decide)
theorem fine_again (p : Lp) (L : List ByteArray) : Fine (againF p L) := by
  unfold againF
  split
  · rename_i h
    have r := lpRt h
    have e : far p.va p.va = 0 := by unfold far; omega
    exact ⟨r.l20, Nat.zero_le _, Nat.zero_le _, fun _ => lpOk_of ⟨r.wi, r.va, r.va, r.vr, r.l20, r.z, by show far p.va p.va ≤ p.wi; have := r.wi; omega, by show far p.va p.va ≤ (L.length : Int); omega⟩⟩
  · exact fine_err _ (by decide)
theorem nextM_le {p : Lp} {L : List ByteArray} (r : LpRt p L) : nextM p L ≤ 7 := by
  have := r.wi
  unfold nextM
  omega
theorem fine_next (p : Lp) (L : List ByteArray) : Fine (nextF p L) := by
  unfold nextF
  split
  · rename_i h
    have r := lpRt h
    have hm := nextM_le r
    have hk := sentN_eq (p := p)
    have h1 := r.fw
    have h2 := r.fl
    have h3 := r.wi
    have h4 := r.vs
    have h5 := r.va
    have hf : far ((p.vs + (nextM p L : Nat)) % 8) p.va = far p.vs p.va + nextM p L := by
      unfold nextM
      unfold far at *
      omega
    refine ⟨r.l20, by rw [outs_len]; exact hm, Nat.zero_le _, fun _ => lpOk_of ⟨r.wi, by dsimp only; omega, r.va, r.vr, r.l20, r.z, ?_, ?_⟩⟩
    · dsimp only
      rw [hf]
      unfold nextM
      omega
    · dsimp only
      rw [hf]
      unfold nextM
      omega
  · exact fine_err _ (by decide)
theorem next_sent (p : Lp) (L : List ByteArray) (i : Nat) (hi : i < (nextF p L).sn.length) : ((nextF p L).sn[i]).ns = (p.vs + (i : Int)) % 8 ∧ i ≤ 6 ∧ 0 ≤ p.vs ∧ p.vs ≤ 7 := by
  by_cases h : lpOk p L = true
  · have r := lpRt h
    have hm := nextM_le r
    have e : (nextF p L).sn = outs p.vs p.vr (L.drop (sentN p)) (nextM p L) := by unfold nextF; rw [if_pos h]
    have hi' : i < nextM p L := by rw [e, outs_len] at hi; exact hi
    refine ⟨?_, by omega, r.vs⟩
    simp only [e]
    simp [outs]
  · have e : (nextF p L).sn = [] := by unfold nextF; rw [if_neg h]; rfl
    rw [e] at hi
    exact absurd hi (Nat.not_lt_zero _)
theorem fine_hear (p : Lp) (L : List ByteArray) (f : Nb) : Fine (hearLF p L f) := by
  unfold hearLF
  split
  · rename_i h
    split
    · exact fine_err _ (by decide)
    · rename_i hfar
      have r := lpRt h.1
      have hn := of_decide_eq_true h.2
      have hl := r.l20
      have h1 := r.fw
      have h2 := r.fl
      have h3 := r.wi
      have h4 := r.vs
      have h5 := r.va
      have h6 := r.vr
      have hd : (L.drop (far f.nr p.va).toNat).length = L.length - (far f.nr p.va).toNat := List.length_drop
      have hz : ∀ t ∈ L.drop (far f.nr p.va).toNat, t.size ≤ 200 := fun t ht => r.z t (List.mem_of_mem_drop ht)
      have hq : (L.drop (far f.nr p.va).toNat).length ≤ 20 := by omega
      have f0 : far f.nr f.nr = 0 := by unfold far; omega
      have f1 : far p.vs f.nr = far p.vs p.va - far f.nr p.va := by unfold far at *; omega
      have f2 : 0 ≤ far f.nr p.va := by unfold far; omega
      have f3 : 0 ≤ far p.vs f.nr := by unfold far; omega
      have hr : ∀ (vr : Int) (ak : Bool), 0 ≤ vr ∧ vr ≤ 7 → lpOk ⟨p.wi, p.vs, f.nr, vr, ak⟩ (L.drop (far f.nr p.va).toNat) = true := fun vr ak hv =>
        lpOk_of ⟨h3, h4, hn.1, hv, hq, hz, by show far p.vs f.nr ≤ p.wi; omega, by show far p.vs f.nr ≤ ((L.drop (far f.nr p.va).toNat).length : Int); omega⟩
      unfold hearG
      split
      · exact ⟨hq, Nat.zero_le _, Nat.zero_le _, fun _ => lpOk_of ⟨h3, hn.1, hn.1, h6, hq, hz, by show far f.nr f.nr ≤ p.wi; omega, by show far f.nr f.nr ≤ ((L.drop (far f.nr p.va).toNat).length : Int); omega⟩⟩
      · split
        · unfold takeP
          dsimp only
          split
          · exact ⟨hq, by simp, by simp, fun _ => hr _ _ (by omega)⟩
          · split
            · exact ⟨hq, by simp, by simp, fun _ => hr _ _ h6⟩
            · exact ⟨hq, by simp, by simp, fun _ => hr _ _ h6⟩
        · exact ⟨hq, Nat.zero_le _, Nat.zero_le _, fun _ => hr _ _ h6⟩
  · exact fine_err _ (by decide)
theorem read_told {f : Nb} (h : nbOk f = true) : nbRead (nbTold f) = f := by
  obtain ⟨a, ha, hnr, hk⟩ := nb_three h
  have e : (nbTold f).data.toList = nbByte f :: f.text.data.toList := by rw [told_yes h]; simp [txt]
  have et : txt f.text.data.toList = f.text := by apply ByteArray.ext; simp [txt]
  have es : nbSay (nbByte f) f.text = f := by
    obtain ⟨kd, ns, nr, t⟩ := f
    dsimp only at *
    unfold nbSay
    rcases hk with ⟨b, hb, rfl, rfl, _, hc⟩ | ⟨rfl, rfl, rfl, hc⟩ | ⟨rfl, rfl, rfl, hc⟩
    · rw [if_neg (by omega), if_neg (by omega), if_pos (by omega)]
      rw [show ((nbByte ⟨1, (b : Int), nr, t⟩).toNat % 32 / 2 : Nat) = b by omega, show ((nbByte ⟨1, (b : Int), nr, t⟩).toNat / 32 : Nat) = a by omega, hnr]
    · rw [if_pos (by omega), show ((nbByte ⟨2, 0, nr, ⟨#[]⟩⟩).toNat / 32 : Nat) = a by omega, hnr]
    · rw [if_neg (by omega), if_pos (by omega), show ((nbByte ⟨3, 0, nr, ⟨#[]⟩⟩).toNat / 32 : Nat) = a by omega, hnr]
  unfold nbRead
  rw [e]
  dsimp only
  rw [et, es, if_pos h]
theorem told_size (f : Nb) : (nbTold f).size ≤ 201 := by
  cases h : nbOk f
  · rw [told_no h]; exact Nat.zero_le _
  · obtain ⟨a, ha, hnr, hk⟩ := nb_three h
    have e : (nbTold f).size = f.text.size + 1 := by
      rw [told_yes h, ByteArray.size_append, txt_size]
      simp
      omega
    rcases hk with ⟨b, hb, _, _, h2, _⟩ | ⟨_, _, h2, _⟩ | ⟨_, _, h2, _⟩
    · omega
    · rw [e, h2]; decide
    · rw [e, h2]; decide
end Go.Proofs.Ytjgnldkncoighaa
namespace Go.Proofs.Ytjgnldkncoighaa
open Go.RowKit
theorem heap_setCells {g : Nat} {T : TypeId} : ∀ (vs : List Value) (o : Nat) (w : World) (cur : Array Value), w.heap[g]? = some (.cells cur T) → ∃ cur', (w.setCells g o vs).heap[g]? = some (.cells cur' T) ∧ cur'.size = cur.size ∧ (∀ j, j < o ∨ o + vs.length ≤ j → cur'[j]? = cur[j]?) ∧ (o + vs.length ≤ cur.size → ∀ j, j < vs.length → cur'[o + j]? = vs[j]?)
  | [], o, w, cur, h => ⟨cur, h, rfl, fun _ _ => rfl, fun _ j hj => absurd hj (Nat.not_lt_zero _)⟩
  | v :: vs, o, w, cur, h => by
    obtain ⟨c', h1, h2, h3, h4⟩ := heap_setCells vs (o + 1) (w.setCell ⟨g, o, none⟩ v) _ (heap_setCell_same w g o _ _ v h)
    refine ⟨c', h1, by rw [h2]; simp, fun j hj => ?_, fun hs j hj => ?_⟩
    · rw [List.length_cons] at hj
      rw [h3 j (by omega), Array.getElem?_setIfInBounds, if_neg (by omega)]
    · rw [List.length_cons] at hs hj
      cases j with
      | zero => rw [Nat.add_zero, h3 o (by omega), Array.getElem?_setIfInBounds, if_pos rfl, if_pos (by omega)]; rfl
      | succ j => rw [show o + (j + 1) = o + 1 + j by omega, h4 (by simp; omega) j (by omega)]; rfl
theorem grown_setCells {g : Nat} : ∀ (vs : List Value) (o : Nat) (w : World), w.grownBy (w.setCells g o vs) (some g)
  | [], _, w => ⟨rfl, rfl, rfl, Nat.le_refl _, fun _ _ _ => rfl⟩
  | v :: vs, o, w => by
    have k := grown_setCells (g := g) vs (o + 1) (w.setCell ⟨g, o, none⟩ v)
    have hb := (Below.refl 0 w).setCell (p := ⟨g, o, none⟩) (Nat.zero_le _) v
    have hs : (w.setCell ⟨g, o, none⟩ v).heap.size = w.heap.size := by simp [World.setCell]
    exact ⟨k.os.trans hb.os, k.tape.trans hb.tape, k.output.trans hb.output, by have := k.size; rw [hs] at this; exact this, fun i hi hne => (k.block i (by omega) hne).trans (heap_setCell_other _ _ _ _ (fun e => hne (by rw [e])))⟩
/-- A row of frames that the call made, wherever in its block. -/
def HoldsB (w : World) (base : Nat) (v : Value) (F : List Nb) : Prop :=
  (v = .slice none 0 0 ∧ F = []) ∨ ∃ g o cp cur, v = .slice (some ⟨g, o, none⟩) F.length cp ∧ w.heap[g]? = some (.cells cur 30) ∧ base ≤ g ∧ F.length ≤ cp ∧ o + cp * 4 ≤ cur.size ∧ ∀ j, j < F.length * 4 → cur[o + j]? = (nbcells F)[j]?
theorem HoldsB.own {w : World} {base : Nat} {v : Value} {F : List Nb} (h : w.ownsRow base 30 4 v F.length (nbcells F)) : HoldsB w base v F := by
  rcases h.2 with ⟨h1, h2⟩ | ⟨g, cap, cur, h1, h2, h3, h4, _, h6, h7⟩
  · exact Or.inl ⟨h1, List.eq_nil_of_length_eq_zero h2⟩
  · refine Or.inr ⟨g, 0, cap, cur, h1, h3, h2, h4, by omega, fun j hj => ?_⟩
    rw [← h7, List.getElem?_take, if_pos hj, Array.getElem?_toList, Nat.zero_add]
theorem HoldsB.form {w : World} {base : Nat} {v : Value} {F : List Nb} (h : HoldsB w base v F) : ∃ ad cp, v = .slice ad F.length cp := by
  rcases h with ⟨h1, h2⟩ | ⟨g, o, cp, cur, h1, _⟩
  · exact ⟨none, 0, by rw [h1, h2]; rfl⟩
  · exact ⟨_, _, h1⟩
theorem HoldsB.lower {w : World} {b b' : Nat} {v : Value} {F : List Nb} (h : HoldsB w b v F) (hb : b' ≤ b) : HoldsB w b' v F :=
  h.imp id fun ⟨g, o, cp, cur, h1, h2, h3, h4⟩ => ⟨g, o, cp, cur, h1, h2, by omega, h4⟩
theorem HoldsB.keep {w w' : World} {b : Nat} {v : Value} {F : List Nb} (h : HoldsB w b v F) (hw : ∀ g cur, v.ownBlock = some g → b ≤ g → w.heap[g]? = some (.cells cur 30) → w'.heap[g]? = w.heap[g]?) : HoldsB w' b v F :=
  h.imp id fun ⟨g, o, cp, cur, h1, h2, h3, h4⟩ => ⟨g, o, cp, cur, h1, (hw g cur (by rw [h1]; rfl) h3 h2).trans h2, h3, h4⟩
theorem HoldsB.get {w : World} {base : Nat} {v : Value} {F : List Nb} (h : HoldsB w base v F) (i : Nat) (hi : i < F.length) : ∃ g o cp, v = .slice (some ⟨g, o, none⟩) F.length cp ∧ base ≤ g ∧ g < w.heap.size ∧ w.cell? ⟨g, o + i * 4, none⟩ = some (.int .i64 F[i].kind) ∧ w.cell? ⟨g, o + i * 4 + 1, none⟩ = some (.int .i64 F[i].ns) ∧ w.cell? ⟨g, o + i * 4 + 2, none⟩ = some (.int .i64 F[i].nr) ∧ w.cell? ⟨g, o + i * 4 + 3, none⟩ = some (.string F[i].text) := by
  rcases h with ⟨_, e⟩ | ⟨g, o, cp, cur, e, q1, hb, _, _, q3⟩
  · rw [e] at hi; exact absurd hi (Nat.not_lt_zero _)
  · have k := nbcells_get F i F[i] (List.getElem?_eq_getElem hi)
    exact ⟨g, o, cp, e, hb, (Array.getElem?_eq_some_iff.1 q1).1, by rw [cell_of_row _ _ _ _ _ _ q1]; exact (q3 _ (by omega)).trans k.1, by rw [cell_of_row _ _ _ _ _ _ q1, Nat.add_assoc]; exact (q3 _ (by omega)).trans k.2.1, by rw [cell_of_row _ _ _ _ _ _ q1, Nat.add_assoc]; exact (q3 _ (by omega)).trans k.2.2.1, by rw [cell_of_row _ _ _ _ _ _ q1, Nat.add_assoc]; exact (q3 _ (by omega)).trans k.2.2.2⟩
theorem nbcells_one (F : List Nb) : ∀ u ∈ nbcells F, u.oneCell' = true := by
  intro u hu
  induction F with
  | nil => cases hu
  | cons f F ih =>
    rw [show f :: F = [f] ++ F from rfl, nbcells_append] at hu
    rcases List.mem_append.1 hu with hu | hu
    · simp [nbcells] at hu
      rcases hu with rfl | rfl | rfl | rfl <;> rfl
    · exact ih hu
theorem run_append_b {W : World} {base : Nat} {v s : Value} {F G : List Nb} (ty : TypeId) (hq : HoldsB W base v F) (hs : HoldsN W s G) (hF : F.length ≤ 2000000) (hG : G.length ≤ 2000000) (hbase : base ≤ W.heap.size) :
    ∃ v' W', (Builtin.append_ #[33, 33] ty #[v, s]).run Try.prog W = .ok v' W' ∧ HoldsB W' base v' (F ++ G) ∧ W.grownBy W' v.ownBlock ∧ ∀ k, v'.ownBlock = some k → v.ownBlock = some k ∨ W.heap.size ≤ k := by
  obtain ⟨i, hi, hz, hsz, hby⟩ := nbinfo
  have key : ∀ (a : Addr) (cp : Nat), s = .slice (some a) G.length cp → (∀ j u, (nbcells G)[j]? = some u → W.cell? (a.add j) = some u) →
      ∃ v' W', (Builtin.append_ #[33, 33] ty #[v, s]).run Try.prog W = .ok v' W' ∧ HoldsB W' base v' (F ++ G) ∧ W.grownBy W' v.ownBlock ∧ ∀ k, v'.ownBlock = some k → v.ownBlock = some k ∨ W.heap.size ≤ k := by
    rintro a cs rfl hn
    rcases hq with ⟨rfl, rfl⟩ | ⟨g, o, cp, cur, rfl, h2, h3, h4, h5, h6⟩
    · obtain ⟨v', W', h1, h2, h3, _⟩ := run_append_own (P := Try.prog) W W.heap.size 33 ty 30 i _ 4 40 Try.underlying33 hi hz hsz hby rfl (by decide) (.slice none 0 0) 0 [] (World.ownsRow_nil _ _ _ _) a G.length cs (nbcells G) (by rw [nbcells_len]) hn (nbcells_one G)
        (by unfold maxLen; omega) (by omega) (Nat.le_refl _)
      rw [Nat.zero_add] at h2
      refine ⟨v', W', h1, (HoldsB.own (F := [] ++ G) (base := W.heap.size) ?_).lower hbase, h3, fun k hk => Or.inr (h2.lt k hk).1⟩
      rw [List.nil_append] at h2 ⊢
      exact h2
    · by_cases hr : F.length + G.length ≤ cp
      · have hcell : ∀ j, j < (nbcells G).length → (W.cell? ⟨g, o + F.length * i.size + j, none⟩).isSome = true ∧ W.frozen? ⟨g, o + F.length * i.size + j, none⟩ = false := by
          intro j hj
          rw [nbcells_len] at hj
          rw [hsz, cell_of_row _ _ _ _ _ _ h2, Array.getElem?_eq_getElem (by omega)]
          exact ⟨rfl, frz h2 _⟩
        have hrun := run_append_room_cells (P := Try.prog) W 33 ty 30 i Try.underlying33 hi g o F.length cp a G.length cs (nbcells G) (by rw [hsz, nbcells_len]) hn (nbcells_one G) hr (fun j hj => (hcell j hj).1) (fun j hj => (hcell j hj).2)
        rw [hsz] at hrun
        obtain ⟨c', k1, k2, k3, k4⟩ := heap_setCells (nbcells G) (o + F.length * 4) W cur h2
        refine ⟨_, _, hrun, Or.inr ⟨g, o, cp, c', by rw [List.length_append], k1, h3, by rw [List.length_append]; exact hr, by rw [k2]; exact h5, fun j hj => ?_⟩, grown_setCells _ _ _, fun k hk => Or.inl hk⟩
        rw [List.length_append] at hj
        rw [nbcells_append]
        by_cases e : j < F.length * 4
        · rw [k3 _ (by omega), h6 j e, List.getElem?_append_left (by rw [nbcells_len]; exact e)]
        · rw [List.getElem?_append_right (by rw [nbcells_len]; omega), nbcells_len, ← k4 (by rw [nbcells_len]; omega) (j - F.length * 4) (by rw [nbcells_len]; omega)]
          congr 1
          omega
      · obtain ⟨v', W', h1, r1, r2⟩ := run_append_arg_grows (P := Try.prog) W 33 ty 30 i _ 4 40 Try.underlying33 hi hz hsz hby rfl (by decide) ⟨g, o, none⟩ F.length cp (nbcells F) (by rw [nbcells_len]) (fun j u hu => by
            have hj : j < F.length * 4 := by have := (List.getElem?_eq_some_iff.1 hu).1; rw [nbcells_len] at this; exact this
            rw [Addr.add_lit, cell_of_row _ _ _ _ _ _ h2, h6 j hj]
            exact hu) a G.length cs (nbcells G) (by rw [nbcells_len]) hn (by omega) (by unfold maxLen; omega) (by omega)
        refine ⟨v', W', h1, (HoldsB.own (F := F ++ G) (base := W.heap.size) ?_).lower hbase, ⟨r2.os, r2.tape, r2.output, r2.size, fun k hk _ => r2.block k hk (by simp)⟩, fun k hk => Or.inr (r1.lt k hk).1⟩
        rw [List.length_append, nbcells_append]
        exact r1
  rcases hs with ⟨ad, cs, rfl, rfl⟩ | ⟨g, cs, cur, rfl, hg, _, hg3⟩
  · cases ad with
    | some a => exact key a cs rfl (fun j u h => by cases h)
    | none =>
      refine ⟨v, W, ?_, by rw [List.append_nil]; exact hq, ⟨rfl, rfl, rfl, Nat.le_refl _, fun _ _ _ => rfl⟩, fun k hk => Or.inl hk⟩
      rcases hq with ⟨rfl, _⟩ | ⟨g, o, cap, cur, rfl, _, _, hnc, _⟩
      · simp [Builtin.append_, run_underlying Try.underlying33, sizeOf, typeInfo, hi, Builtin.lenOf, Builtin.firstCells]
      · simp [Builtin.append_, run_underlying Try.underlying33, sizeOf, typeInfo, hi, Builtin.lenOf, Builtin.firstCells, hnc, storeCells]
  · refine key ⟨g, 0, none⟩ cs rfl (fun j u h => ?_)
    have hj : j < G.length * 4 := by have := (List.getElem?_eq_some_iff.1 h).1; rw [nbcells_len] at this; exact this
    rw [Addr.add_lit, Nat.zero_add, cell_of_row _ _ _ _ _ _ hg, hg3 j hj]
    exact h
theorem append_b {w : World} {ops : Array Oper} {rest : List Oper} {o : Oper} {a : Act} {Q : Exit → Act → World → Prop} (hgd : o.guard = none) (s x : Operand)
    (ho : o.op = .call { callee := .builtin .append, args := #[s, x], argTypes := #[33, 33] }) (base : Nat) (v sv : Value) (F G : List Nb) (hs : a.eval s = v) (hx : a.eval x = sv)
    (hown : HoldsB w base v F) (hsv : HoldsN w sv G) (hF : F.length ≤ 2000000) (hG : G.length ≤ 2000000) (hbase : base ≤ w.heap.size)
    (h : ∀ v' w', HoldsB w' base v' (F ++ G) → w.grownBy w' v.ownBlock → (∀ k, v'.ownBlock = some k → v.ownBlock = some k ∨ w.heap.size ≤ k) → wpList Try.prog ops Q rest (a.put o.dst v') w') : wpList Try.prog ops Q (o :: rest) a w := by
  refine wpList_plain hgd fun K hK => ?_
  obtain ⟨v', w', hr, h2, h3, h4⟩ := run_append_b (W := w) o.type hown hsv hF hG hbase
  unfold Oper.wp execOp
  simp only [ho, resolve, invoke, builtin, Sem.run_bind, Sem.run_pure, Result.andThen_ok, List.map_toArray, List.map_cons, List.map_nil, hs, hx, hr]
  exact hK _ _ (h v' w' h2 h3 h4)
/-- A row without its head. -/
theorem HoldsB.tail {w : World} {base g o cp : Nat} {f : Nb} {F : List Nb} (h : HoldsB w base (.slice (some ⟨g, o, none⟩) (F.length + 1) cp) (f :: F)) : HoldsB w base (.slice (some ⟨g, o + 4, none⟩) F.length (cp - 1)) F ∧ (F = [] → HoldsB w base (.slice (some ⟨g, o, none⟩) 0 (cp - 1)) []) := by
  rcases h with ⟨h1, _⟩ | ⟨g', o', cp', cur, h1, h2, h3, h4, h5, h6⟩
  · cases h1
  · rw [List.length_cons] at h1 h4 h6
    cases h1
    refine ⟨Or.inr ⟨g, o + 4, cp - 1, cur, rfl, h2, h3, by omega, by omega, fun j hj => ?_⟩, fun _ => Or.inr ⟨g, o, cp - 1, cur, rfl, h2, h3, Nat.zero_le _, by omega, fun j hj => by simp at hj⟩⟩
    rw [show o + 4 + j = o + (4 + j) by omega, h6 (4 + j) (by omega), show f :: F = [f] ++ F from rfl, nbcells_append, List.getElem?_append_right (by rw [nbcells_len]; simp)]
    congr 1
    rw [nbcells_len]
    simp
end Go.Proofs.Ytjgnldkncoighaa
namespace Go.Proofs.Ytjgnldkncoighaa
open Go.RowKit
/-- The draw of an end under way: the answers' places, both ends, the frame, what comes back, the drawer. -/
structure Lst (w W : World) (B : Nat) (sl : Value) (n ab bb fb : Nat) (back : Value) (pa pb : Lp) (va vb : Value) (La Lb : List ByteArray) (f : Nb) (Bk : List Nb) : Prop where
  ra : W.heap[w.heap.size]? = some (.cells #[.int .i64 0, .int .i64 0, .int .i64 0, .int .i64 0, .slice none 0 0, .bool false] 25)
  rf : W.heap[w.heap.size + 1]? = some (.cells #[.int .i64 0, .int .i64 0, .int .i64 0, .string ⟨#[]⟩] 30)
  a : W.heap[ab]? = some (.cells (lpC pa va) 25)
  b : W.heap[bb]? = some (.cells (lpC pb vb) 25)
  f : W.heap[fb]? = some (.cells #[.int .i64 f.kind, .int .i64 f.ns, .int .i64 f.nr, .string f.text] 30)
  ha : HoldsR W va La
  la : La.length ≤ 20
  hb : HoldsS W vb Lb
  lb : Lb.length ≤ 20
  k : HoldsB W (fb + 1) back Bk
  s : Src W B sl n
  g : Nigh B w W
  oa : ∀ q, va.ownBlock = some q → w.heap.size ≤ q
/-- Where they lie. -/
structure Lay8 (w : World) (B ab bb fb : Nat) : Prop where
  B : B < w.heap.size
  a : w.heap.size + 1 < ab
  b : ab < bb
  f : bb < fb
theorem holdsS_other {W W' : World} {v : Value} {L : List ByteArray} {E : Nat} {cs : Array Value} {T : TypeId} (h : HoldsS W v L) (hE : W.heap[E]? = some (.cells cs T)) (hT : T ≠ 9) (hb : ∀ g, g < W.heap.size → g ≠ E → W'.heap[g]? = W.heap[g]?) : HoldsS W' v L :=
  h.other fun g cur _ hg => hb g (Array.getElem?_eq_some_iff.1 hg).1 fun e => by
    subst e
    rw [hE] at hg
    cases hg
    exact hT rfl
theorem holdsR_other {W W' : World} {v : Value} {L : List ByteArray} {E : Nat} {cs : Array Value} {T : TypeId} (h : HoldsR W v L) (hE : W.heap[E]? = some (.cells cs T)) (hT : T ≠ 9) (hb : ∀ g, g < W.heap.size → g ≠ E → W'.heap[g]? = W.heap[g]?) : HoldsR W' v L :=
  h.other fun g cur _ hg => hb g (Array.getElem?_eq_some_iff.1 hg).1 fun e => by
    subst e
    rw [hE] at hg
    cases hg
    exact hT rfl
theorem Src.cells {w : World} {B : Nat} {sl : Value} {n : Nat} (h : Src w B sl n) : ∃ cs, w.heap[B]? = some (.cells cs 73) := by
  obtain ⟨p, m, z, _, _, _, h4⟩ := h
  exact ⟨_, h4⟩
section
variable {w W W' : World} {B : Nat} {sl : Value} {n ab bb fb : Nat} {back : Value} {pa pb : Lp} {va vb : Value} {La Lb : List ByteArray} {f : Nb} {Bk : List Nb}
theorem Lst.step (h : Lst w W B sl n ab bb fb back pa pb va vb La Lb f Bk) (l : Lay8 w B ab bb fb) (hn : Nigh B W W') (hs : Src W' B sl n) : Lst w W' B sl n ab bb fb back pa pb va vb La Lb f Bk := by
  obtain ⟨cs, hc⟩ := h.s.cells
  have l1 := l.B
  have l2 := l.a
  have l3 := l.b
  have l4 := l.f
  have o : ∀ {E : Nat} {x : Obj}, W.heap[E]? = some x → E ≠ B → W'.heap[E]? = some x := fun hx hne => (hn.block _ (Array.getElem?_eq_some_iff.1 hx).1 hne).trans hx
  exact ⟨o h.ra (by omega), o h.rf (by omega), o h.a (by omega), o h.b (by omega), o h.f (by omega), holdsR_other h.ha hc (by decide) hn.block, h.la, holdsS_other h.hb hc (by decide) hn.block, h.lb, h.k.keep (fun g cur _ hg hx => hn.block g (Array.getElem?_eq_some_iff.1 hx).1 (by omega)), hs, h.g.trans hn, h.oa⟩
/-- A store into one of the struct variables: what is left to say is that variable. -/
theorem Lst.putA (h : Lst w W B sl n ab bb fb back pa pb va vb La Lb f Bk) (l : Lay8 w B ab bb fb) (ht : Touch ab W W') {p : Lp} {v : Value} {L : List ByteArray} (hc : W'.heap[ab]? = some (.cells (lpC p v) 25)) (hv : HoldsR W v L) (hl : L.length ≤ 20) (ho : ∀ q, v.ownBlock = some q → w.heap.size ≤ q) : Lst w W' B sl n ab bb fb back p pb v vb L Lb f Bk := by
  have l1 := l.B
  have l2 := l.a
  have l3 := l.b
  have l4 := l.f
  have o : ∀ {E : Nat} {x : Obj}, W.heap[E]? = some x → E ≠ ab → W'.heap[E]? = some x := fun hx hne => (ht.block _ hne).trans hx
  exact ⟨o h.ra (by omega), o h.rf (by omega), hc, o h.b (by omega), o h.f (by omega), holdsR_other hv h.a (by decide) (fun g _ hne => ht.block g hne), hl, holdsS_other h.hb h.a (by decide) (fun g _ hne => ht.block g hne), h.lb, h.k.keep (fun g cur _ hg hx => ht.block g (by omega)), h.s.same (ht.block B (by omega)), ⟨ht.os.trans h.g.os, ht.tape.trans h.g.tape, ht.output.trans h.g.output, by rw [ht.size]; exact h.g.size, fun g hg hne => (ht.block g (by omega)).trans (h.g.block g hg hne)⟩, ho⟩
theorem Lst.putB (h : Lst w W B sl n ab bb fb back pa pb va vb La Lb f Bk) (l : Lay8 w B ab bb fb) (ht : Touch bb W W') {p : Lp} {v : Value} {L : List ByteArray} (hc : W'.heap[bb]? = some (.cells (lpC p v) 25)) (hv : HoldsS W v L) (hl : L.length ≤ 20) : Lst w W' B sl n ab bb fb back pa p va v La L f Bk := by
  have l1 := l.B
  have l2 := l.a
  have l3 := l.b
  have l4 := l.f
  have o : ∀ {E : Nat} {x : Obj}, W.heap[E]? = some x → E ≠ bb → W'.heap[E]? = some x := fun hx hne => (ht.block _ hne).trans hx
  exact ⟨o h.ra (by omega), o h.rf (by omega), o h.a (by omega), hc, o h.f (by omega), holdsR_other h.ha h.b (by decide) (fun g _ hne => ht.block g hne), h.la, holdsS_other hv h.b (by decide) (fun g _ hne => ht.block g hne), hl, h.k.keep (fun g cur _ hg hx => ht.block g (by omega)), h.s.same (ht.block B (by omega)), ⟨ht.os.trans h.g.os, ht.tape.trans h.g.tape, ht.output.trans h.g.output, by rw [ht.size]; exact h.g.size, fun g hg hne => (ht.block g (by omega)).trans (h.g.block g hg hne)⟩, h.oa⟩
theorem Lst.putF (h : Lst w W B sl n ab bb fb back pa pb va vb La Lb f Bk) (l : Lay8 w B ab bb fb) (ht : Touch fb W W') {f' : Nb} (hc : W'.heap[fb]? = some (.cells #[.int .i64 f'.kind, .int .i64 f'.ns, .int .i64 f'.nr, .string f'.text] 30)) : Lst w W' B sl n ab bb fb back pa pb va vb La Lb f' Bk := by
  have l1 := l.B
  have l2 := l.a
  have l3 := l.b
  have l4 := l.f
  have o : ∀ {E : Nat} {x : Obj}, W.heap[E]? = some x → E ≠ fb → W'.heap[E]? = some x := fun hx hne => (ht.block _ hne).trans hx
  exact ⟨o h.ra (by omega), o h.rf (by omega), o h.a (by omega), o h.b (by omega), hc, holdsR_other h.ha h.f (by decide) (fun g _ hne => ht.block g hne), h.la, holdsS_other h.hb h.f (by decide) (fun g _ hne => ht.block g hne), h.lb, h.k.keep (fun g cur _ hg hx => ht.block g (by omega)), h.s.same (ht.block B (by omega)), ⟨ht.os.trans h.g.os, ht.tape.trans h.g.tape, ht.output.trans h.g.output, by rw [ht.size]; exact h.g.size, fun g hg hne => (ht.block g (by omega)).trans (h.g.block g hg hne)⟩, h.oa⟩
/-- A store into a new block that is none of these. -/
theorem Lst.putX (h : Lst w W B sl n ab bb fb back pa pb va vb La Lb f Bk) (l : Lay8 w B ab bb fb) {X : Nat} (ht : Touch X W W') (hX : fb < X) {cs : Array Value} {T : TypeId} (hc : W.heap[X]? = some (.cells cs T)) (h1 : T ≠ 9) (h2 : T ≠ 30) : Lst w W' B sl n ab bb fb back pa pb va vb La Lb f Bk := by
  have l1 := l.B
  have l2 := l.a
  have l3 := l.b
  have l4 := l.f
  have o : ∀ {E : Nat} {x : Obj}, W.heap[E]? = some x → E ≠ X → W'.heap[E]? = some x := fun hx hne => (ht.block _ hne).trans hx
  exact ⟨o h.ra (by omega), o h.rf (by omega), o h.a (by omega), o h.b (by omega), o h.f (by omega), holdsR_other h.ha hc h1 (fun g _ hne => ht.block g hne), h.la, holdsS_other h.hb hc h1 (fun g _ hne => ht.block g hne), h.lb, h.k.keep (fun g cur _ hg hx => ht.block g (fun e => by subst e; rw [hc] at hx; cases hx; exact h2 rfl)), h.s.same (ht.block B (by omega)), ⟨ht.os.trans h.g.os, ht.tape.trans h.g.tape, ht.output.trans h.g.output, by rw [ht.size]; exact h.g.size, fun g hg hne => (ht.block g (by omega)).trans (h.g.block g hg hne)⟩, h.oa⟩
/-- What comes back, put behind. -/
theorem Lst.more (h : Lst w W B sl n ab bb fb back pa pb va vb La Lb f Bk) (l : Lay8 w B ab bb fb) {v' : Value} {Bk' : List Nb} (hk : HoldsB W' (fb + 1) v' Bk') (hg : W.grownBy W' back.ownBlock) : Lst w W' B sl n ab bb fb v' pa pb va vb La Lb f Bk' := by
  have l1 := l.B
  have l2 := l.a
  have l3 := l.b
  have l4 := l.f
  have hbk : ∀ g, back.ownBlock = some g → fb + 1 ≤ g ∧ ∃ cs, W.heap[g]? = some (.cells cs 30) := by
    intro g e
    rcases h.k with ⟨e1, _⟩ | ⟨g', o, cp, cur, e1, q1, q2, _⟩
    · rw [e1] at e; cases e
    · rw [e1] at e; cases e; exact ⟨q2, cur, q1⟩
  have nb : ∀ E, E ≤ fb → some E ≠ back.ownBlock := fun E hE e => by have := (hbk E e.symm).1; omega
  have o : ∀ {E : Nat} {x : Obj}, W.heap[E]? = some x → E ≤ fb → W'.heap[E]? = some x := fun hx hne => (hg.block _ (Array.getElem?_eq_some_iff.1 hx).1 (nb _ hne)).trans hx
  have sx : ∀ (g : Nat) (cur : Array Value), W.heap[g]? = some (Obj.cells cur 9) → W'.heap[g]? = W.heap[g]? := fun g cur hx => hg.block g (Array.getElem?_eq_some_iff.1 hx).1 (fun e => by
    obtain ⟨cs, hc⟩ := (hbk g e.symm).2
    rw [hc] at hx
    cases hx)
  exact ⟨o h.ra (by omega), o h.rf (by omega), o h.a (by omega), o h.b (by omega), o h.f (by omega), h.ha.other (fun g cur _ hx => sx g cur hx), h.la, h.hb.other (fun g cur _ hx => sx g cur hx), h.lb, hk, h.s.same (hg.block B h.s.lt (nb B (by omega))), h.g.grown hg (fun q hq => by have := (hbk q hq).1; omega), h.oa⟩
end
end Go.Proofs.Ytjgnldkncoighaa
namespace Go.Proofs.Ytjgnldkncoighaa
open Go.RowKit
theorem Nigh.of_alloc {B : Nat} {w : World} (o : Obj) : Nigh B w (w.alloc o) := (Nigh.refl _ _).alloc o
/-- The draw's loop: so many rounds are left. -/
def Ls (w : World) (B : Nat) (sl : Value) (n ab bb fb m : Nat) (back : Value) (W : World) : Prop :=
  ∃ pa pb va vb La Lb f Bk, Lst w W B sl n ab bb fb back pa pb va vb La Lb f Bk ∧ Bk.length ≤ m
/-- The round's answer lies at X. -/
def Xs (w : World) (B : Nat) (sl : Value) (n ab bb fb X m : Nat) (back : Value) (W : World) : Prop :=
  ∃ pa pb va vb La Lb f Bk, Lst w W B sl n ab bb fb back pa pb va vb La Lb f Bk ∧ Bk.length ≤ m ∧ ∃ (o : LO) (v vf vg : Value), W.heap[X]? = some (.cells (loC o.p v vf vg o.cd) 35) ∧ HoldsR W v o.Q ∧ HoldsN W vf o.sn ∧ Fine o ∧ (∀ g, vf.ownBlock = some g → back.ownBlock ≠ some g) ∧ ∀ g, v.ownBlock = some g → w.heap.size ≤ g
theorem touch9 {X : Nat} {W : World} (x0 x1 x2 x3 x4 x5 x6 x7 x8 : Value) : Touch X W (((((((((W.setCell ⟨X, 0, none⟩ x0).setCell ⟨X, 1, none⟩ x1).setCell ⟨X, 2, none⟩ x2).setCell ⟨X, 3, none⟩ x3).setCell ⟨X, 4, none⟩ x4).setCell ⟨X, 5, none⟩ x5).setCell ⟨X, 6, none⟩ x6).setCell ⟨X, 7, none⟩ x7).setCell ⟨X, 8, none⟩ x8) :=
  (((((((((Touch.refl X W).setCell 0 x0).setCell 1 x1).setCell 2 x2).setCell 3 x3).setCell 4 x4).setCell 5 x5).setCell 6 x6).setCell 7 x7).setCell 8 x8
theorem touch6 {X : Nat} {W : World} (x0 x1 x2 x3 x4 x5 : Value) : Touch X W ((((((W.setCell ⟨X, 0, none⟩ x0).setCell ⟨X, 1, none⟩ x1).setCell ⟨X, 2, none⟩ x2).setCell ⟨X, 3, none⟩ x3).setCell ⟨X, 4, none⟩ x4).setCell ⟨X, 5, none⟩ x5) :=
  ((((((Touch.refl X W).setCell 0 x0).setCell 1 x1).setCell 2 x2).setCell 3 x3).setCell 4 x4).setCell 5 x5
theorem HoldsB.lt {w : World} {base : Nat} {v : Value} {F : List Nb} (h : HoldsB w base v F) (g : Nat) (hg : v.ownBlock = some g) : base ≤ g ∧ g < w.heap.size := by
  rcases h with ⟨e1, _⟩ | ⟨g', o, cp, cur, e1, q1, q2, _⟩
  · rw [e1] at hg; cases hg
  · rw [e1] at hg; cases hg; exact ⟨q2, (Array.getElem?_eq_some_iff.1 q1).1⟩
theorem Xs.of {w W W1 W2 : World} {B : Nat} {sl : Value} {n ab bb fb X m : Nat} {back : Value} {pa pb : Lp} {va vb : Value} {La Lb : List ByteArray} {f : Nb} {Bk : List Nb} (h : Lst w W B sl n ab bb fb back pa pb va vb La Lb f Bk) (l : Lay8 w B ab bb fb) (hX : fb < X) {cs : Array Value} (hc : W.heap[X]? = some (.cells cs 35)) (hb : Below W.heap.size W W1)
    {o : LO} {v vf vg : Value} (a1 : HoldsR W1 v o.Q) (a2 : HoldsN W1 vf o.sn) (a4 : ∀ g, v.ownBlock = some g → W.heap.size ≤ g) (a5 : ∀ g, vf.ownBlock = some g → W.heap.size ≤ g) (fo : Fine o) (hm : Bk.length ≤ m) (ht : Touch X W1 W2) (h2 : W2.heap[X]? = some (.cells (loC o.p v vf vg o.cd) 35)) : Xs w B sl n ab bb fb X m back W2 := by
  have hc1 : W1.heap[X]? = some (.cells cs 35) := (hb.block X (Array.getElem?_eq_some_iff.1 hc).1).trans hc
  have h1 := h.step l (Nigh.of_below hb) (h.s.same (hb.block B h.s.lt))
  refine ⟨pa, pb, va, vb, La, Lb, f, Bk, h1.putX l ht hX hc1 (by decide) (by decide), hm, o, v, vf, vg, h2, holdsR_other a1 hc1 (by decide) (fun g _ hne => ht.block g hne), a2.other (fun g cur _ hg => ht.block g (fun e => by subst e; rw [hc1] at hg; cases hg)), fo, fun g hg e => ?_, fun g hg => Nat.le_trans h.g.size (a4 g hg)⟩
  have := a5 g hg
  have := (h.k.lt g e).2
  omega
/-- An answer, and what is to be said once it is stored. -/
theorem Xs.ans {w W W1 : World} {B : Nat} {sl : Value} {n ab bb fb X m : Nat} {back : Value} {pa pb : Lp} {va vb : Value} {La Lb : List ByteArray} {f : Nb} {Bk : List Nb} (h : Lst w W B sl n ab bb fb back pa pb va vb La Lb f Bk) (l : Lay8 w B ab bb fb) (hX : fb < X) {cs : Array Value} (hc : W.heap[X]? = some (.cells cs 35)) {o : LO} {e : Ending} (fo : Fine o) (hm : Bk.length ≤ m) (ha : AnsW W o e W1) :
    ∃ (i1 i2 i3 i4 : Int) (b5 : Bool) (s1 : Option Addr) (n1 s2 : Nat) (s3 : Option Addr) (n2 s4 : Nat) (s5 : Option Addr) (n3 s6 : Nat) (oc : Int), e = .returned (.agg #[.int .i64 i1, .int .i64 i2, .int .i64 i3, .int .i64 i4, .slice s1 n1 s2, .bool b5, .slice s3 n2 s4, .slice s5 n3 s6, .int .i64 oc]) ∧
      W1.heap[X]? = some (.cells cs 35) ∧ ∀ W2, Touch X W1 W2 → W2.heap[X]? = some (.cells #[.int .i64 i1, .int .i64 i2, .int .i64 i3, .int .i64 i4, .slice s1 n1 s2, .bool b5, .slice s3 n2 s4, .slice s5 n3 s6, .int .i64 oc] 35) → Xs w B sl n ab bb fb X m back W2 := by
  obtain ⟨v, vf, vg, rfl, k1, k2, k3, k4, k5, k6, hb⟩ := ha
  obtain ⟨s1, s2, rfl⟩ := k1.form
  obtain ⟨s3, s4, rfl⟩ := k2.form
  obtain ⟨s5, s6, rfl⟩ := k3.form
  exact ⟨o.p.wi, o.p.vs, o.p.va, o.p.vr, o.p.ak, s1, _, s2, s3, _, s4, s5, _, s6, o.cd, rfl, (hb.block X (Array.getElem?_eq_some_iff.1 hc).1).trans hc, fun W2 ht h2 => Xs.of h l hX hc hb k1 k2 k4 k5 fo hm ht h2⟩
theorem Xs.init {w W : World} {B : Nat} {sl : Value} {n ab bb fb X m : Nat} {back : Value} {pa pb : Lp} {va vb : Value} {La Lb : List ByteArray} {f : Nb} {Bk : List Nb} (h : Lst w W B sl n ab bb fb back pa pb va vb La Lb f Bk) (hm : Bk.length ≤ m) (hX : W.heap[X]? = some (.cells #[.int .i64 0, .int .i64 0, .int .i64 0, .int .i64 0, .slice none 0 0, .bool false, .slice none 0 0, .slice none 0 0, .int .i64 1] 35)) : Xs w B sl n ab bb fb X m back W :=
  ⟨pa, pb, va, vb, La, Lb, f, Bk, h, hm, loErr 1, .slice none 0 0, .slice none 0 0, .slice none 0 0, hX, holdsR_nil _, holdsN_nil _ _ _, fine_err _ (by decide), (fun g hg => by cases hg), fun g hg => by cases hg⟩
theorem AnsW.undrew {W W1 : World} {o : LO} {e : Ending} (h : AnsW W.drew o e W1) : AnsW W o e W1 := by
  obtain ⟨v, vf, vg, h1, k1, k2, k3, k4, k5, k6, hb⟩ := h
  exact ⟨v, vf, vg, h1, k1, k2, k3, k4, k5, k6, (Below.refl _ _).drew.trans hb⟩
theorem Xs.tail {w W : World} {B : Nat} {sl : Value} {n ab bb fb X m g o l cp : Nat} (h : Xs w B sl n ab bb fb X m (.slice (some ⟨g, o, none⟩) (l + 1) cp) W) : Xs w B sl n ab bb fb X m (.slice (some ⟨g, o + 4, none⟩) l (cp - 1)) W ∧ (l = 0 → Xs w B sl n ab bb fb X m (.slice (some ⟨g, o, none⟩) 0 (cp - 1)) W) := by
  obtain ⟨pa, pb, va, vb, La, Lb, f, Bk, h, hm, a, v, vf, vg, h1, h2, h3, h4, h5⟩ := h
  obtain ⟨_, _, e⟩ := h.k.form
  have el : l + 1 = Bk.length := by injection e
  cases Bk with
  | nil => simp at el
  | cons b Bk =>
    rw [List.length_cons] at el hm
    have el : l = Bk.length := by omega
    subst el
    have ht := h.k.tail
    exact ⟨⟨pa, pb, va, vb, La, Lb, f, Bk, ⟨h.ra, h.rf, h.a, h.b, h.f, h.ha, h.la, h.hb, h.lb, ht.1, h.s, h.g, h.oa⟩, by omega, a, v, vf, vg, h1, h2, h3, h4, h5⟩, fun e0 => ⟨pa, pb, va, vb, La, Lb, f, [], ⟨h.ra, h.rf, h.a, h.b, h.f, h.ha, h.la, h.hb, h.lb, ht.2 (List.eq_nil_of_length_eq_zero e0), h.s, h.g, h.oa⟩, Nat.zero_le _, a, v, vf, vg, h1, h2, h3, h4, h5⟩⟩
theorem infoLpd6 : (Try.prog.info? 25).map (·.size) = some 6 := by kernel_rfl
theorem field_lo (x0 x1 x2 x3 x4 x5 x6 x7 x8 : Value) (W : World) : (Instr.field 35 (.agg #[x0, x1, x2, x3, x4, x5, x6, x7, x8]) 0).run Try.prog W = .ok (.agg #[x0, x1, x2, x3, x4, x5]) W := by
  cases hq : Try.prog.info? 25 with
  | none => have := infoLpd6; rw [hq] at this; cases this
  | some i =>
    have hs : i.size = 6 := by have := infoLpd6; rw [hq] at this; simpa using this
    simp [Instr.field, run_underlying Try.underlying35, part, asAgg, sizeOf, typeInfo, hq, hs]
/-- The draw of an end under way, a round's answer at X not given yet. -/
def Bs (w : World) (B : Nat) (sl : Value) (n ab bb fb X m : Nat) (back : Value) (W : World) : Prop :=
  ∃ pa pb va vb La Lb f Bk, Lst w W B sl n ab bb fb back pa pb va vb La Lb f Bk ∧ Bk.length ≤ m ∧ W.heap[X]? = some (.cells #[.int .i64 0, .int .i64 0, .int .i64 0, .int .i64 0, .slice none 0 0, .bool false, .slice none 0 0, .slice none 0 0, .int .i64 1] 35)
theorem Bs.ans {w W W1 : World} {B : Nat} {sl : Value} {n ab bb fb X m : Nat} {back : Value} {pa pb : Lp} {va vb : Value} {La Lb : List ByteArray} {f : Nb} {Bk : List Nb} (h : Lst w W B sl n ab bb fb back pa pb va vb La Lb f Bk) (l : Lay8 w B ab bb fb) (hX : fb < X) (hc : W.heap[X]? = some (.cells #[.int .i64 0, .int .i64 0, .int .i64 0, .int .i64 0, .slice none 0 0, .bool false, .slice none 0 0, .slice none 0 0, .int .i64 1] 35)) {o : LO} {e : Ending} (fo : Fine o) (hm : Bk.length ≤ m) (ha : AnsW W o e W1) :
    ∃ (i1 i2 i3 i4 : Int) (b5 : Bool) (s1 : Option Addr) (n1 s2 : Nat) (s3 : Option Addr) (n2 s4 : Nat) (s5 : Option Addr) (n3 s6 : Nat) (oc : Int), e = .returned (.agg #[.int .i64 i1, .int .i64 i2, .int .i64 i3, .int .i64 i4, .slice s1 n1 s2, .bool b5, .slice s3 n2 s4, .slice s5 n3 s6, .int .i64 oc]) ∧
      W1.heap[bb]? = some (.cells (lpC pb vb) 25) ∧ (∃ G : List Nb, n2 = G.length ∧ n2 ≤ 7 ∧ HoldsN W1 (.slice s3 n2 s4) G) ∧ Lst w W1 B sl n ab bb fb back pa pb va vb La Lb f Bk ∧ W1.heap[X]? = some (.cells #[.int .i64 0, .int .i64 0, .int .i64 0, .int .i64 0, .slice none 0 0, .bool false, .slice none 0 0, .slice none 0 0, .int .i64 1] 35) ∧ (∀ g, (Value.slice s3 n2 s4).ownBlock = some g → back.ownBlock ≠ some g) ∧
      (∃ L : List ByteArray, n1 = L.length ∧ L.length ≤ 20 ∧ HoldsS W1 (.slice s1 n1 s2) L) ∧
      ∀ W2, Touch bb W1 W2 → W2.heap[bb]? = some (.cells #[.int .i64 i1, .int .i64 i2, .int .i64 i3, .int .i64 i4, .slice s1 n1 s2, .bool b5] 25) → Bs w B sl n ab bb fb X m back W2 := by
  obtain ⟨v, vf, vg, rfl, k1, k2, k3, k4, k5, k6, hb⟩ := ha
  obtain ⟨s1, s2, rfl⟩ := k1.form
  obtain ⟨s3, s4, rfl⟩ := k2.form
  obtain ⟨s5, s6, rfl⟩ := k3.form
  have h1 := h.step l (Nigh.of_below hb) (h.s.same (hb.block B h.s.lt))
  have hc1 := (hb.block X (Array.getElem?_eq_some_iff.1 hc).1).trans hc
  have l4 := l.f
  refine ⟨o.p.wi, o.p.vs, o.p.va, o.p.vr, o.p.ak, s1, _, s2, s3, _, s4, s5, _, s6, o.cd, rfl, h1.b, ⟨o.sn, rfl, fo.s, k2⟩, h1, hc1, fun g hg e => ?_, ⟨o.Q, rfl, fo.q, k1.1⟩, fun W2 ht h2 => ?_⟩
  · have := k5 g hg
    have := (h.k.lt g e).2
    omega
  · exact ⟨pa, o.p, va, _, La, o.Q, f, Bk, h1.putB l ht h2 k1.1 fo.q, hm, (ht.block X (by omega)).trans hc1⟩
theorem Lst.rowA {w W : World} {B : Nat} {sl : Value} {n ab bb fb : Nat} {back : Value} {p1 p2 p3 p4 : Int} {p5 : Bool} {pb : Lp} {va vb : Value} {La Lb : List ByteArray} {f : Nb} {Bk : List Nb} (h : Lst w W B sl n ab bb fb back ⟨p1, p2, p3, p4, p5⟩ pb va vb La Lb f Bk) :
    W.cell? ⟨ab, 0, none⟩ = some (.int .i64 p1) ∧ W.cell? ⟨ab, 1, none⟩ = some (.int .i64 p2) ∧ W.cell? ⟨ab, 2, none⟩ = some (.int .i64 p3) ∧ W.cell? ⟨ab, 3, none⟩ = some (.int .i64 p4) ∧ W.cell? ⟨ab, 4, none⟩ = some va ∧ W.cell? ⟨ab, 5, none⟩ = some (.bool p5) := row6l h.a
theorem Lst.rowB {w W : World} {B : Nat} {sl : Value} {n ab bb fb : Nat} {back : Value} {p1 p2 p3 p4 : Int} {p5 : Bool} {pa : Lp} {va vb : Value} {La Lb : List ByteArray} {f : Nb} {Bk : List Nb} (h : Lst w W B sl n ab bb fb back pa ⟨p1, p2, p3, p4, p5⟩ va vb La Lb f Bk) :
    W.cell? ⟨bb, 0, none⟩ = some (.int .i64 p1) ∧ W.cell? ⟨bb, 1, none⟩ = some (.int .i64 p2) ∧ W.cell? ⟨bb, 2, none⟩ = some (.int .i64 p3) ∧ W.cell? ⟨bb, 3, none⟩ = some (.int .i64 p4) ∧ W.cell? ⟨bb, 4, none⟩ = some vb ∧ W.cell? ⟨bb, 5, none⟩ = some (.bool p5) := row6l h.b
theorem Ls.src {w W : World} {B : Nat} {sl : Value} {n ab bb fb m : Nat} {back : Value} (h : Ls w B sl n ab bb fb m back W) : Src W B sl n := by
  obtain ⟨pa, pb, va, vb, La, Lb, f, Bk, h1, _⟩ := h
  exact h1.s
theorem Ls.nigh {w W : World} {B : Nat} {sl : Value} {n ab bb fb m : Nat} {back : Value} (h : Ls w B sl n ab bb fb m back W) : Nigh B w W := by
  obtain ⟨pa, pb, va, vb, La, Lb, f, Bk, h1, _⟩ := h
  exact h1.g
theorem Ls.step {w W W' : World} {B : Nat} {sl : Value} {n ab bb fb m : Nat} {back : Value} (h : Ls w B sl n ab bb fb m back W) (l : Lay8 w B ab bb fb) (hn : Nigh B W W') (hs : Src W' B sl n) : Ls w B sl n ab bb fb m back W' := by
  obtain ⟨pa, pb, va, vb, La, Lb, f, Bk, h1, h2⟩ := h
  exact ⟨pa, pb, va, vb, La, Lb, f, Bk, h1.step l hn hs, h2⟩
theorem Ls.mono {w W : World} {B : Nat} {sl : Value} {n ab bb fb m m' : Nat} {back : Value} (h : Ls w B sl n ab bb fb m back W) (hm : m ≤ m') : Ls w B sl n ab bb fb m' back W := by
  obtain ⟨pa, pb, va, vb, La, Lb, f, Bk, h1, h2⟩ := h
  exact ⟨pa, pb, va, vb, La, Lb, f, Bk, h1, Nat.le_trans h2 hm⟩
/-- The round's answer taken in: what it sends is heard, one by one. -/
def Ys (w : World) (B : Nat) (sl : Value) (n ab bb fb X m : Nat) (o : LO) (v vf vg : Value) (back : Value) (W : World) : Prop :=
  ∃ pa pb va vb La Lb f Bk, Lst w W B sl n ab bb fb back pa pb va vb La Lb f Bk ∧ Bk.length ≤ m ∧ W.heap[X]? = some (.cells (loC o.p v vf vg o.cd) 35) ∧ HoldsN W vf o.sn ∧ ∀ g, vf.ownBlock = some g → back.ownBlock ≠ some g
section
variable {w W W1 W2 : World} {B : Nat} {sl : Value} {n ab bb fb X m : Nat} {back : Value} {o : LO} {v vf vg : Value}
theorem Ys.ls (h : Ys w B sl n ab bb fb X m o v vf vg back W) : Ls w B sl n ab bb fb m back W := by
  obtain ⟨pa, pb, va, vb, La, Lb, f, Bk, h1, h2, _⟩ := h
  exact ⟨pa, pb, va, vb, La, Lb, f, Bk, h1, h2⟩
theorem Ys.src (h : Ys w B sl n ab bb fb X m o v vf vg back W) : Src W B sl n := h.ls.src
theorem Ys.nigh (h : Ys w B sl n ab bb fb X m o v vf vg back W) : Nigh B w W := h.ls.nigh
theorem Ys.step (h : Ys w B sl n ab bb fb X m o v vf vg back W) (l : Lay8 w B ab bb fb) (hX : fb < X) (hn : Nigh B W W1) (hs : Src W1 B sl n) : Ys w B sl n ab bb fb X m o v vf vg back W1 := by
  obtain ⟨pa, pb, va, vb, La, Lb, f, Bk, h1, h2, h3, h4, h5⟩ := h
  obtain ⟨cs, hc⟩ := h1.s.cells
  have l1 := l.B
  have l2 := l.a
  have l3 := l.b
  have l4 := l.f
  exact ⟨pa, pb, va, vb, La, Lb, f, Bk, h1.step l hn hs, h2, (hn.block X (Array.getElem?_eq_some_iff.1 h3).1 (by omega)).trans h3, h4.other (fun g cur _ hg => hn.block g (Array.getElem?_eq_some_iff.1 hg).1 (fun e => by subst e; rw [hc] at hg; cases hg)), h5⟩
/-- The end becomes what was answered. -/
theorem Xs.ys {p : Lp} {Q : List ByteArray} {sn : List Nb} {gt : List ByteArray} {cd : Int} {pa pb : Lp} {va vb : Value} {La Lb : List ByteArray} {f : Nb} {Bk : List Nb} (h : Lst w W B sl n ab bb fb back pa pb va vb La Lb f Bk) (l : Lay8 w B ab bb fb) (hX : fb < X) (hm : Bk.length ≤ m) (hc : W.heap[X]? = some (.cells (loC p v vf vg cd) 35)) (h1 : HoldsR W v Q) (hq : Q.length ≤ 20) (h2 : HoldsN W vf sn) (h3 : ∀ g, vf.ownBlock = some g → back.ownBlock ≠ some g) (h4 : ∀ g, v.ownBlock = some g → w.heap.size ≤ g)
    (ht : Touch ab W W1) (h5 : W1.heap[ab]? = some (.cells (lpC p v) 25)) : Ys w B sl n ab bb fb X m ⟨p, Q, sn, gt, cd⟩ v vf vg back W1 := by
  have l2 := l.b
  have l3 := l.f
  exact ⟨p, pb, v, vb, Q, Lb, f, Bk, h.putA l ht h5 h1 hq h4, hm, (ht.block X (by omega)).trans hc, h2.other (fun g cur _ hg => ht.block g (fun e => by subst e; rw [h.a] at hg; cases hg)), h3⟩
/-- What a frame is answered with, laid into a new variable. -/
def Yn (w : World) (B : Nat) (sl : Value) (n ab bb fb X m : Nat) (o : LO) (v vf vg : Value) (back : Value) (y : Value) (W : World) : Prop :=
  ∃ (Y : Nat) (o2 : LO) (v2 vf2 vg2 : Value), y = .pointer (some ⟨Y, 0, none⟩) ∧ fb < Y ∧ X ≠ Y ∧ Ys w B sl n ab bb fb X m o v vf vg back W ∧ W.heap[Y]? = some (.cells (loC o2.p v2 vf2 vg2 o2.cd) 35) ∧ HoldsS W v2 o2.Q ∧ HoldsN W vf2 o2.sn ∧ Fine o2 ∧ ∀ g, vf2.ownBlock = some g → back.ownBlock ≠ some g
theorem Yn.of {W0 : World} {Y : Nat} {o2 : LO} {v2 vf2 vg2 : Value} (h : Ys w B sl n ab bb fb X m o v vf vg back W) (l : Lay8 w B ab bb fb) (hX : fb < X) (h0 : Below W.heap.size W W0) (ha : AnsW W0 o2 (.returned (.agg (loC o2.p v2 vf2 vg2 o2.cd))) W1) (fo : Fine o2) (hb : Below W.heap.size W W2) (hk : ∀ g, g ≠ Y → g < W1.heap.size → W2.heap[g]? = W1.heap[g]?) (hY : ∀ cur T, W1.heap[Y]? = some (.cells cur T) → T = 35) (hYl : W.heap.size ≤ Y) (h2 : W2.heap[Y]? = some (.cells (loC o2.p v2 vf2 vg2 o2.cd) 35)) : Yn w B sl n ab bb fb X m o v vf vg back (.pointer (some ⟨Y, 0, none⟩)) W2 := by
  obtain ⟨u, uf, ug, e, k1, k2, k3, k4, k5, k6, k7⟩ := ha
  simp only [loC, Ending.returned.injEq, Value.agg.injEq, Array.mk.injEq, List.cons.injEq, and_true, true_and] at e
  obtain ⟨e1, e2, e3⟩ := e
  subst e1 e2 e3
  obtain ⟨pa, pb, va, vb, La, Lb, f, Bk, hL, _, hc, _⟩ := id h
  have hXW : X < W.heap.size := (Array.getElem?_eq_some_iff.1 hc).1
  have hs0 := h0.size
  refine ⟨Y, o2, _, _, _, rfl, by omega, by omega, h.step l hX (Nigh.of_below hb) (h.src.same (hb.block B h.src.lt)), h2, k1.1.other (fun g cur _ hg => hk g (fun e => ?_) (Array.getElem?_eq_some_iff.1 hg).1), k2.other (fun g cur _ hg => hk g (fun e => ?_) (Array.getElem?_eq_some_iff.1 hg).1), fo, fun g hg e => ?_⟩
  · subst e
    exact absurd (hY _ _ hg) (by decide)
  · subst e
    exact absurd (hY _ _ hg) (by decide)
  · have := k5 g hg
    have := (hL.k.lt g e).2
    omega
/-- The other end becomes what was answered. -/
theorem Ys.putB {p : Lp} {v2 : Value} {Q : List ByteArray} (h : Ys w B sl n ab bb fb X m o v vf vg back W) (l : Lay8 w B ab bb fb) (hX : fb < X) (ht : Touch bb W W1) (h2 : HoldsS W v2 Q) (hq : Q.length ≤ 20) (h3 : W1.heap[bb]? = some (.cells (lpC p v2) 25)) : Ys w B sl n ab bb fb X m o v vf vg back W1 := by
  obtain ⟨pa, pb, va, vb, La, Lb, f, Bk, h1, hm, hc, h4, h5⟩ := h
  have l3 := l.f
  exact ⟨pa, p, va, v2, La, Q, f, Bk, h1.putB l ht h3 h2 hq, hm, (ht.block X (by omega)).trans hc, h4.other (fun g cur _ hg => ht.block g (fun e => by subst e; rw [h1.b] at hg; cases hg)), h5⟩
/-- What it sends comes back. -/
theorem Ys.more {pa pb : Lp} {va vb : Value} {La Lb : List ByteArray} {f : Nb} {Bk G : List Nb} {v' : Value} {m' : Nat} (h1 : Lst w W B sl n ab bb fb back pa pb va vb La Lb f Bk) (l : Lay8 w B ab bb fb) (hX : fb < X) (hm : Bk.length + G.length ≤ m') (hc : W.heap[X]? = some (.cells (loC o.p v vf vg o.cd) 35)) (h4 : HoldsN W vf o.sn) (h5 : ∀ g, vf.ownBlock = some g → back.ownBlock ≠ some g) (hk : HoldsB W1 (fb + 1) v' (Bk ++ G)) (hg : W.grownBy W1 back.ownBlock) (hn : ∀ k, v'.ownBlock = some k → back.ownBlock = some k ∨ W.heap.size ≤ k) (hvf : ∀ g, vf.ownBlock = some g → g < W.heap.size) : Ys w B sl n ab bb fb X m' o v vf vg v' W1 := by
  refine ⟨pa, pb, va, vb, La, Lb, f, Bk ++ G, h1.more l hk hg, by rw [List.length_append]; exact hm, (hg.block X (Array.getElem?_eq_some_iff.1 hc).1 (fun e => ?_)).trans hc, h4.other (fun g cur ho hx => hg.block g (Array.getElem?_eq_some_iff.1 hx).1 (fun e => h5 g ho e.symm)), fun g hg' e => ?_⟩
  · rcases h1.k with ⟨e1, _⟩ | ⟨g', o', cp', cur', e1, r1, _⟩
    · rw [e1] at e; cases e
    · rw [e1] at e
      cases e
      rw [hc] at r1
      cases r1
  · rcases hn g e with e | e
    · exact h5 g hg' e
    · have := hvf g hg'
      omega
end
end Go.Proofs.Ytjgnldkncoighaa
namespace Go.Proofs.Ytjgnldkncoighaa
open Go.RowKit
/-- The draw's answers, the end and the frame as they lie. -/
structure Rst (w W : World) (B : Nat) (sl : Value) (n ab fb : Nat) (p : Lp) (v : Value) (L : List ByteArray) (f : Nb) : Prop where
  ra : W.heap[w.heap.size]? = some (.cells #[.int .i64 0, .int .i64 0, .int .i64 0, .int .i64 0, .slice none 0 0, .bool false] 25)
  rf : W.heap[w.heap.size + 1]? = some (.cells #[.int .i64 0, .int .i64 0, .int .i64 0, .string ⟨#[]⟩] 30)
  a : W.heap[ab]? = some (.cells (lpC p v) 25)
  f : W.heap[fb]? = some (.cells #[.int .i64 f.kind, .int .i64 f.ns, .int .i64 f.nr, .string f.text] 30)
  ha : HoldsR W v L
  s : Src W B sl n
  g : Nigh B w W
  oa : ∀ q, v.ownBlock = some q → w.heap.size ≤ q
theorem HoldsR.q {W : World} {base : Nat} {v : Value} {L : List ByteArray} (h : HoldsR W v L) (ho : ∀ q, v.ownBlock = some q → base ≤ q) : HoldsQ W base v L := by
  rcases h.2 with e | ⟨g, o, n, cp, cur, e, h1, h2, h3⟩
  · subst e
    obtain ⟨_, _, e⟩ := h.form
    have e : 0 = L.length := by injection e
    exact Or.inl ⟨rfl, List.eq_nil_of_length_eq_zero e.symm⟩
  · subst e
    obtain ⟨_, _, e⟩ := h.form
    have e : n = L.length := by injection e
    subst e
    refine Or.inr ⟨g, o, cp, cur, rfl, h1, ho g rfl, h2, h3, fun j hj => ?_⟩
    rcases h.1 with ⟨_, _, _, e⟩ | ⟨g', o', cp', cur', e1, e2, e3⟩
    · rw [e] at hj; exact absurd hj (Nat.not_lt_zero _)
    · cases e1
      rw [h1] at e2
      cases e2
      exact e3 j hj
theorem HoldsQ.r {W : World} {base : Nat} {v : Value} {L : List ByteArray} (h : HoldsQ W base v L) : HoldsR W v L ∧ ∀ q, v.ownBlock = some q → base ≤ q := by
  rcases h with ⟨e1, e2⟩ | ⟨g, o, cp, cur, e, h1, h2, h3, h4, h5⟩
  · subst e1 e2
    exact ⟨holdsR_nil _, fun q hq => by cases hq⟩
  · subst e
    exact ⟨⟨Or.inr ⟨g, o, cp, cur, rfl, h1, h5⟩, Or.inr ⟨g, o, _, cp, cur, rfl, h1, h3, h4⟩⟩, fun q hq => by cases hq; exact h2⟩
theorem Lst.rst {w W : World} {B : Nat} {sl : Value} {n ab bb fb : Nat} {back : Value} {pa pb : Lp} {va vb : Value} {La Lb : List ByteArray} {f : Nb} {Bk : List Nb} (h : Lst w W B sl n ab bb fb back pa pb va vb La Lb f Bk) : Rst w W B sl n ab fb pa va La f := ⟨h.ra, h.rf, h.a, h.f, h.ha, h.s, h.g, h.oa⟩
section
variable {w W W' : World} {B : Nat} {sl : Value} {n ab bb fb : Nat} {p : Lp} {v : Value} {L : List ByteArray} {f : Nb}
theorem Rst.step (h : Rst w W B sl n ab fb p v L f) (l : Lay8 w B ab bb fb) (hn : Nigh B W W') (hs : Src W' B sl n) : Rst w W' B sl n ab fb p v L f := by
  obtain ⟨cs, hc⟩ := h.s.cells
  have l1 := l.B
  have l2 := l.a
  have l3 := l.b
  have l4 := l.f
  have o : ∀ {E : Nat} {x : Obj}, W.heap[E]? = some x → E ≠ B → W'.heap[E]? = some x := fun hx hne => (hn.block _ (Array.getElem?_eq_some_iff.1 hx).1 hne).trans hx
  exact ⟨o h.ra (by omega), o h.rf (by omega), o h.a (by omega), o h.f (by omega), holdsR_other h.ha hc (by decide) hn.block, hs, h.g.trans hn, h.oa⟩
theorem Rst.putF (h : Rst w W B sl n ab fb p v L f) (l : Lay8 w B ab bb fb) (ht : Touch fb W W') {f' : Nb} (hc : W'.heap[fb]? = some (.cells #[.int .i64 f'.kind, .int .i64 f'.ns, .int .i64 f'.nr, .string f'.text] 30)) : Rst w W' B sl n ab fb p v L f' := by
  have l1 := l.B
  have l2 := l.a
  have l3 := l.b
  have l4 := l.f
  have o : ∀ {E : Nat} {x : Obj}, W.heap[E]? = some x → E ≠ fb → W'.heap[E]? = some x := fun hx hne => (ht.block _ hne).trans hx
  exact ⟨o h.ra (by omega), o h.rf (by omega), o h.a (by omega), hc, holdsR_other h.ha h.f (by decide) (fun g _ hne => ht.block g hne), h.s.same (ht.block B (by omega)), ⟨ht.os.trans h.g.os, ht.tape.trans h.g.tape, ht.output.trans h.g.output, by rw [ht.size]; exact h.g.size, fun g hg hne => (ht.block g (by omega)).trans (h.g.block g hg hne)⟩, h.oa⟩
theorem Rst.putA (h : Rst w W B sl n ab fb p v L f) (l : Lay8 w B ab bb fb) (ht : Touch ab W W') {p' : Lp} (hc : W'.heap[ab]? = some (.cells (lpC p' v) 25)) : Rst w W' B sl n ab fb p' v L f := by
  have l1 := l.B
  have l2 := l.a
  have l3 := l.b
  have l4 := l.f
  have o : ∀ {E : Nat} {x : Obj}, W.heap[E]? = some x → E ≠ ab → W'.heap[E]? = some x := fun hx hne => (ht.block _ hne).trans hx
  exact ⟨o h.ra (by omega), o h.rf (by omega), hc, o h.f (by omega), holdsR_other h.ha h.a (by decide) (fun g _ hne => ht.block g hne), h.s.same (ht.block B (by omega)), ⟨ht.os.trans h.g.os, ht.tape.trans h.g.tape, ht.output.trans h.g.output, by rw [ht.size]; exact h.g.size, fun g hg hne => (ht.block g (by omega)).trans (h.g.block g hg hne)⟩, h.oa⟩
/-- A text put behind, and stored. -/
theorem Rst.putQ {W1 : World} {v' : Value} {L' : List ByteArray} (h : Rst w W B sl n ab fb p v L f) (l : Lay8 w B ab bb fb) (hq : HoldsQ W1 w.heap.size v' L') (hg : W.grownBy W1 v.ownBlock) : Rst w (W1.setCell ⟨ab, 4, none⟩ v') B sl n ab fb p v' L' f := by
  have l1 := l.B
  have l2 := l.a
  have l3 := l.b
  have l4 := l.f
  have nT : ∀ (E : Nat) (cur : Array Value) (T : TypeId), W.heap[E]? = some (Obj.cells cur T) → T ≠ 9 → W1.heap[E]? = some (Obj.cells cur T) := fun E cur T hx hT => by
    refine (hg.block E (Array.getElem?_eq_some_iff.1 hx).1 (fun e => ?_)).trans hx
    rcases h.ha.2 with e1 | ⟨g, o, m, cp, cur', e1, e2, _⟩
    · rw [e1] at e; cases e
    · rw [e1] at e
      cases e
      rw [e2] at hx
      cases hx
      exact hT rfl
  have k : ∀ (E : Nat), E ≠ ab → (W1.setCell ⟨ab, 4, none⟩ v').heap[E]? = W1.heap[E]? := fun E hE => heap_setCell_other _ _ _ _ hE
  obtain ⟨cs, hc⟩ := h.s.cells
  have ha1 := nT _ _ _ h.a (by decide)
  obtain ⟨p1, p2, p3, p4, p5⟩ := p
  refine ⟨(k _ (by omega)).trans (nT _ _ _ h.ra (by decide)), (k _ (by omega)).trans (nT _ _ _ h.rf (by decide)), heap_setCell_same _ _ 4 _ _ v' ha1, (k _ (by omega)).trans (nT _ _ _ h.f (by decide)), holdsR_other hq.r.1 ha1 (by decide) (fun g _ hne => k g hne), h.s.same ((k B (by omega)).trans ((nT _ _ _ hc (by decide)).trans hc.symm)), ?_, hq.r.2⟩
  have hn := h.g.grown hg h.oa
  have hb := (Below.refl 0 W1).setCell (p := ⟨ab, 4, none⟩) (Nat.zero_le _) v'
  exact ⟨hb.os.trans hn.os, hb.tape.trans hn.tape, hb.output.trans hn.output, by rw [World.size_setCell]; exact hn.size, fun g hg hne => (k g (by omega)).trans (hn.block g hg hne)⟩
theorem Rst.keepA {W1 : World} (h : Rst w W B sl n ab fb p v L f) (hg : W.grownBy W1 v.ownBlock) : W1.heap[ab]? = some (.cells (lpC p v) 25) := by
  refine (hg.block ab (Array.getElem?_eq_some_iff.1 h.a).1 (fun e => ?_)).trans h.a
  rcases h.ha.2 with e1 | ⟨g, o, m, cp, cur', e1, e2, _⟩
  · rw [e1] at e; cases e
  · rw [e1] at e
    cases e
    have := h.a
    rw [e2] at this
    cases this
theorem Rst.q4 {p1 p2 p3 p4 : Int} {p5 : Bool} (h : W.heap[ab]? = some (.cells (lpC ⟨p1, p2, p3, p4, p5⟩ v) 25)) : W.cell? ⟨ab, 4, none⟩ = some v ∧ W.frozen? ⟨ab, 4, none⟩ = false :=
  ⟨(row6l h).2.2.2.2.1, frz h 4⟩
theorem Rst.alloc (h : Rst w W B sl n ab fb p v L f) (l : Lay8 w B ab bb fb) (o : Obj) : Rst w (W.alloc o) B sl n ab fb p v L f := h.step l (Nigh.of_alloc o) (h.s.same (Below.heap_alloc _ _ _ h.s.lt))
/-- The answers laid. -/
theorem Rst.done {W2 : World} (h : Rst w W B sl n ab fb p v L f) (l : Lay8 w B ab bb fb) (hb : ∀ g, g ≠ w.heap.size → g ≠ w.heap.size + 1 → W2.heap[g]? = W.heap[g]?) (ho : W2.os = W.os) (ht : W2.tape = W.tape) (hp : W2.output = W.output) (hs : W2.heap.size = W.heap.size) : HoldsS W2 v L ∧ Src W2 B sl n ∧ Nigh B w W2 := by
  have l1 := l.B
  refine ⟨h.ha.1.other (fun g cur _ hg => hb g (fun e => ?_) (fun e => ?_)), h.s.same (hb B (by omega) (by omega)), ⟨ho.trans h.g.os, ht.trans h.g.tape, hp.trans h.g.output, by rw [hs]; exact h.g.size, fun g hg hne => (hb g (by omega) (by omega)).trans (h.g.block g hg hne)⟩⟩
  · subst e; rw [h.ra] at hg; cases hg
  · subst e; rw [h.rf] at hg; cases hg
end
def zLo : Array Value := #[.int .i64 0, .int .i64 0, .int .i64 0, .int .i64 0, .slice none 0 0, .bool false, .slice none 0 0, .slice none 0 0, .int .i64 0]
theorem lo_all (p : Lp) (x1 x2 x3 : Option Addr) (n1 n2 n3 y1 y2 y3 : Nat) (cd : Int) : (loC p (.slice x1 n1 y1) (.slice x2 n2 y2) (.slice x3 n3 y3) cd).all (·.oneCell') = true := by
  kernel_rfl
theorem lo_size (p : Lp) (v vf vg : Value) (cd : Int) : (loC p v vf vg cd).size = 9 := rfl
theorem below_setRow {B g : Nat} {w0 w : World} (hb : Below B w0 w) (h : B ≤ g) (cs : Array Value) : Below B w0 (w.setRow g cs) :=
  ⟨hb.os, hb.tape, hb.output, by unfold World.setRow; simp; exact hb.size, fun k hk => (setRow_other w g k cs (by omega)).trans (hb.block k hk)⟩
theorem touch4 {X : Nat} {W : World} (x0 x1 x2 x3 : Value) : Touch X W ((((W.setCell ⟨X, 0, none⟩ x0).setCell ⟨X, 1, none⟩ x1).setCell ⟨X, 2, none⟩ x2).setCell ⟨X, 3, none⟩ x3) :=
  ((((Touch.refl X W).setCell 0 x0).setCell 1 x1).setCell 2 x2).setCell 3 x3
theorem set4_x {W : World} {E : Nat} {z0 z1 z2 z3 : Value} {T : TypeId} (h : W.heap[E]? = some (.cells #[z0, z1, z2, z3] T)) (x0 x1 x2 x3 : Value) : ((((W.setCell ⟨E, 0, none⟩ x0).setCell ⟨E, 1, none⟩ x1).setCell ⟨E, 2, none⟩ x2).setCell ⟨E, 3, none⟩ x3).heap[E]? = some (.cells #[x0, x1, x2, x3] T) := by
  rw [heap_setCell_same _ _ 3 _ _ x3 (heap_setCell_same _ _ 2 _ _ x2 (heap_setCell_same _ _ 1 _ _ x1 (heap_setCell_same _ _ 0 _ _ x0 h)))]
  simp only [List.setIfInBounds_toArray, List.set_cons_zero, List.set_cons_succ]
theorem step_make {ops : Array Oper} {o : Oper} {a : Act} {K : Act → World → Prop} {Q : Exit → Act → World → Prop} {E : Prop} (w : World) (hgd : o.guard = none) (l c : Operand) (hop : o.op = Op.makeSlice 22 l c) (n : Nat) (L : Int) (hl : a.eval l = .int .i64 L) (hc : a.eval c = .int .i64 L) (hL : L = (n : Int)) (hn : n ≤ 1000)
    (h : ∀ w', w'.ownsRow w.heap.size 5 1 (.slice (some ⟨w.heap.size, 0, none⟩) n n) n ((List.replicate n (0 : Int)).map (Value.int .u8)) → w.grownBy w' none → K (a.put o.dst (.slice (some ⟨w.heap.size, 0, none⟩) n n)) w') :
    if Region.wanted o (yielded ops a.tmps) = true then Oper.wp Try.prog o a w K Q else E := by
  have hw : Region.wanted o (yielded ops a.tmps) = true := by simp [Region.wanted, hgd]
  rw [if_pos hw]
  obtain ⟨ui, hi1, hi2, hi3, hi4⟩ := u8info
  obtain ⟨w', hrun, r1, r2⟩ := run_make_full (P := Try.prog) w w.heap.size 22 5 ui (.int .u8 0) 1 Try.underlying22 hi1 hi2 hi3 .i64 .i64 n (by rw [hi4]; omega) (by unfold maxLen; omega) (Nat.le_refl _)
  rw [made_zeroN] at r1
  subst hL
  unfold Oper.wp
  simp [execOp, hop, hl, hc, hrun, Result.andThen]
  exact h w' r1 r2
theorem append_qw {w : World} {ops : Array Oper} {rest : List Oper} {o : Oper} {a : Act} {Q : Exit → Act → World → Prop} (hgd : o.guard = none) (s x : Operand)
    (ho : o.op = .call { callee := .builtin .append, args := #[s, x], argTypes := #[23, 23] }) (base : Nat) (v : Value) (L : List ByteArray) (t : ByteArray) (A : Nat) (hs : a.eval s = v) (hx : a.eval x = .slice (some ⟨A, 0, none⟩) 1 1)
    (hq : HoldsQ w base v L) (hA : w.cell? ⟨A, 0, none⟩ = some (.string t)) (hL : L.length ≤ 1000) (hbase : base ≤ w.heap.size)
    (h : ∀ v' w', HoldsQ w' base v' (L ++ [t]) → w.grownBy w' v.ownBlock → wpList Try.prog ops Q rest (a.put o.dst v') w') : wpList Try.prog ops Q (o :: rest) a w := by
  refine wpList_plain hgd fun K hK => ?_
  obtain ⟨v', w', hr, h2, h3⟩ := run_append_q (W := w) o.type hq hA hL hbase
  unfold Oper.wp execOp
  simp only [ho, resolve, invoke, builtin, Sem.run_bind, Sem.run_pure, Result.andThen_ok, List.map_toArray, List.map_cons, List.map_nil, hs, hx, hr]
  exact hK _ _ (h v' w' h2 h3)
theorem loadLp6 {W : World} {E : Nat} {x0 x1 x2 x3 x4 x5 : Value} (h : W.heap[E]? = some (.cells #[x0, x1, x2, x3, x4, x5] 25)) : (loadVar 25 ⟨E, 0, none⟩).run Try.prog W = .ok (.agg #[x0, x1, x2, x3, x4, x5]) W :=
  run_loadVar_row (P := Try.prog) _ _ 25 25 #[x0, x1, x2, x3, x4, x5] (0, 0) _ h Try.underlying25 rfl infoLpd6
theorem wrapS (n : Int) (h0 : 0 ≤ n) (h : n < 100000) : IntKind.i64.wrap n = n := by
  have e1 : (2 : Int) ^ IntKind.i64.bits = 18446744073709551616 := by decide
  have e2 : (2 : Int) ^ (IntKind.i64.bits - 1) = 9223372036854775808 := by decide
  have hm : n % 18446744073709551616 = n := Int.emod_eq_of_lt h0 (by omega)
  unfold IntKind.wrap
  simp only [e1, e2, hm]
  rw [if_neg]
  simp
  omega
theorem if_so {c : Prop} [Decidable c] {p q : Prop} (hc : c) (hp : p) : if c then p else q := by rw [if_pos hc]; exact hp
end Go.Proofs.Ytjgnldkncoighaa
