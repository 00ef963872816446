/- The law FnLapb walked: it returns true, and what lay in memory stands. -/
import Derived.Test.YtjgnldkncoighaaDrawLx
import Derived.Test.YtjgnldkncoighaaDrawNa
import Derived.Test.YtjgnldkncoighaaLxE
import Derived.Test.YtjgnldkncoighaaLwH
import Derived.Test.YtjgnldkncoighaaLwU
import Derived.Test.YtjgnldkncoighaaLwNx
import Derived.Test.YtjgnldkncoighaaLwP
import Derived.Test.YtjgnldkncoighaaLpU
import Derived.Test.YtjgnldkncoighaaLpK
import Derived.Test.YtjgnldkncoighaaLpI
import Derived.Test.YtjgnldkncoighaaNbE
import Derived.Deep.DeepCutAuto
import Derived.Deep.LoopGhost
namespace Go.Proofs.Ytjgnldkncoighaa
open Go.RowKit
/-- The rows of an answer. -/
def Hx (o : LO) (x1 x2 x3 : Option Addr) (y1 y2 y3 : Nat) (q : World) : Prop := HoldsS q (.slice x1 o.Q.length y1) o.Q ∧ HoldsN q (.slice x2 o.sn.length y2) o.sn ∧ HoldsS q (.slice x3 o.gt.length y3) o.gt
theorem Hx.step {o : LO} {x1 x2 x3 : Option Addr} {y1 y2 y3 : Nat} {q q' : World} (h : Hx o x1 x2 x3 y1 y2 y3 q) (hb : Below q.heap.size q q') : Hx o x1 x2 x3 y1 y2 y3 q' := ⟨h.1.below hb, h.2.1.below hb rfl, h.2.2.below hb⟩
/-- An answer, its rows laid. -/
def Ax (o : LO) (z : World) (e : Ending) (q : World) : Prop := ∃ x1 x2 x3 y1 y2 y3, e = .returned (.agg (loC o.p (.slice x1 o.Q.length y1) (.slice x2 o.sn.length y2) (.slice x3 o.gt.length y3) o.cd)) ∧ Hx o x1 x2 x3 y1 y2 y3 q ∧ Below z.heap.size z q
theorem AnsL.ax {z q : World} {o : LO} {e : Ending} (h : AnsL z o e q) : Ax o z e q := by
  obtain ⟨v, vf, vg, rfl, o1, o2, o3, _, hb⟩ := h
  obtain ⟨a1, p1, rfl⟩ := own_form o1
  obtain ⟨a2, p2, rfl⟩ := own_form o2
  obtain ⟨a3, p3, rfl⟩ := own_form o3
  exact ⟨a1, a2, a3, p1, p2, p3, rfl, ⟨(HoldsT.own o1).s, HoldsN.own o2, (HoldsT.own o3).s⟩, hb⟩
theorem AnsW.ax {z q : World} {o : LO} {e : Ending} (h : AnsW z o e q) : Ax o z e q := by
  obtain ⟨v, vf, vg, rfl, o1, o2, o3, _, _, _, hb⟩ := h
  obtain ⟨a1, p1, rfl⟩ := o1.form
  obtain ⟨a2, p2, rfl⟩ := o2.form
  obtain ⟨a3, p3, rfl⟩ := o3.form
  exact ⟨a1, a2, a3, p1, p2, p3, rfl, ⟨o1.1, o2, o3⟩, hb⟩
theorem lwSame {o : LO} (fo : Fine o) {x1 x2 x3 x4 x5 x6 : Option Addr} {y1 y2 y3 y4 y5 y6 : Nat} {z : World} (h : Hx o x1 x2 x3 y1 y2 y3 z) (k : Hx o x4 x5 x6 y4 y5 y6 z) :
    Calls Try.prog 8 #[.agg (loC o.p (.slice x1 o.Q.length y1) (.slice x2 o.sn.length y2) (.slice x3 o.gt.length y3) o.cd), .agg (loC o.p (.slice x4 o.Q.length y4) (.slice x5 o.sn.length y5) (.slice x6 o.gt.length y6) o.cd)] z fun e w' => e = .returned (.bool true) ∧ Below z.heap.size z w' :=
  lwSent_of o _ _ _ _ _ _ _ _ _ _ _ _ z (by have := fo.q; omega) (by have := fo.s; omega) (by have := fo.g; omega) h.1 h.2.1 h.2.2 k.1 k.2.1 k.2.2 fo.ok ⟨neqNb, grdNb⟩
/-- What the law has laid. -/
structure Fl (w q : World) (B5 B7 B8 B9 X : Nat) (c5 c7 c8 : Array Value) (v5 v7 v8 : Value) (L5 L7 L8 : List ByteArray) (cf cx : Array Value) (o : LO) (x1 x2 x3 : Option Addr) (y1 y2 y3 : Nat) : Prop where
  b5 : q.heap[B5]? = some (.cells c5 25)
  b7 : q.heap[B7]? = some (.cells c7 25)
  b8 : q.heap[B8]? = some (.cells c8 25)
  b9 : q.heap[B9]? = some (.cells cf 30)
  x : q.heap[X]? = some (.cells cx 35)
  h5 : HoldsS q v5 L5
  h7 : HoldsS q v7 L7
  h8 : HoldsS q v8 L8
  hx : Hx o x1 x2 x3 y1 y2 y3 q
  b : Below w.heap.size w q
theorem Fl.step {w q q' : World} {B5 B7 B8 B9 X : Nat} {c5 c7 c8 : Array Value} {v5 v7 v8 : Value} {L5 L7 L8 : List ByteArray} {cf cx : Array Value} {o : LO} {x1 x2 x3 : Option Addr} {y1 y2 y3 : Nat} (h : Fl w q B5 B7 B8 B9 X c5 c7 c8 v5 v7 v8 L5 L7 L8 cf cx o x1 x2 x3 y1 y2 y3) (hb : Below q.heap.size q q') : Fl w q' B5 B7 B8 B9 X c5 c7 c8 v5 v7 v8 L5 L7 L8 cf cx o x1 x2 x3 y1 y2 y3 := by
  have k : ∀ {E : Nat} {y : Obj}, q.heap[E]? = some y → q'.heap[E]? = some y := fun hx => (hb.block _ (Array.getElem?_eq_some_iff.1 hx).1).trans hx
  exact ⟨k h.b5, k h.b7, k h.b8, k h.b9, k h.x, h.h5.below hb, h.h7.below hb, h.h8.below hb, h.hx.step hb, h.b.trans (hb.mono h.b.size)⟩
set_option linter.unusedSimpArgs false in
set_option maxHeartbeats 64000000 in
set_option maxRecDepth 100000 in
theorem lawLb (w : World) (s1 s2 : Value) (n1 n2 : Nat) (h1 : n1 ≤ maxLen) (h2 : n2 ≤ maxLen) (hD1 : Dat w w.heap.size s1 n1) (hD2 : Dat w w.heap.size s2 n2) (hl1 : n1 ≤ 1048576) (hl2 : n2 ≤ 1048576) :
    Calls Try.prog 3 #[s1, s2] w fun e w' => e = .returned (.bool true) ∧ Below w.heap.size w w' := by
  have T1 : Hid (∀ v, Below w.heap.size w v → Dat v v.heap.size s1 n1) := hide fun v hv => (hD1.below hv).mono hv.size
  have T2 : Hid (∀ v, Below w.heap.size w v → Dat v v.heap.size s2 n2) := hide fun v hv => (hD2.below hv).mono hv.size
  obtain ⟨a1, cap1, rfl⟩ := hD1.1
  obtain ⟨a2, cap2, rfl⟩ := hD2.1
  clear hD1 hD2
  have d1 : ¬ ((1048576 : Int) < (n1 : Int)) := by omega
  have d2 : ¬ ((1048576 : Int) < (n2 : Int)) := by omega
  go_enter Try.func3, Try.ntmps3
  go_wp2_with fail
  refine (drawLp w _ n1 h1 (unhide T1 _ (Below.refl _ _))).mono ?_
  rintro e w1 ⟨p, v, Ll, t, rfl, hh, hLl, ht, hb1⟩
  obtain ⟨lx, ly, ev⟩ := hh.form
  subst ev
  obtain ⟨l1, l2, l3, l4, l5⟩ := p
  unfold lpC
  dsimp only
  have H1 := hide (And.intro hh hb1)
  clear hh hb1
  go_upto_region 4 with fail
  refine gen_world (fun q => q.heap[w1.heap.size]? = some (.cells #[.int .i64 l1, .int .i64 l2, .int .i64 l3, .int .i64 l4, .slice lx Ll.length ly, .bool l5] 25) ∧ HoldsS q (.slice lx Ll.length ly) Ll ∧ Below w.heap.size w q) ⟨heap_alloc_new w1 _, (unhide H1).1.below ((Below.refl _ _).alloc (Nat.le_refl _) _), (unhide H1).2.alloc (unhide H1).2.size _⟩ ?_
  intro q1 hq1
  have H2 := hide hq1
  generalize w1.heap.size = B5 at *
  clear hq1 H1
  go_wp2_with fail
  refine (drawLn q1 _ n2 h2 (unhide T2 _ (unhide H2).2.2)).mono ?_
  rintro e w2 ⟨p, v, Lm, rfl, hh, hLm, hb2⟩
  obtain ⟨mx, my, ev⟩ := hh.form
  subst ev
  obtain ⟨m1, m2, m3, m4, m5⟩ := p
  unfold lpC
  dsimp only
  have H3 := hide (And.intro ((hb2.block _ (Array.getElem?_eq_some_iff.1 (unhide H2).1).1).trans (unhide H2).1) (And.intro ((unhide H2).2.1.below hb2) (And.intro hh ((unhide H2).2.2.trans (hb2.mono (unhide H2).2.2.size)))))
  clear hh hb2 H2
  go_upto_region 5 with fail
  refine gen_world (fun q => q.heap[B5]? = some (.cells #[.int .i64 l1, .int .i64 l2, .int .i64 l3, .int .i64 l4, .slice lx Ll.length ly, .bool l5] 25) ∧ q.heap[w2.heap.size]? = some (.cells #[.int .i64 m1, .int .i64 m2, .int .i64 m3, .int .i64 m4, .slice mx Lm.length my, .bool m5] 25) ∧ HoldsS q (.slice lx Ll.length ly) Ll ∧ HoldsS q (.slice mx Lm.length my) Lm ∧ Below w.heap.size w q) ?_ ?_
  · have hbA := (Below.refl w2.heap.size w2).alloc (Nat.le_refl _) (.cells #[.int .i64 m1, .int .i64 m2, .int .i64 m3, .int .i64 m4, .slice mx Lm.length my, .bool m5] 25)
    exact ⟨(hbA.block _ (Array.getElem?_eq_some_iff.1 (unhide H3).1).1).trans (unhide H3).1, heap_alloc_new w2 _, (unhide H3).2.1.below hbA, (unhide H3).2.2.1.below hbA, (unhide H3).2.2.2.trans (hbA.mono (unhide H3).2.2.2.size)⟩
  intro q2 hq2
  have H4 := hide hq2
  generalize w2.heap.size = B7 at *
  clear hq2 H3
  go_wp2_with fail
  refine (drawLh q2 _ n2 h2 (unhide T2 _ (unhide H4).2.2.2.2)).mono ?_
  rintro e w3 ⟨p, v, Ln, f, rfl, hh, hLn, hb3⟩
  obtain ⟨nx, ny, ev⟩ := hh.form
  subst ev
  obtain ⟨n1', n2', n3, n4, n5⟩ := p
  obtain ⟨f1, f2, f3, f4⟩ := f
  unfold lpC nbV
  dsimp only
  have H5 := hide (And.intro ((hb3.block _ (Array.getElem?_eq_some_iff.1 (unhide H4).1).1).trans (unhide H4).1) (And.intro ((hb3.block _ (Array.getElem?_eq_some_iff.1 (unhide H4).2.1).1).trans (unhide H4).2.1) (And.intro ((unhide H4).2.2.1.below hb3) (And.intro ((unhide H4).2.2.2.1.below hb3) (And.intro hh ((unhide H4).2.2.2.2.trans (hb3.mono (unhide H4).2.2.2.2.size)))))))
  clear hh hb3 H4
  go_upto_region 6 with fail
  refine gen_world (fun q => q.heap[B5]? = some (.cells #[.int .i64 l1, .int .i64 l2, .int .i64 l3, .int .i64 l4, .slice lx Ll.length ly, .bool l5] 25) ∧ q.heap[B7]? = some (.cells #[.int .i64 m1, .int .i64 m2, .int .i64 m3, .int .i64 m4, .slice mx Lm.length my, .bool m5] 25) ∧ HoldsS q (.slice lx Ll.length ly) Ll ∧ HoldsS q (.slice mx Lm.length my) Lm ∧ Below w.heap.size w q ∧ q.heap[w3.heap.size]? = some (.cells #[.int .i64 n1', .int .i64 n2', .int .i64 n3, .int .i64 n4, .slice nx Ln.length ny, .bool n5] 25) ∧ q.heap[w3.heap.size + 1]? = some (.cells #[.int .i64 f1, .int .i64 f2, .int .i64 f3, .string f4] 30) ∧ HoldsS q (.slice nx Ln.length ny) Ln) ?_ ?_
  · obtain ⟨hN0, hN1, hb0, _⟩ := new2l w3 (.cells #[.int .i64 n1', .int .i64 n2', .int .i64 n3, .int .i64 n4, .slice nx Ln.length ny, .bool n5] 25) (.cells #[.int .i64 f1, .int .i64 f2, .int .i64 f3, .string f4] 30)
    exact ⟨(hb0.block _ (Array.getElem?_eq_some_iff.1 (unhide H5).1).1).trans (unhide H5).1, (hb0.block _ (Array.getElem?_eq_some_iff.1 (unhide H5).2.1).1).trans (unhide H5).2.1, (unhide H5).2.2.1.below hb0, (unhide H5).2.2.2.1.below hb0, (unhide H5).2.2.2.2.2.trans (hb0.mono (unhide H5).2.2.2.2.2.size), hN0, hN1, (unhide H5).2.2.2.2.1.below hb0⟩
  intro q3 hq3
  have H6 := hide hq3
  generalize w3.heap.size + 1 = B9 at *
  generalize w3.heap.size = B8 at *
  clear hq3 H5
  obtain ⟨c0, c1, c2, c3, c4, c5⟩ := row6l (unhide H6).2.1
  obtain ⟨o, fo, hsent, hCN, hCM⟩ : ∃ o, Fine o ∧ (∀ (i : Nat) (hi : i < o.sn.length), (o.sn[i]).ns = (m2 + (i : Int)) % 8 ∧ i ≤ 6 ∧ 0 ≤ m2 ∧ m2 ≤ 7) ∧ (∀ z, HoldsS z (.slice mx Lm.length my) Lm → Calls Try.prog 11 #[.agg #[.int .i64 m1, .int .i64 m2, .int .i64 m3, .int .i64 m4, .slice mx Lm.length my, .bool m5]] z fun e q => Ax o z e q) ∧ (∀ z, HoldsS z (.slice mx Lm.length my) Lm → Calls Try.prog 7 #[.agg #[.int .i64 m1, .int .i64 m2, .int .i64 m3, .int .i64 m4, .slice mx Lm.length my, .bool m5]] z fun e q => Ax o z e q) :=
    ⟨nextF ⟨m1, m2, m3, m4, m5⟩ Lm, fine_next _ _, fun i hi => next_sent ⟨m1, m2, m3, m4, m5⟩ Lm i hi, fun z h => (sNextL ⟨m1, m2, m3, m4, m5⟩ mx my Lm z (by omega) h).mono fun e q h => h.ax, fun z h => (iNextL ⟨m1, m2, m3, m4, m5⟩ mx my Lm z (by omega) h).mono fun e q h => h.ax⟩
  have CN := hide hCN
  have CM := hide hCM
  have HSENT := hide hsent
  obtain ⟨oP, fP, hCP, hCQ⟩ : ∃ o, Fine o ∧ (∀ z, HoldsS z (.slice lx Ll.length ly) Ll → Calls Try.prog 9 #[.agg #[.int .i64 l1, .int .i64 l2, .int .i64 l3, .int .i64 l4, .slice lx Ll.length ly, .bool l5], .string t] z fun e q => Ax o z e q) ∧ (∀ z, HoldsS z (.slice lx Ll.length ly) Ll → Calls Try.prog 10 #[.agg #[.int .i64 l1, .int .i64 l2, .int .i64 l3, .int .i64 l4, .slice lx Ll.length ly, .bool l5], .string t] z fun e q => Ax o z e q) :=
    ⟨putLF ⟨l1, l2, l3, l4, l5⟩ Ll t, fine_put _ _ _, fun z h => (iPutL ⟨l1, l2, l3, l4, l5⟩ lx ly Ll t z (by omega) ht h).mono fun e q h => h.ax, fun z h => (sPutL ⟨l1, l2, l3, l4, l5⟩ lx ly Ll t z (by omega) ht h).mono fun e q h => h.ax⟩
  have CP := hide hCP
  have CQ := hide hCQ
  obtain ⟨oA, fA, hCA, hCB⟩ : ∃ o, Fine o ∧ (∀ z, HoldsS z (.slice mx Lm.length my) Lm → Calls Try.prog 12 #[.agg #[.int .i64 m1, .int .i64 m2, .int .i64 m3, .int .i64 m4, .slice mx Lm.length my, .bool m5]] z fun e q => Ax o z e q) ∧ (∀ z, HoldsS z (.slice mx Lm.length my) Lm → Calls Try.prog 13 #[.agg #[.int .i64 m1, .int .i64 m2, .int .i64 m3, .int .i64 m4, .slice mx Lm.length my, .bool m5]] z fun e q => Ax o z e q) :=
    ⟨againF ⟨m1, m2, m3, m4, m5⟩ Lm, fine_again _ _, fun z h => (iAgain ⟨m1, m2, m3, m4, m5⟩ mx my Lm z (by omega) h).mono fun e q h => h.ax, fun z h => (sAgain ⟨m1, m2, m3, m4, m5⟩ mx my Lm z (by omega) h).mono fun e q h => h.ax⟩
  have CA := hide hCA
  have CB := hide hCB
  obtain ⟨oH, fH, hCH, hCI⟩ : ∃ o, Fine o ∧ (∀ z, HoldsS z (.slice nx Ln.length ny) Ln → Calls Try.prog 14 #[.agg #[.int .i64 n1', .int .i64 n2', .int .i64 n3, .int .i64 n4, .slice nx Ln.length ny, .bool n5], .agg #[.int .i64 f1, .int .i64 f2, .int .i64 f3, .string f4]] z fun e q => Ax o z e q) ∧ (∀ z, HoldsS z (.slice nx Ln.length ny) Ln → Calls Try.prog 15 #[.agg #[.int .i64 n1', .int .i64 n2', .int .i64 n3, .int .i64 n4, .slice nx Ln.length ny, .bool n5], .agg #[.int .i64 f1, .int .i64 f2, .int .i64 f3, .string f4]] z fun e q => Ax o z e q) :=
    ⟨hearLF ⟨n1', n2', n3, n4, n5⟩ Ln ⟨f1, f2, f3, f4⟩, fine_hear _ _ _, fun z h => (iHearL ⟨n1', n2', n3, n4, n5⟩ nx ny Ln ⟨f1, f2, f3, f4⟩ z (by omega) h).mono fun e q h => h.ax, fun z h => (sHearL ⟨n1', n2', n3, n4, n5⟩ nx ny Ln ⟨f1, f2, f3, f4⟩ z (by omega) h).mono fun e q h => h.ax⟩
  have CH := hide hCH
  have CI := hide hCI
  have CR : Hid (∀ z, HoldsS z (.slice mx Lm.length my) Lm → Calls Try.prog 22 #[.agg #[.int .i64 m1, .int .i64 m2, .int .i64 m3, .int .i64 m4, .slice mx Lm.length my, .bool m5]] z fun e q => e = .returned (.bool (lpOk ⟨m1, m2, m3, m4, m5⟩ Lm)) ∧ Below z.heap.size z q) := hide fun z h => iLpRight ⟨m1, m2, m3, m4, m5⟩ mx my Lm z (by omega) h
  have CS : Hid (∀ z, HoldsS z (.slice mx Lm.length my) Lm → Calls Try.prog 23 #[.agg #[.int .i64 m1, .int .i64 m2, .int .i64 m3, .int .i64 m4, .slice mx Lm.length my, .bool m5]] z fun e q => e = .returned (.bool (lpOk ⟨m1, m2, m3, m4, m5⟩ Lm)) ∧ Below z.heap.size z q) := hide fun z h => sLpRight ⟨m1, m2, m3, m4, m5⟩ mx my Lm z (by omega) h
  clear hCN hCM hCP hCQ hCA hCB hCH hCI hsent
  go_wp2_with fail
  refine (unhide CM _ (unhide H6).2.2.2.1).mono ?_
  rintro e w4 ⟨x1, x2, x3, y1, y2, y3, rfl, hx, hb4⟩
  unfold loC
  dsimp only
  have H7 : Hid (∀ q, Below w4.heap.size w4 q → q.heap[w4.heap.size]? = some (.cells #[.int .i64 o.p.wi, .int .i64 o.p.vs, .int .i64 o.p.va, .int .i64 o.p.vr, .slice x1 o.Q.length y1, .bool o.p.ak, .slice x2 o.sn.length y2, .slice x3 o.gt.length y3, .int .i64 o.cd] 35) → Fl w q B5 B7 B8 B9 w4.heap.size #[.int .i64 l1, .int .i64 l2, .int .i64 l3, .int .i64 l4, .slice lx Ll.length ly, .bool l5] #[.int .i64 m1, .int .i64 m2, .int .i64 m3, .int .i64 m4, .slice mx Lm.length my, .bool m5] #[.int .i64 n1', .int .i64 n2', .int .i64 n3, .int .i64 n4, .slice nx Ln.length ny, .bool n5] (.slice lx Ll.length ly) (.slice mx Lm.length my) (.slice nx Ln.length ny) Ll Lm Ln #[.int .i64 f1, .int .i64 f2, .int .i64 f3, .string f4] #[.int .i64 o.p.wi, .int .i64 o.p.vs, .int .i64 o.p.va, .int .i64 o.p.vr, .slice x1 o.Q.length y1, .bool o.p.ak, .slice x2 o.sn.length y2, .slice x3 o.gt.length y3, .int .i64 o.cd] o x1 x2 x3 y1 y2 y3) := hide fun q hb hX => by
    have hq := hb4.trans (hb.mono hb4.size)
    have k : ∀ {E : Nat} {y : Obj}, q3.heap[E]? = some y → q.heap[E]? = some y := fun hx => (hq.block _ (Array.getElem?_eq_some_iff.1 hx).1).trans hx
    have h6 := unhide H6
    exact ⟨k h6.1, k h6.2.1, k h6.2.2.2.2.2.1, k h6.2.2.2.2.2.2.1, hX, h6.2.2.1.below hq, h6.2.2.2.1.below hq, h6.2.2.2.2.2.2.2.below hq, hx.step hb, h6.2.2.2.2.1.trans (hq.mono h6.2.2.2.2.1.size)⟩
  clear hx hb4 c0 c1 c2 c3 c4 c5
  go_upto_region 7 with fail
  refine gen_world (fun q => Fl w q B5 B7 B8 B9 w4.heap.size #[.int .i64 l1, .int .i64 l2, .int .i64 l3, .int .i64 l4, .slice lx Ll.length ly, .bool l5] #[.int .i64 m1, .int .i64 m2, .int .i64 m3, .int .i64 m4, .slice mx Lm.length my, .bool m5] #[.int .i64 n1', .int .i64 n2', .int .i64 n3, .int .i64 n4, .slice nx Ln.length ny, .bool n5] (.slice lx Ll.length ly) (.slice mx Lm.length my) (.slice nx Ln.length ny) Ll Lm Ln #[.int .i64 f1, .int .i64 f2, .int .i64 f3, .string f4] #[.int .i64 o.p.wi, .int .i64 o.p.vs, .int .i64 o.p.va, .int .i64 o.p.vr, .slice x1 o.Q.length y1, .bool o.p.ak, .slice x2 o.sn.length y2, .slice x3 o.gt.length y3, .int .i64 o.cd] o x1 x2 x3 y1 y2 y3) (unhide H7 _ ((Below.refl _ _).alloc (Nat.le_refl _) _) (heap_alloc_new w4 _)) ?_
  intro q4 hq4
  have H8 := hide hq4
  generalize w4.heap.size = X at *
  clear hq4 H7 H6 CM
  go_cut [69] (fun v wx => v = .bool false ∧ Fl w wx B5 B7 B8 B9 X #[.int .i64 l1, .int .i64 l2, .int .i64 l3, .int .i64 l4, .slice lx Ll.length ly, .bool l5] #[.int .i64 m1, .int .i64 m2, .int .i64 m3, .int .i64 m4, .slice mx Lm.length my, .bool m5] #[.int .i64 n1', .int .i64 n2', .int .i64 n3, .int .i64 n4, .slice nx Ln.length ny, .bool n5] (.slice lx Ll.length ly) (.slice mx Lm.length my) (.slice nx Ln.length ny) Ll Lm Ln #[.int .i64 f1, .int .i64 f2, .int .i64 f3, .string f4] #[.int .i64 o.p.wi, .int .i64 o.p.vs, .int .i64 o.p.va, .int .i64 o.p.vr, .slice x1 o.Q.length y1, .bool o.p.ak, .slice x2 o.sn.length y2, .slice x3 o.gt.length y3, .int .i64 o.cd] o x1 x2 x3 y1 y2 y3)
  case first =>
    as_aux_lemma =>
      have SZ : Hid (∀ z : World, Fl w z B5 B7 B8 B9 X #[.int .i64 l1, .int .i64 l2, .int .i64 l3, .int .i64 l4, .slice lx Ll.length ly, .bool l5] #[.int .i64 m1, .int .i64 m2, .int .i64 m3, .int .i64 m4, .slice mx Lm.length my, .bool m5] #[.int .i64 n1', .int .i64 n2', .int .i64 n3, .int .i64 n4, .slice nx Ln.length ny, .bool n5] (.slice lx Ll.length ly) (.slice mx Lm.length my) (.slice nx Ln.length ny) Ll Lm Ln #[.int .i64 f1, .int .i64 f2, .int .i64 f3, .string f4] #[.int .i64 o.p.wi, .int .i64 o.p.vs, .int .i64 o.p.va, .int .i64 o.p.vr, .slice x1 o.Q.length y1, .bool o.p.ak, .slice x2 o.sn.length y2, .slice x3 o.gt.length y3, .int .i64 o.cd] o x1 x2 x3 y1 y2 y3 → z.cell? ⟨B5, 0, none⟩ = some (.int .i64 l1) ∧ z.cell? ⟨B5, 1, none⟩ = some (.int .i64 l2) ∧ z.cell? ⟨B5, 2, none⟩ = some (.int .i64 l3) ∧ z.cell? ⟨B5, 3, none⟩ = some (.int .i64 l4) ∧ z.cell? ⟨B5, 4, none⟩ = some (.slice lx Ll.length ly) ∧ z.cell? ⟨B5, 5, none⟩ = some (.bool l5) ∧ z.cell? ⟨B7, 0, none⟩ = some (.int .i64 m1) ∧ z.cell? ⟨B7, 1, none⟩ = some (.int .i64 m2) ∧ z.cell? ⟨B7, 2, none⟩ = some (.int .i64 m3) ∧ z.cell? ⟨B7, 3, none⟩ = some (.int .i64 m4) ∧ z.cell? ⟨B7, 4, none⟩ = some (.slice mx Lm.length my) ∧ z.cell? ⟨B7, 5, none⟩ = some (.bool m5) ∧ z.cell? ⟨B8, 0, none⟩ = some (.int .i64 n1') ∧ z.cell? ⟨B8, 1, none⟩ = some (.int .i64 n2') ∧ z.cell? ⟨B8, 2, none⟩ = some (.int .i64 n3) ∧ z.cell? ⟨B8, 3, none⟩ = some (.int .i64 n4) ∧ z.cell? ⟨B8, 4, none⟩ = some (.slice nx Ln.length ny) ∧ z.cell? ⟨B8, 5, none⟩ = some (.bool n5) ∧ z.cell? ⟨B9, 0, none⟩ = some (.int .i64 f1) ∧ z.cell? ⟨B9, 1, none⟩ = some (.int .i64 f2) ∧ z.cell? ⟨B9, 2, none⟩ = some (.int .i64 f3) ∧ z.cell? ⟨B9, 3, none⟩ = some (.string f4) ∧ z.cell? ⟨X, 0, none⟩ = some (.int .i64 o.p.wi) ∧ z.cell? ⟨X, 1, none⟩ = some (.int .i64 o.p.vs) ∧ z.cell? ⟨X, 2, none⟩ = some (.int .i64 o.p.va) ∧ z.cell? ⟨X, 3, none⟩ = some (.int .i64 o.p.vr) ∧ z.cell? ⟨X, 4, none⟩ = some (.slice x1 o.Q.length y1) ∧ z.cell? ⟨X, 5, none⟩ = some (.bool o.p.ak) ∧ z.cell? ⟨X, 6, none⟩ = some (.slice x2 o.sn.length y2) ∧ z.cell? ⟨X, 7, none⟩ = some (.slice x3 o.gt.length y3) ∧ z.cell? ⟨X, 8, none⟩ = some (.int .i64 o.cd)) := hide fun z h => ⟨(row6l h.b5).1, (row6l h.b5).2.1, (row6l h.b5).2.2.1, (row6l h.b5).2.2.2.1, (row6l h.b5).2.2.2.2.1, (row6l h.b5).2.2.2.2.2, (row6l h.b7).1, (row6l h.b7).2.1, (row6l h.b7).2.2.1, (row6l h.b7).2.2.2.1, (row6l h.b7).2.2.2.2.1, (row6l h.b7).2.2.2.2.2, (row6l h.b8).1, (row6l h.b8).2.1, (row6l h.b8).2.2.1, (row6l h.b8).2.2.2.1, (row6l h.b8).2.2.2.2.1, (row6l h.b8).2.2.2.2.2, (row4 h.b9).1, (row4 h.b9).2.1, (row4 h.b9).2.2.1, (row4 h.b9).2.2.2.1, (row9l h.x).1, (row9l h.x).2.1, (row9l h.x).2.2.1, (row9l h.x).2.2.2.1, (row9l h.x).2.2.2.2.1, (row9l h.x).2.2.2.2.2.1, (row9l h.x).2.2.2.2.2.2.1, (row9l h.x).2.2.2.2.2.2.2.1, (row9l h.x).2.2.2.2.2.2.2.2⟩
      refine wp_region_held_drew (S := fun z => z.cell? ⟨B5, 0, none⟩ = some (.int .i64 l1) ∧ z.cell? ⟨B5, 1, none⟩ = some (.int .i64 l2) ∧ z.cell? ⟨B5, 2, none⟩ = some (.int .i64 l3) ∧ z.cell? ⟨B5, 3, none⟩ = some (.int .i64 l4) ∧ z.cell? ⟨B5, 4, none⟩ = some (.slice lx Ll.length ly) ∧ z.cell? ⟨B5, 5, none⟩ = some (.bool l5) ∧ z.cell? ⟨B7, 0, none⟩ = some (.int .i64 m1) ∧ z.cell? ⟨B7, 1, none⟩ = some (.int .i64 m2) ∧ z.cell? ⟨B7, 2, none⟩ = some (.int .i64 m3) ∧ z.cell? ⟨B7, 3, none⟩ = some (.int .i64 m4) ∧ z.cell? ⟨B7, 4, none⟩ = some (.slice mx Lm.length my) ∧ z.cell? ⟨B7, 5, none⟩ = some (.bool m5) ∧ z.cell? ⟨B8, 0, none⟩ = some (.int .i64 n1') ∧ z.cell? ⟨B8, 1, none⟩ = some (.int .i64 n2') ∧ z.cell? ⟨B8, 2, none⟩ = some (.int .i64 n3) ∧ z.cell? ⟨B8, 3, none⟩ = some (.int .i64 n4) ∧ z.cell? ⟨B8, 4, none⟩ = some (.slice nx Ln.length ny) ∧ z.cell? ⟨B8, 5, none⟩ = some (.bool n5) ∧ z.cell? ⟨B9, 0, none⟩ = some (.int .i64 f1) ∧ z.cell? ⟨B9, 1, none⟩ = some (.int .i64 f2) ∧ z.cell? ⟨B9, 2, none⟩ = some (.int .i64 f3) ∧ z.cell? ⟨B9, 3, none⟩ = some (.string f4) ∧ z.cell? ⟨X, 0, none⟩ = some (.int .i64 o.p.wi) ∧ z.cell? ⟨X, 1, none⟩ = some (.int .i64 o.p.vs) ∧ z.cell? ⟨X, 2, none⟩ = some (.int .i64 o.p.va) ∧ z.cell? ⟨X, 3, none⟩ = some (.int .i64 o.p.vr) ∧ z.cell? ⟨X, 4, none⟩ = some (.slice x1 o.Q.length y1) ∧ z.cell? ⟨X, 5, none⟩ = some (.bool o.p.ak) ∧ z.cell? ⟨X, 6, none⟩ = some (.slice x2 o.sn.length y2) ∧ z.cell? ⟨X, 7, none⟩ = some (.slice x3 o.gt.length y3) ∧ z.cell? ⟨X, 8, none⟩ = some (.int .i64 o.cd)) (by kernel_rfl) (unhide SZ _ ((unhide H8).step ((Below.refl _ _).drew))) (fun hHeld => ?_)
      have F0 := hide ((unhide H8).step ((Below.refl q4.heap.size q4).drew))
      generalize q4.drew = yy at F0 hHeld ⊢
      clear H8
      refine wpAnyH_take (i := 0) (v := ?vq1_0) rfl (by kernel_rfl) (by kernel_rfl) (by kernel_rfl) (fun _ _ _ h => h) (Or.inl ⟨by rfl, ?hyq1_0⟩) (by assumption) ?_
      case hyq1_0 =>
        intro w hSw
        try dsimp only at hSw
        go_simp
        try with_reducible rfl
      try simp only [Act.put, List.setIfInBounds_toArray, List.set_cons_zero, List.set_cons_succ, List.getElem_toArray, List.getElem_cons_zero]
      refine wpAnyH_take (i := 1) (v := ?vq2_1) rfl (by kernel_rfl) (by kernel_rfl) (by kernel_rfl) (fun _ _ _ h => h) (Or.inl ⟨by rfl, ?hyq2_1⟩) (by assumption) ?_
      case hyq2_1 =>
        intro w hSw
        try dsimp only at hSw
        go_simp
        try with_reducible rfl
      try simp only [Act.put, List.setIfInBounds_toArray, List.set_cons_zero, List.set_cons_succ, List.getElem_toArray, List.getElem_cons_zero, List.getElem_cons_succ]
      refine wpAnyH_take (i := 3) (v := ?vq3_3) rfl (by kernel_rfl) (by kernel_rfl) (by kernel_rfl) (fun _ _ _ h => h) (Or.inl ⟨by rfl, ?hyq3_3⟩) (by assumption) ?_
      case hyq3_3 =>
        intro w hSw
        try dsimp only at hSw
        go_simp
        try with_reducible rfl
      try simp only [Act.put, List.setIfInBounds_toArray, List.set_cons_zero, List.set_cons_succ, List.getElem_toArray, List.getElem_cons_zero, List.getElem_cons_succ]
      refine wpAnyH_take (i := 4) (v := ?vq4_4) rfl (by kernel_rfl) (by kernel_rfl) (by kernel_rfl) (fun _ _ _ h => h) (Or.inl ⟨by rfl, ?hyq4_4⟩) (by assumption) ?_
      case hyq4_4 =>
        intro w hSw
        try dsimp only at hSw
        go_simp
        try with_reducible rfl
      try simp only [Act.put, List.setIfInBounds_toArray, List.set_cons_zero, List.set_cons_succ, List.getElem_toArray, List.getElem_cons_zero, List.getElem_cons_succ]
      refine wpAnyH_ready (rs := [2]) (by kernel_rfl) (by simp) ?_
      refine AllReadyH.cons rfl (fun K hK => ?_) (AllReadyH.nil)
      go_simp
      refine (unhide CP _ (unhide F0).h5).mono ?_
      rintro e z1 ⟨a1, b1, c1, d1, e1, g1, rfl, hx1, hb1⟩
      have F1 := hide ((unhide F0).step hb1)
      have P_1 := hide hx1
      clear hx1 hb1
      go_wp2_with fail
      refine hK.out _ _ (unhide SZ _ (unhide F1)) (fun _ => ?_)
      clear hK K
      try simp only [Act.put, List.setIfInBounds_toArray, List.set_cons_zero, List.set_cons_succ, List.getElem_toArray, List.getElem_cons_zero, List.getElem_cons_succ]
      refine wpAnyH_ready (rs := [5]) (by kernel_rfl) (by simp) ?_
      refine AllReadyH.cons rfl (fun K hK => ?_) (AllReadyH.nil)
      go_simp
      refine (unhide CQ _ (unhide F1).h5).mono ?_
      rintro e z2 ⟨a2, b2, c2, d2, e2, g2, rfl, hx2, hb2⟩
      have F2 := hide ((unhide F1).step hb2)
      have P_2 := hide ((unhide P_1).step hb2)
      have Q_2 := hide hx2
      clear hx2 hb2
      go_wp2_with fail
      refine hK.out _ _ (unhide SZ _ (unhide F2)) (fun _ => ?_)
      clear hK K
      try simp only [Act.put, List.setIfInBounds_toArray, List.set_cons_zero, List.set_cons_succ, List.getElem_toArray, List.getElem_cons_zero, List.getElem_cons_succ]
      refine wpAnyH_ready (rs := [6]) (by kernel_rfl) (by simp) ?_
      refine AllReadyH.cons rfl (fun K hK => ?_) (AllReadyH.nil)
      go_simp
      refine (lwSame fP (unhide P_2) (unhide Q_2)).mono ?_
      rintro e z3 ⟨rfl, hb3⟩
      have F3 := hide ((unhide F2).step hb3)
      clear hb3
      go_wp2_with fail
      refine hK.out _ _ (unhide SZ _ (unhide F3)) (fun _ => ?_)
      clear hK K
      try simp only [Act.put, List.setIfInBounds_toArray, List.set_cons_zero, List.set_cons_succ, List.getElem_toArray, List.getElem_cons_zero, List.getElem_cons_succ]
      refine wpAnyH_take (i := 7) (v := ?vq5_7) rfl (by kernel_rfl) (by kernel_rfl) (by kernel_rfl) (fun _ _ _ h => h) (Or.inl ⟨by rfl, ?hyq5_7⟩) (by assumption) ?_
      case hyq5_7 =>
        intro w hSw
        try dsimp only at hSw
        go_simp
        try with_reducible rfl
      try simp only [Act.put, List.setIfInBounds_toArray, List.set_cons_zero, List.set_cons_succ, List.getElem_toArray, List.getElem_cons_zero, List.getElem_cons_succ]
      refine wpAnyH_take (i := 8) (v := ?vq6_8) rfl (by kernel_rfl) (by kernel_rfl) (by kernel_rfl) (fun _ _ _ h => h) (Or.inl ⟨by rfl, ?hyq6_8⟩) (by assumption) ?_
      case hyq6_8 =>
        intro w hSw
        try dsimp only at hSw
        go_simp
        try with_reducible rfl
      try simp only [Act.put, List.setIfInBounds_toArray, List.set_cons_zero, List.set_cons_succ, List.getElem_toArray, List.getElem_cons_zero, List.getElem_cons_succ]
      refine wpAnyH_take (i := 9) (v := ?vq7_9) rfl (by kernel_rfl) (by kernel_rfl) (by kernel_rfl) (fun _ _ _ h => h) (Or.inl ⟨by rfl, ?hyq7_9⟩) (by assumption) ?_
      case hyq7_9 =>
        intro w hSw
        try dsimp only at hSw
        go_simp
        try with_reducible rfl
      try simp only [Act.put, List.setIfInBounds_toArray, List.set_cons_zero, List.set_cons_succ, List.getElem_toArray, List.getElem_cons_zero, List.getElem_cons_succ]
      refine wpAnyH_take (i := 10) (v := ?vq8_10) rfl (by kernel_rfl) (by kernel_rfl) (by kernel_rfl) (fun _ _ _ h => h) (Or.inl ⟨by rfl, ?hyq8_10⟩) (by assumption) ?_
      case hyq8_10 =>
        intro w hSw
        try dsimp only at hSw
        go_simp
        try with_reducible rfl
      try simp only [Act.put, List.setIfInBounds_toArray, List.set_cons_zero, List.set_cons_succ, List.getElem_toArray, List.getElem_cons_zero, List.getElem_cons_succ]
      refine wpAnyH_ready (rs := [11]) (by kernel_rfl) (by simp) ?_
      refine AllReadyH.cons rfl (fun K hK => ?_) (AllReadyH.nil)
      go_simp
      refine (unhide CN _ (unhide F3).h7).mono ?_
      rintro e z4 ⟨a4, b4, c4, d4, e4, g4, rfl, hx4, hb4⟩
      have F4 := hide ((unhide F3).step hb4)
      have N_4 := hide hx4
      clear hx4 hb4
      go_wp2_with fail
      refine hK.out _ _ (unhide SZ _ (unhide F4)) (fun _ => ?_)
      clear hK K
      try simp only [Act.put, List.setIfInBounds_toArray, List.set_cons_zero, List.set_cons_succ, List.getElem_toArray, List.getElem_cons_zero, List.getElem_cons_succ]
      refine wpAnyH_ready (rs := [12]) (by kernel_rfl) (by simp) ?_
      refine AllReadyH.cons rfl (fun K hK => ?_) (AllReadyH.nil)
      go_simp
      refine (lwSame fo (unhide F4).hx (unhide N_4)).mono ?_
      rintro e z5 ⟨rfl, hb5⟩
      have F5 := hide ((unhide F4).step hb5)
      clear hb5
      go_wp2_with fail
      refine hK.out _ _ (unhide SZ _ (unhide F5)) (fun _ => ?_)
      clear hK K
      try simp only [Act.put, List.setIfInBounds_toArray, List.set_cons_zero, List.set_cons_succ, List.getElem_toArray, List.getElem_cons_zero, List.getElem_cons_succ]
      refine wpAnyH_take (i := 13) (v := ?vq9_13) rfl (by kernel_rfl) (by kernel_rfl) (by kernel_rfl) (fun _ _ _ h => h) (Or.inl ⟨by rfl, ?hyq9_13⟩) (by assumption) ?_
      case hyq9_13 =>
        intro w hSw
        try dsimp only at hSw
        go_simp
        try with_reducible rfl
      try simp only [Act.put, List.setIfInBounds_toArray, List.set_cons_zero, List.set_cons_succ, List.getElem_toArray, List.getElem_cons_zero, List.getElem_cons_succ]
      refine wpAnyH_take (i := 14) (v := ?vq10_14) rfl (by kernel_rfl) (by kernel_rfl) (by kernel_rfl) (fun _ _ _ h => h) (Or.inl ⟨by rfl, ?hyq10_14⟩) (by assumption) ?_
      case hyq10_14 =>
        intro w hSw
        try dsimp only at hSw
        go_simp
        try with_reducible rfl
      try simp only [Act.put, List.setIfInBounds_toArray, List.set_cons_zero, List.set_cons_succ, List.getElem_toArray, List.getElem_cons_zero, List.getElem_cons_succ]
      refine wpAnyH_take (i := 15) (v := ?vq11_15) rfl (by kernel_rfl) (by kernel_rfl) (by kernel_rfl) (fun _ _ _ h => h) (Or.inl ⟨by rfl, ?hyq11_15⟩) (by assumption) ?_
      case hyq11_15 =>
        intro w hSw
        try dsimp only at hSw
        go_simp
        try with_reducible rfl
      try simp only [Act.put, List.setIfInBounds_toArray, List.set_cons_zero, List.set_cons_succ, List.getElem_toArray, List.getElem_cons_zero, List.getElem_cons_succ]
      refine wpAnyH_take (i := 16) (v := ?vq12_16) rfl (by kernel_rfl) (by kernel_rfl) (by kernel_rfl) (fun _ _ _ h => h) (Or.inl ⟨by rfl, ?hyq12_16⟩) (by assumption) ?_
      case hyq12_16 =>
        intro w hSw
        try dsimp only at hSw
        go_simp
        try with_reducible rfl
      try simp only [Act.put, List.setIfInBounds_toArray, List.set_cons_zero, List.set_cons_succ, List.getElem_toArray, List.getElem_cons_zero, List.getElem_cons_succ]
      refine wpAnyH_take (i := 18) (v := ?vq13_18) rfl (by kernel_rfl) (by kernel_rfl) (by kernel_rfl) (fun _ _ _ h => h) (Or.inl ⟨by rfl, ?hyq13_18⟩) (by assumption) ?_
      case hyq13_18 =>
        intro w hSw
        try dsimp only at hSw
        go_simp
        try with_reducible rfl
      try simp only [Act.put, List.setIfInBounds_toArray, List.set_cons_zero, List.set_cons_succ, List.getElem_toArray, List.getElem_cons_zero, List.getElem_cons_succ]
      refine wpAnyH_ready (rs := [17]) (by kernel_rfl) (by simp) ?_
      refine AllReadyH.cons rfl (fun K hK => ?_) (AllReadyH.nil)
      go_simp
      refine (unhide CA _ (unhide F5).h7).mono ?_
      rintro e z6 ⟨a6, b6, c6, d6, e6, g6, rfl, hx6, hb6⟩
      have F6 := hide ((unhide F5).step hb6)
      have P_6 := hide hx6
      clear hx6 hb6
      go_wp2_with fail
      refine hK.out _ _ (unhide SZ _ (unhide F6)) (fun _ => ?_)
      clear hK K
      try simp only [Act.put, List.setIfInBounds_toArray, List.set_cons_zero, List.set_cons_succ, List.getElem_toArray, List.getElem_cons_zero, List.getElem_cons_succ]
      refine wpAnyH_ready (rs := [19]) (by kernel_rfl) (by simp) ?_
      refine AllReadyH.cons rfl (fun K hK => ?_) (AllReadyH.nil)
      go_simp
      refine (unhide CB _ (unhide F6).h7).mono ?_
      rintro e z7 ⟨a7, b7, c7, d7, e7, g7, rfl, hx7, hb7⟩
      have F7 := hide ((unhide F6).step hb7)
      have P_7 := hide ((unhide P_6).step hb7)
      have Q_7 := hide hx7
      clear hx7 hb7
      go_wp2_with fail
      refine hK.out _ _ (unhide SZ _ (unhide F7)) (fun _ => ?_)
      clear hK K
      try simp only [Act.put, List.setIfInBounds_toArray, List.set_cons_zero, List.set_cons_succ, List.getElem_toArray, List.getElem_cons_zero, List.getElem_cons_succ]
      refine wpAnyH_ready (rs := [20]) (by kernel_rfl) (by simp) ?_
      refine AllReadyH.cons rfl (fun K hK => ?_) (AllReadyH.nil)
      go_simp
      refine (lwSame fA (unhide P_7) (unhide Q_7)).mono ?_
      rintro e z8 ⟨rfl, hb8⟩
      have F8 := hide ((unhide F7).step hb8)
      clear hb8
      go_wp2_with fail
      refine hK.out _ _ (unhide SZ _ (unhide F8)) (fun _ => ?_)
      clear hK K
      try simp only [Act.put, List.setIfInBounds_toArray, List.set_cons_zero, List.set_cons_succ, List.getElem_toArray, List.getElem_cons_zero, List.getElem_cons_succ]
      refine wpAnyH_take (i := 21) (v := ?vq14_21) rfl (by kernel_rfl) (by kernel_rfl) (by kernel_rfl) (fun _ _ _ h => h) (Or.inl ⟨by rfl, ?hyq14_21⟩) (by assumption) ?_
      case hyq14_21 =>
        intro w hSw
        try dsimp only at hSw
        go_simp
        try with_reducible rfl
      try simp only [Act.put, List.setIfInBounds_toArray, List.set_cons_zero, List.set_cons_succ, List.getElem_toArray, List.getElem_cons_zero, List.getElem_cons_succ]
      refine wpAnyH_take (i := 22) (v := ?vq15_22) rfl (by kernel_rfl) (by kernel_rfl) (by kernel_rfl) (fun _ _ _ h => h) (Or.inl ⟨by rfl, ?hyq15_22⟩) (by assumption) ?_
      case hyq15_22 =>
        intro w hSw
        try dsimp only at hSw
        go_simp
        try with_reducible rfl
      try simp only [Act.put, List.setIfInBounds_toArray, List.set_cons_zero, List.set_cons_succ, List.getElem_toArray, List.getElem_cons_zero, List.getElem_cons_succ]
      refine wpAnyH_take (i := 23) (v := ?vq16_23) rfl (by kernel_rfl) (by kernel_rfl) (by kernel_rfl) (fun _ _ _ h => h) (Or.inl ⟨by rfl, ?hyq16_23⟩) (by assumption) ?_
      case hyq16_23 =>
        intro w hSw
        try dsimp only at hSw
        go_simp
        try with_reducible rfl
      try simp only [Act.put, List.setIfInBounds_toArray, List.set_cons_zero, List.set_cons_succ, List.getElem_toArray, List.getElem_cons_zero, List.getElem_cons_succ]
      refine wpAnyH_take (i := 24) (v := ?vq17_24) rfl (by kernel_rfl) (by kernel_rfl) (by kernel_rfl) (fun _ _ _ h => h) (Or.inl ⟨by rfl, ?hyq17_24⟩) (by assumption) ?_
      case hyq17_24 =>
        intro w hSw
        try dsimp only at hSw
        go_simp
        try with_reducible rfl
      try simp only [Act.put, List.setIfInBounds_toArray, List.set_cons_zero, List.set_cons_succ, List.getElem_toArray, List.getElem_cons_zero, List.getElem_cons_succ]
      refine wpAnyH_take (i := 25) (v := ?vq18_25) rfl (by kernel_rfl) (by kernel_rfl) (by kernel_rfl) (fun _ _ _ h => h) (Or.inl ⟨by rfl, ?hyq18_25⟩) (by assumption) ?_
      case hyq18_25 =>
        intro w hSw
        try dsimp only at hSw
        go_simp
        try with_reducible rfl
      try simp only [Act.put, List.setIfInBounds_toArray, List.set_cons_zero, List.set_cons_succ, List.getElem_toArray, List.getElem_cons_zero, List.getElem_cons_succ]
      refine wpAnyH_take (i := 27) (v := ?vq19_27) rfl (by kernel_rfl) (by kernel_rfl) (by kernel_rfl) (fun _ _ _ h => h) (Or.inl ⟨by rfl, ?hyq19_27⟩) (by assumption) ?_
      case hyq19_27 =>
        intro w hSw
        try dsimp only at hSw
        go_simp
        try with_reducible rfl
      try simp only [Act.put, List.setIfInBounds_toArray, List.set_cons_zero, List.set_cons_succ, List.getElem_toArray, List.getElem_cons_zero, List.getElem_cons_succ]
      refine wpAnyH_take (i := 28) (v := ?vq20_28) rfl (by kernel_rfl) (by kernel_rfl) (by kernel_rfl) (fun _ _ _ h => h) (Or.inl ⟨by rfl, ?hyq20_28⟩) (by assumption) ?_
      case hyq20_28 =>
        intro w hSw
        try dsimp only at hSw
        go_simp
        try with_reducible rfl
      try simp only [Act.put, List.setIfInBounds_toArray, List.set_cons_zero, List.set_cons_succ, List.getElem_toArray, List.getElem_cons_zero, List.getElem_cons_succ]
      refine wpAnyH_ready (rs := [26]) (by kernel_rfl) (by simp) ?_
      refine AllReadyH.cons rfl (fun K hK => ?_) (AllReadyH.nil)
      go_simp
      refine (unhide CH _ (unhide F8).h8).mono ?_
      rintro e z9 ⟨a9, b9, c9, d9, e9, g9, rfl, hx9, hb9⟩
      have F9 := hide ((unhide F8).step hb9)
      have P_9 := hide hx9
      clear hx9 hb9
      go_wp2_with fail
      refine hK.out _ _ (unhide SZ _ (unhide F9)) (fun _ => ?_)
      clear hK K
      try simp only [Act.put, List.setIfInBounds_toArray, List.set_cons_zero, List.set_cons_succ, List.getElem_toArray, List.getElem_cons_zero, List.getElem_cons_succ]
      refine wpAnyH_ready (rs := [29]) (by kernel_rfl) (by simp) ?_
      refine AllReadyH.cons rfl (fun K hK => ?_) (AllReadyH.nil)
      go_simp
      refine (unhide CI _ (unhide F9).h8).mono ?_
      rintro e z10 ⟨a10, b10, c10, d10, e10, g10, rfl, hx10, hb10⟩
      have F10 := hide ((unhide F9).step hb10)
      have P_10 := hide ((unhide P_9).step hb10)
      have Q_10 := hide hx10
      clear hx10 hb10
      go_wp2_with fail
      refine hK.out _ _ (unhide SZ _ (unhide F10)) (fun _ => ?_)
      clear hK K
      try simp only [Act.put, List.setIfInBounds_toArray, List.set_cons_zero, List.set_cons_succ, List.getElem_toArray, List.getElem_cons_zero, List.getElem_cons_succ]
      refine wpAnyH_ready (rs := [30]) (by kernel_rfl) (by simp) ?_
      refine AllReadyH.cons rfl (fun K hK => ?_) (AllReadyH.nil)
      go_simp
      refine (lwSame fH (unhide P_10) (unhide Q_10)).mono ?_
      rintro e z11 ⟨rfl, hb11⟩
      have F11 := hide ((unhide F10).step hb11)
      clear hb11
      go_wp2_with fail
      refine hK.out _ _ (unhide SZ _ (unhide F11)) (fun _ => ?_)
      clear hK K
      try simp only [Act.put, List.setIfInBounds_toArray, List.set_cons_zero, List.set_cons_succ, List.getElem_toArray, List.getElem_cons_zero, List.getElem_cons_succ]
      refine wpAnyH_take (i := 31) (v := ?vq21_31) rfl (by kernel_rfl) (by kernel_rfl) (by kernel_rfl) (fun _ _ _ h => h) (Or.inl ⟨by rfl, ?hyq21_31⟩) (by assumption) ?_
      case hyq21_31 =>
        intro w hSw
        try dsimp only at hSw
        go_simp
        try with_reducible rfl
      try simp only [Act.put, List.setIfInBounds_toArray, List.set_cons_zero, List.set_cons_succ, List.getElem_toArray, List.getElem_cons_zero, List.getElem_cons_succ]
      refine wpAnyH_take (i := 32) (v := ?vq22_32) rfl (by kernel_rfl) (by kernel_rfl) (by kernel_rfl) (fun _ _ _ h => h) (Or.inl ⟨by rfl, ?hyq22_32⟩) (by assumption) ?_
      case hyq22_32 =>
        intro w hSw
        try dsimp only at hSw
        go_simp
        try with_reducible rfl
      try simp only [Act.put, List.setIfInBounds_toArray, List.set_cons_zero, List.set_cons_succ, List.getElem_toArray, List.getElem_cons_zero, List.getElem_cons_succ]
      refine wpAnyH_done (by kernel_rfl) ?_ _
      go_wp2_with fail
      go_meet
      exact ⟨rfl, unhide F11⟩
  case rest =>
    obtain ⟨hv, hF⟩ := hcut
    subst hv
    have HF := hide hF
    clear hF CP CQ CA CB CH CI H8 fP fA fH
    go_upto_region 10 with fail
    go_loopg [11] o.sn.length (fun g y wr => ∃ i : Nat, y = .int .i64 (i : Nat) ∧ i + g = o.sn.length ∧ Fl w wr B5 B7 B8 B9 X #[.int .i64 l1, .int .i64 l2, .int .i64 l3, .int .i64 l4, .slice lx Ll.length ly, .bool l5] #[.int .i64 m1, .int .i64 m2, .int .i64 m3, .int .i64 m4, .slice mx Lm.length my, .bool m5] #[.int .i64 n1', .int .i64 n2', .int .i64 n3, .int .i64 n4, .slice nx Ln.length ny, .bool n5] (.slice lx Ll.length ly) (.slice mx Lm.length my) (.slice nx Ln.length ny) Ll Lm Ln #[.int .i64 f1, .int .i64 f2, .int .i64 f3, .string f4] #[.int .i64 o.p.wi, .int .i64 o.p.vs, .int .i64 o.p.va, .int .i64 o.p.vr, .slice x1 o.Q.length y1, .bool o.p.ak, .slice x2 o.sn.length y2, .slice x3 o.gt.length y3, .int .i64 o.cd] o x1 x2 x3 y1 y2 y3)
    case atStart => exact ⟨0, rfl, Nat.zero_add _, unhide HF⟩
    case round =>
      obtain ⟨i, rfl, hig, hf⟩ := hrel
      have cX : wr.cell? ⟨X, 6, none⟩ = some (.slice x2 o.sn.length y2) := (row9l hf.x).2.2.2.2.2.2.1
      have HG := hide hf
      clear hf HF
      by_cases hlt : i < o.sn.length
      · have e1 : (i : Int) < (o.sn.length : Int) := by omega
        go_upto_region 12 with fail
        obtain ⟨g, cp, ev, hg, _, e3, _, _⟩ := (unhide HG).hx.2.1.get i hlt
        simp only [Value.slice.injEq] at ev
        obtain ⟨ev, _, _⟩ := ev
        subst ev
        obtain ⟨hns, hi6, hm0, hm7⟩ := unhide HSENT i hlt
        generalize (o.sn[i]).ns = ns at hns e3
        have cM : wr.cell? ⟨B7, 1, none⟩ = some (.int .i64 m2) := (row6l (unhide HG).b7).2.1
        have hwA : IntKind.i64.wrap (m2 + (i : Int)) = m2 + (i : Int) := wrapS _ (by omega) (by omega)
        have hwB : Int.tmod (m2 + (i : Int)) 8 = ns := by rw [hns]; exact Int.tmod_eq_emod_of_nonneg (by omega)
        have hwC : IntKind.i64.wrap ns = ns := wrapS _ (by omega) (by omega)
        have hi6' : ¬ ((6 : Int) < (i : Int)) := by omega
        have hS0 : wr.drew.cell? ⟨X, 6, none⟩ = some (.slice (some ⟨g, 0, none⟩) o.sn.length y2) ∧ wr.drew.cell? ⟨g, i * 4 + 1, none⟩ = some (.int .i64 ns) ∧ wr.drew.cell? ⟨B7, 1, none⟩ = some (.int .i64 m2) := ⟨cX, e3, cM⟩
        have HGd := hide ((unhide HG).step ((Below.refl wr.heap.size wr).drew))
        refine wp_region_held_drew (S := fun z => z.cell? ⟨X, 6, none⟩ = some (.slice (some ⟨g, 0, none⟩) o.sn.length y2) ∧ z.cell? ⟨g, i * 4 + 1, none⟩ = some (.int .i64 ns) ∧ z.cell? ⟨B7, 1, none⟩ = some (.int .i64 m2)) (by kernel_rfl) hS0 (fun hHeld => ?_)
        generalize wr.drew = yy at hS0 HGd hHeld ⊢
        clear hS0 cX e3 cM hns
        refine wpAnyH_take (i := 0) (v := ?vw0) rfl (by kernel_rfl) (by kernel_rfl) (by kernel_rfl) (fun _ _ _ h => h) (Or.inl ⟨by rfl, ?hyw0⟩) (by assumption) ?_
        case hyw0 =>
          intro w hSw
          try dsimp only at hSw
          go_simp
          try with_reducible rfl
        try simp only [Act.put, List.setIfInBounds_toArray, List.set_cons_zero, List.set_cons_succ, List.getElem_toArray, List.getElem_cons_zero]
        refine wpAnyH_take (i := 1) (v := ?vw1) rfl (by kernel_rfl) (by kernel_rfl) (by kernel_rfl) (fun _ _ _ h => h) (Or.inl ⟨by rfl, ?hyw1⟩) (by assumption) ?_
        case hyw1 =>
          intro w hSw
          try dsimp only at hSw
          go_simp
          try with_reducible rfl
        try simp only [Act.put, List.setIfInBounds_toArray, List.set_cons_zero, List.set_cons_succ, List.getElem_toArray, List.getElem_cons_zero, List.getElem_cons_succ]
        refine wpAnyH_take (i := 2) (v := ?vw2) rfl (by kernel_rfl) (by kernel_rfl) (by kernel_rfl) (fun _ _ _ h => h) (Or.inl ⟨by rfl, ?hyw2⟩) (by assumption) ?_
        case hyw2 =>
          intro w hSw
          try dsimp only at hSw
          go_simp
          try with_reducible rfl
        try simp only [Act.put, List.setIfInBounds_toArray, List.set_cons_zero, List.set_cons_succ, List.getElem_toArray, List.getElem_cons_zero, List.getElem_cons_succ]
        refine wpAnyH_take (i := 3) (v := ?vw3) rfl (by kernel_rfl) (by kernel_rfl) (by kernel_rfl) (fun _ _ _ h => h) (Or.inl ⟨by rfl, ?hyw3⟩) (by assumption) ?_
        case hyw3 =>
          intro w hSw
          try dsimp only at hSw
          go_simp
          try with_reducible rfl
        try simp only [Act.put, List.setIfInBounds_toArray, List.set_cons_zero, List.set_cons_succ, List.getElem_toArray, List.getElem_cons_zero, List.getElem_cons_succ]
        refine wpAnyH_take (i := 4) (v := ?vw4) rfl (by kernel_rfl) (by kernel_rfl) (by kernel_rfl) (fun _ _ _ h => h) (Or.inl ⟨by rfl, ?hyw4⟩) (by assumption) ?_
        case hyw4 =>
          intro w hSw
          try dsimp only at hSw
          go_simp
          try with_reducible rfl
        try simp only [Act.put, List.setIfInBounds_toArray, List.set_cons_zero, List.set_cons_succ, List.getElem_toArray, List.getElem_cons_zero, List.getElem_cons_succ]
        refine wpAnyH_take (i := 5) (v := ?vw5) rfl (by kernel_rfl) (by kernel_rfl) (by kernel_rfl) (fun _ _ _ h => h) (Or.inl ⟨by rfl, ?hyw5⟩) (by assumption) ?_
        case hyw5 =>
          intro w hSw
          try dsimp only at hSw
          go_simp
          try with_reducible rfl
        try simp only [Act.put, List.setIfInBounds_toArray, List.set_cons_zero, List.set_cons_succ, List.getElem_toArray, List.getElem_cons_zero, List.getElem_cons_succ]
        refine wpAnyH_take (i := 6) (v := ?vw6) rfl (by kernel_rfl) (by kernel_rfl) (by kernel_rfl) (fun _ _ _ h => h) (Or.inl ⟨by rfl, ?hyw6⟩) (by assumption) ?_
        case hyw6 =>
          intro w hSw
          try dsimp only at hSw
          go_simp
          try with_reducible rfl
        try simp only [Act.put, List.setIfInBounds_toArray, List.set_cons_zero, List.set_cons_succ, List.getElem_toArray, List.getElem_cons_zero, List.getElem_cons_succ]
        refine wpAnyH_take (i := 7) (v := ?vw7) rfl (by kernel_rfl) (by kernel_rfl) (by kernel_rfl) (fun _ _ _ h => h) (Or.inl ⟨by rfl, ?hyw7⟩) (by assumption) ?_
        case hyw7 =>
          intro w hSw
          try dsimp only at hSw
          go_simp
          try with_reducible rfl
        try simp only [Act.put, List.setIfInBounds_toArray, List.set_cons_zero, List.set_cons_succ, List.getElem_toArray, List.getElem_cons_zero, List.getElem_cons_succ]
        refine wpAnyH_take (i := 8) (v := ?vw8) rfl (by kernel_rfl) (by kernel_rfl) (by kernel_rfl) (fun _ _ _ h => h) (Or.inl ⟨by rfl, ?hyw8⟩) (by assumption) ?_
        case hyw8 =>
          intro w hSw
          try dsimp only at hSw
          go_simp
          try with_reducible rfl
        try simp only [Act.put, List.setIfInBounds_toArray, List.set_cons_zero, List.set_cons_succ, List.getElem_toArray, List.getElem_cons_zero, List.getElem_cons_succ]
        refine wpAnyH_take (i := 9) (v := ?vw9) rfl (by kernel_rfl) (by kernel_rfl) (by kernel_rfl) (fun _ _ _ h => h) (Or.inl ⟨by rfl, ?hyw9⟩) (by assumption) ?_
        case hyw9 =>
          intro w hSw
          try dsimp only at hSw
          go_simp
          try with_reducible rfl
        try simp only [Act.put, List.setIfInBounds_toArray, List.set_cons_zero, List.set_cons_succ, List.getElem_toArray, List.getElem_cons_zero, List.getElem_cons_succ]
        refine wpAnyH_take (i := 10) (v := ?vw10) rfl (by kernel_rfl) (by kernel_rfl) (by kernel_rfl) (fun _ _ _ h => h) (Or.inl ⟨by rfl, ?hyw10⟩) (by assumption) ?_
        case hyw10 =>
          intro w hSw
          try dsimp only at hSw
          go_simp
          try with_reducible rfl
        try simp only [Act.put, List.setIfInBounds_toArray, List.set_cons_zero, List.set_cons_succ, List.getElem_toArray, List.getElem_cons_zero, List.getElem_cons_succ]
        refine wpAnyH_take (i := 11) (v := ?vw11) rfl (by kernel_rfl) (by kernel_rfl) (by kernel_rfl) (fun _ _ _ h => h) (Or.inl ⟨by rfl, ?hyw11⟩) (by assumption) ?_
        case hyw11 =>
          intro w hSw
          try dsimp only at hSw
          go_simp
          try with_reducible rfl
        try simp only [Act.put, List.setIfInBounds_toArray, List.set_cons_zero, List.set_cons_succ, List.getElem_toArray, List.getElem_cons_zero, List.getElem_cons_succ]
        refine wpAnyH_take (i := 12) (v := ?vw12) rfl (by kernel_rfl) (by kernel_rfl) (by kernel_rfl) (fun _ _ _ h => h) (Or.inl ⟨by rfl, ?hyw12⟩) (by assumption) ?_
        case hyw12 =>
          intro w hSw
          try dsimp only at hSw
          go_simp
          try with_reducible rfl
        try simp only [Act.put, List.setIfInBounds_toArray, List.set_cons_zero, List.set_cons_succ, List.getElem_toArray, List.getElem_cons_zero, List.getElem_cons_succ]
        refine wpAnyH_take (i := 13) (v := ?vw13) rfl (by kernel_rfl) (by kernel_rfl) (by kernel_rfl) (fun _ _ _ h => h) (Or.inl ⟨by rfl, ?hyw13⟩) (by assumption) ?_
        case hyw13 =>
          intro w hSw
          try dsimp only at hSw
          go_simp
          try with_reducible rfl
        try simp only [Act.put, List.setIfInBounds_toArray, List.set_cons_zero, List.set_cons_succ, List.getElem_toArray, List.getElem_cons_zero, List.getElem_cons_succ]
        refine wpAnyH_take (i := 14) (v := ?vw14) rfl (by kernel_rfl) (by kernel_rfl) (by kernel_rfl) (fun _ _ _ h => h) (Or.inl ⟨by rfl, ?hyw14⟩) (by assumption) ?_
        case hyw14 =>
          intro w hSw
          try dsimp only at hSw
          go_simp
          try with_reducible rfl
        try simp only [Act.put, List.setIfInBounds_toArray, List.set_cons_zero, List.set_cons_succ, List.getElem_toArray, List.getElem_cons_zero, List.getElem_cons_succ]
        refine wpAnyH_take (i := 15) (v := ?vw15) rfl (by kernel_rfl) (by kernel_rfl) (by kernel_rfl) (fun _ _ _ h => h) (Or.inl ⟨by rfl, ?hyw15⟩) (by assumption) ?_
        case hyw15 =>
          intro w hSw
          try dsimp only at hSw
          go_simp
          try with_reducible rfl
        try simp only [Act.put, List.setIfInBounds_toArray, List.set_cons_zero, List.set_cons_succ, List.getElem_toArray, List.getElem_cons_zero, List.getElem_cons_succ]
        refine wpAnyH_done (by kernel_rfl) ?_ _
        go_wp2_with fail
        go_roundg (gk - 1)
        case measure => omega
        case rel => exact ⟨i + 1, by first | rfl | (push_cast; rfl), by omega, unhide HGd⟩
      · have e1 : ¬ ((i : Int) < (o.sn.length : Int)) := by omega
        go_wp2_with fail
        refine (drawNb wr _ n1 h1 (unhide T1 _ (unhide HG).b)).mono ?_
        rintro e w5 ⟨gf, rfl, hgt, hb5⟩
        have HH := hide ((unhide HG).step hb5)
        clear hb5 HG cX e1
        have hsz := told_size gf
        have CT0 : Hid (∀ z, Calls Try.prog 19 #[nbV gf] z fun e q => e = .returned (.string (nbTold gf)) ∧ Below z.heap.size z q) := hide fun z => sNbBytes gf z
        have CI0 : Hid (∀ z, Calls Try.prog 17 #[nbV gf] z fun e q => e = .returned (.string (nbTold gf)) ∧ Below z.heap.size z q) := hide fun z => iNbBytes gf z
        have HB : Hid ((nbTold gf).size = 0 ∨ ∀ z, Calls Try.prog 20 #[.string (nbTold gf)] z fun e q => e = .returned (nbV gf) ∧ Below z.heap.size z q) := hide (by
          cases hk : nbOk gf
          · left
            rw [told_no hk]
            rfl
          · right
            intro z
            have := iNbRead (nbTold gf) z (by unfold maxLen; omega)
            rw [read_told hk] at this
            exact this)
        generalize hbt : nbTold gf = bt at *
        clear hbt
        obtain ⟨g1, g2, g3, g4⟩ := gf
        unfold nbV at CT0 CI0 HB ⊢
        dsimp only at CT0 CI0 HB ⊢
        go_upto_region 15 with fail
        refine gen_world (fun q => Fl w q B5 B7 B8 B9 X #[.int .i64 l1, .int .i64 l2, .int .i64 l3, .int .i64 l4, .slice lx Ll.length ly, .bool l5] #[.int .i64 m1, .int .i64 m2, .int .i64 m3, .int .i64 m4, .slice mx Lm.length my, .bool m5] #[.int .i64 n1', .int .i64 n2', .int .i64 n3, .int .i64 n4, .slice nx Ln.length ny, .bool n5] (.slice lx Ll.length ly) (.slice mx Lm.length my) (.slice nx Ln.length ny) Ll Lm Ln #[.int .i64 f1, .int .i64 f2, .int .i64 f3, .string f4] #[.int .i64 o.p.wi, .int .i64 o.p.vs, .int .i64 o.p.va, .int .i64 o.p.vr, .slice x1 o.Q.length y1, .bool o.p.ak, .slice x2 o.sn.length y2, .slice x3 o.gt.length y3, .int .i64 o.cd] o x1 x2 x3 y1 y2 y3 ∧ (q.heap[w5.heap.size]? = some (.cells #[.int .i64 g1, .int .i64 g2, .int .i64 g3, .string g4] 30))) ⟨(unhide HH).step ((Below.refl _ _).alloc (Nat.le_refl _) _), heap_alloc_new w5 _⟩ ?_
        rintro q5 hq5
        have HI := hide hq5
        generalize w5.heap.size = B12 at *
        obtain ⟨k0, k1, k2, k3, _, _, _, _⟩ := row4 hq5.2
        clear hq5 HH
        go_wp2_with fail
        refine (unhide CI0 q5).mono ?_
        rintro e w6 ⟨rfl, hb6⟩
        have HJ := hide (And.intro ((unhide HI).1.step hb6) ((hb6.block _ (Array.getElem?_eq_some_iff.1 (unhide HI).2).1).trans (unhide HI).2))
        clear hb6 HI CI0 k0 k1 k2 k3
        go_wp2_with fail
        refine (drawNr w6 _ n2 h2 (unhide T2 _ (unhide HJ).1.b)).mono ?_
        rintro e w7 ⟨u, rfl, hu, hb7⟩
        have HK := hide (And.intro ((unhide HJ).1.step hb7) ((hb7.block _ (Array.getElem?_eq_some_iff.1 (unhide HJ).2).1).trans (unhide HJ).2))
        clear hb7 HJ
        have CT := CT0
        have CU0 : Hid (∀ z, Calls Try.prog 20 #[.string u] z fun e q => e = .returned (nbV (nbRead u)) ∧ Below z.heap.size z q) := hide fun z => iNbRead u z (by unfold maxLen; omega)
        have CW0 : Hid (∀ z, Calls Try.prog 21 #[.string u] z fun e q => e = .returned (nbV (nbRead u)) ∧ Below z.heap.size z q) := hide fun z => sNbRead u z (by unfold maxLen; omega)
        generalize nbRead u = rr at CU0 CW0
        obtain ⟨r1, r2, r3, r4⟩ := rr
        have CU : Hid (∀ z, Calls Try.prog 20 #[.string u] z fun e q => e = .returned (.agg #[.int .i64 r1, .int .i64 r2, .int .i64 r3, .string r4]) ∧ Below z.heap.size z q) := CU0
        have CW : Hid (∀ z, Calls Try.prog 21 #[.string u] z fun e q => e = .returned (.agg #[.int .i64 r1, .int .i64 r2, .int .i64 r3, .string r4]) ∧ Below z.heap.size z q) := CW0
        generalize lpOk ⟨m1, m2, m3, m4, m5⟩ Lm = bo at CR CS
        clear CT0 CU0 CW0 T1 T2
        have SY : Hid (∀ z : World, (Fl w z B5 B7 B8 B9 X #[.int .i64 l1, .int .i64 l2, .int .i64 l3, .int .i64 l4, .slice lx Ll.length ly, .bool l5] #[.int .i64 m1, .int .i64 m2, .int .i64 m3, .int .i64 m4, .slice mx Lm.length my, .bool m5] #[.int .i64 n1', .int .i64 n2', .int .i64 n3, .int .i64 n4, .slice nx Ln.length ny, .bool n5] (.slice lx Ll.length ly) (.slice mx Lm.length my) (.slice nx Ln.length ny) Ll Lm Ln #[.int .i64 f1, .int .i64 f2, .int .i64 f3, .string f4] #[.int .i64 o.p.wi, .int .i64 o.p.vs, .int .i64 o.p.va, .int .i64 o.p.vr, .slice x1 o.Q.length y1, .bool o.p.ak, .slice x2 o.sn.length y2, .slice x3 o.gt.length y3, .int .i64 o.cd] o x1 x2 x3 y1 y2 y3 ∧ (z.heap[B12]? = some (.cells #[.int .i64 g1, .int .i64 g2, .int .i64 g3, .string g4] 30))) → z.cell? ⟨B7, 0, none⟩ = some (.int .i64 m1) ∧ z.cell? ⟨B7, 1, none⟩ = some (.int .i64 m2) ∧ z.cell? ⟨B7, 2, none⟩ = some (.int .i64 m3) ∧ z.cell? ⟨B7, 3, none⟩ = some (.int .i64 m4) ∧ z.cell? ⟨B7, 4, none⟩ = some (.slice mx Lm.length my) ∧ z.cell? ⟨B7, 5, none⟩ = some (.bool m5) ∧ z.cell? ⟨B12, 0, none⟩ = some (.int .i64 g1) ∧ z.cell? ⟨B12, 1, none⟩ = some (.int .i64 g2) ∧ z.cell? ⟨B12, 2, none⟩ = some (.int .i64 g3) ∧ z.cell? ⟨B12, 3, none⟩ = some (.string g4)) := hide fun z h => ⟨(row6l h.1.b7).1, (row6l h.1.b7).2.1, (row6l h.1.b7).2.2.1, (row6l h.1.b7).2.2.2.1, (row6l h.1.b7).2.2.2.2.1, (row6l h.1.b7).2.2.2.2.2, (row4 h.2).1, (row4 h.2).2.1, (row4 h.2).2.2.1, (row4 h.2).2.2.2.1⟩
        have HKd : Hid (Fl w w7.drew B5 B7 B8 B9 X #[.int .i64 l1, .int .i64 l2, .int .i64 l3, .int .i64 l4, .slice lx Ll.length ly, .bool l5] #[.int .i64 m1, .int .i64 m2, .int .i64 m3, .int .i64 m4, .slice mx Lm.length my, .bool m5] #[.int .i64 n1', .int .i64 n2', .int .i64 n3, .int .i64 n4, .slice nx Ln.length ny, .bool n5] (.slice lx Ll.length ly) (.slice mx Lm.length my) (.slice nx Ln.length ny) Ll Lm Ln #[.int .i64 f1, .int .i64 f2, .int .i64 f3, .string f4] #[.int .i64 o.p.wi, .int .i64 o.p.vs, .int .i64 o.p.va, .int .i64 o.p.vr, .slice x1 o.Q.length y1, .bool o.p.ak, .slice x2 o.sn.length y2, .slice x3 o.gt.length y3, .int .i64 o.cd] o x1 x2 x3 y1 y2 y3 ∧ (w7.drew.heap[B12]? = some (.cells #[.int .i64 g1, .int .i64 g2, .int .i64 g3, .string g4] 30))) := hide (And.intro ((unhide HK).1.step ((Below.refl w7.heap.size w7).drew)) (unhide HK).2)
        clear HK
        have hQ1 := eqlNb g1 g2 g3 g4
        have hQ2 := eqlNb r1 r2 r3 r4
        have hQ3 := fun a b xs ys W => grdNb .eql a b xs ys W
        go_upto_region 17 with fail
        by_cases hz : bt.size = 0
        · have hbe : bt = ⟨#[]⟩ := by
            obtain ⟨a⟩ := bt
            congr
            exact Array.eq_empty_of_size_eq_zero hz
          subst hbe
          clear HB hz
          refine wp_region_held_drew (S := fun z => z.cell? ⟨B7, 0, none⟩ = some (.int .i64 m1) ∧ z.cell? ⟨B7, 1, none⟩ = some (.int .i64 m2) ∧ z.cell? ⟨B7, 2, none⟩ = some (.int .i64 m3) ∧ z.cell? ⟨B7, 3, none⟩ = some (.int .i64 m4) ∧ z.cell? ⟨B7, 4, none⟩ = some (.slice mx Lm.length my) ∧ z.cell? ⟨B7, 5, none⟩ = some (.bool m5) ∧ z.cell? ⟨B12, 0, none⟩ = some (.int .i64 g1) ∧ z.cell? ⟨B12, 1, none⟩ = some (.int .i64 g2) ∧ z.cell? ⟨B12, 2, none⟩ = some (.int .i64 g3) ∧ z.cell? ⟨B12, 3, none⟩ = some (.string g4)) (by kernel_rfl) (unhide SY _ (unhide HKd)) (fun hHeld => ?_)
          have F0 := HKd
          generalize w7.drew = yy at F0 hHeld ⊢
          clear HKd
          refine wpAnyH_take (i := 0) (v := ?vub1_0) rfl (by kernel_rfl) (by kernel_rfl) (by kernel_rfl) (fun _ _ _ h => h) (Or.inl ⟨by rfl, ?hyub1_0⟩) (by assumption) ?_
          case hyub1_0 =>
            intro w hSw
            try dsimp only at hSw
            go_simp
            try with_reducible rfl
          try simp only [Act.put, List.setIfInBounds_toArray, List.set_cons_zero, List.set_cons_succ, List.getElem_toArray, List.getElem_cons_zero]
          refine wpAnyH_take (i := 1) (v := ?vub2_1) rfl (by kernel_rfl) (by kernel_rfl) (by kernel_rfl) (fun _ _ _ h => h) (Or.inl ⟨by rfl, ?hyub2_1⟩) (by assumption) ?_
          case hyub2_1 =>
            intro w hSw
            try dsimp only at hSw
            go_simp
            try with_reducible rfl
          try simp only [Act.put, List.setIfInBounds_toArray, List.set_cons_zero, List.set_cons_succ, List.getElem_toArray, List.getElem_cons_zero, List.getElem_cons_succ]
          refine wpAnyH_ready (rs := [2]) (by kernel_rfl) (by simp) ?_
          refine AllReadyH.cons rfl (fun K hK => ?_) (AllReadyH.nil)
          go_simp
          refine (unhide CT yy).mono ?_
          rintro e z1 ⟨rfl, hb1⟩
          have F1 := hide (And.intro ((unhide F0).1.step hb1) ((hb1.block _ (Array.getElem?_eq_some_iff.1 (unhide F0).2).1).trans (unhide F0).2))
          clear hb1
          go_wp2_with fail
          refine hK.out _ _ (unhide SY _ (unhide F1)) (fun _ => ?_)
          clear hK K
          try simp only [Act.put, List.setIfInBounds_toArray, List.set_cons_zero, List.set_cons_succ, List.getElem_toArray, List.getElem_cons_zero, List.getElem_cons_succ]
          refine wpAnyH_take (i := 3) (v := ?vub3_3) rfl (by kernel_rfl) (by kernel_rfl) (by kernel_rfl) (fun _ _ _ h => h) (Or.inl ⟨by rfl, ?hyub3_3⟩) (by assumption) ?_
          case hyub3_3 =>
            intro w hSw
            try dsimp only at hSw
            go_simp
            try with_reducible rfl
          try simp only [Act.put, List.setIfInBounds_toArray, List.set_cons_zero, List.set_cons_succ, List.getElem_toArray, List.getElem_cons_zero, List.getElem_cons_succ]
          refine wpAnyH_take (i := 4) (v := ?vub4_4) rfl (by kernel_rfl) (by kernel_rfl) (by kernel_rfl) (fun _ _ _ h => h) (Or.inl ⟨by rfl, ?hyub4_4⟩) (by assumption) ?_
          case hyub4_4 =>
            intro w hSw
            try dsimp only at hSw
            go_simp
            try with_reducible rfl
          try simp only [Act.put, List.setIfInBounds_toArray, List.set_cons_zero, List.set_cons_succ, List.getElem_toArray, List.getElem_cons_zero, List.getElem_cons_succ]
          refine wpAnyH_take (i := 5) (v := ?vub5_5) rfl (by kernel_rfl) (by kernel_rfl) (by kernel_rfl) (fun _ _ _ h => h) (Or.inl ⟨by rfl, ?hyub5_5⟩) (by assumption) ?_
          case hyub5_5 =>
            intro w hSw
            try dsimp only at hSw
            go_simp
            try with_reducible rfl
          try simp only [Act.put, List.setIfInBounds_toArray, List.set_cons_zero, List.set_cons_succ, List.getElem_toArray, List.getElem_cons_zero, List.getElem_cons_succ]
          refine wpAnyH_take (i := 6) (v := ?vub6_6) rfl (by kernel_rfl) (by kernel_rfl) (by kernel_rfl) (fun _ _ _ h => h) (Or.inl ⟨by rfl, ?hyub6_6⟩) (by assumption) ?_
          case hyub6_6 =>
            intro w hSw
            try dsimp only at hSw
            go_simp
            try with_reducible rfl
          try simp only [Act.put, List.setIfInBounds_toArray, List.set_cons_zero, List.set_cons_succ, List.getElem_toArray, List.getElem_cons_zero, List.getElem_cons_succ]
          refine wpAnyH_take (i := 7) (v := ?vub7_7) rfl (by kernel_rfl) (by kernel_rfl) (by kernel_rfl) (fun _ _ _ h => h) (Or.inl ⟨by rfl, ?hyub7_7⟩) (by assumption) ?_
          case hyub7_7 =>
            intro w hSw
            try dsimp only at hSw
            go_simp
            try with_reducible rfl
          try simp only [Act.put, List.setIfInBounds_toArray, List.set_cons_zero, List.set_cons_succ, List.getElem_toArray, List.getElem_cons_zero, List.getElem_cons_succ]
          refine wpAnyH_take (i := 8) (v := undef) rfl (by kernel_rfl) (by kernel_rfl) (by kernel_rfl) (fun _ _ _ h => h) (Or.inr ⟨by rfl, rfl⟩) (by assumption) ?_
          try simp only [Act.put, List.setIfInBounds_toArray, List.set_cons_zero, List.set_cons_succ, List.getElem_toArray, List.getElem_cons_zero, List.getElem_cons_succ]
          refine wpAnyH_take (i := 9) (v := undef) rfl (by kernel_rfl) (by kernel_rfl) (by kernel_rfl) (fun _ _ _ h => h) (Or.inr ⟨by rfl, rfl⟩) (by assumption) ?_
          try simp only [Act.put, List.setIfInBounds_toArray, List.set_cons_zero, List.set_cons_succ, List.getElem_toArray, List.getElem_cons_zero, List.getElem_cons_succ]
          refine wpAnyH_take (i := 10) (v := undef) rfl (by kernel_rfl) (by kernel_rfl) (by kernel_rfl) (fun _ _ _ h => h) (Or.inr ⟨by rfl, rfl⟩) (by assumption) ?_
          try simp only [Act.put, List.setIfInBounds_toArray, List.set_cons_zero, List.set_cons_succ, List.getElem_toArray, List.getElem_cons_zero, List.getElem_cons_succ]
          refine wpAnyH_take (i := 11) (v := undef) rfl (by kernel_rfl) (by kernel_rfl) (by kernel_rfl) (fun _ _ _ h => h) (Or.inr ⟨by rfl, rfl⟩) (by assumption) ?_
          try simp only [Act.put, List.setIfInBounds_toArray, List.set_cons_zero, List.set_cons_succ, List.getElem_toArray, List.getElem_cons_zero, List.getElem_cons_succ]
          refine wpAnyH_take (i := 12) (v := ?vub12_12) rfl (by kernel_rfl) (by kernel_rfl) (by kernel_rfl) (fun _ _ _ h => h) (Or.inl ⟨by rfl, ?hyub12_12⟩) (by assumption) ?_
          case hyub12_12 =>
            intro w hSw
            try dsimp only at hSw
            go_simp
            try with_reducible rfl
          try simp only [Act.put, List.setIfInBounds_toArray, List.set_cons_zero, List.set_cons_succ, List.getElem_toArray, List.getElem_cons_zero, List.getElem_cons_succ]
          refine wpAnyH_take (i := 13) (v := ?vub13_13) rfl (by kernel_rfl) (by kernel_rfl) (by kernel_rfl) (fun _ _ _ h => h) (Or.inl ⟨by rfl, ?hyub13_13⟩) (by assumption) ?_
          case hyub13_13 =>
            intro w hSw
            try dsimp only at hSw
            go_simp
            try with_reducible rfl
          try simp only [Act.put, List.setIfInBounds_toArray, List.set_cons_zero, List.set_cons_succ, List.getElem_toArray, List.getElem_cons_zero, List.getElem_cons_succ]
          refine wpAnyH_take (i := 14) (v := ?vub14_14) rfl (by kernel_rfl) (by kernel_rfl) (by kernel_rfl) (fun _ _ _ h => h) (Or.inl ⟨by rfl, ?hyub14_14⟩) (by assumption) ?_
          case hyub14_14 =>
            intro w hSw
            try dsimp only at hSw
            go_simp
            try with_reducible rfl
          try simp only [Act.put, List.setIfInBounds_toArray, List.set_cons_zero, List.set_cons_succ, List.getElem_toArray, List.getElem_cons_zero, List.getElem_cons_succ]
          refine wpAnyH_take (i := 15) (v := ?vub15_15) rfl (by kernel_rfl) (by kernel_rfl) (by kernel_rfl) (fun _ _ _ h => h) (Or.inl ⟨by rfl, ?hyub15_15⟩) (by assumption) ?_
          case hyub15_15 =>
            intro w hSw
            try dsimp only at hSw
            go_simp
            try with_reducible rfl
          try simp only [Act.put, List.setIfInBounds_toArray, List.set_cons_zero, List.set_cons_succ, List.getElem_toArray, List.getElem_cons_zero, List.getElem_cons_succ]
          refine wpAnyH_take (i := 17) (v := ?vub16_17) rfl (by kernel_rfl) (by kernel_rfl) (by kernel_rfl) (fun _ _ _ h => h) (Or.inl ⟨by rfl, ?hyub16_17⟩) (by assumption) ?_
          case hyub16_17 =>
            intro w hSw
            try dsimp only at hSw
            go_simp
            try with_reducible rfl
          try simp only [Act.put, List.setIfInBounds_toArray, List.set_cons_zero, List.set_cons_succ, List.getElem_toArray, List.getElem_cons_zero, List.getElem_cons_succ]
          refine wpAnyH_ready (rs := [16]) (by kernel_rfl) (by simp) ?_
          refine AllReadyH.cons rfl (fun K hK => ?_) (AllReadyH.nil)
          go_simp
          refine (unhide CU z1).mono ?_
          rintro e z2 ⟨rfl, hb2⟩
          have F2 := hide (And.intro ((unhide F1).1.step hb2) ((hb2.block _ (Array.getElem?_eq_some_iff.1 (unhide F1).2).1).trans (unhide F1).2))
          clear hb2
          go_wp2_with fail
          refine hK.out _ _ (unhide SY _ (unhide F2)) (fun _ => ?_)
          clear hK K
          try simp only [Act.put, List.setIfInBounds_toArray, List.set_cons_zero, List.set_cons_succ, List.getElem_toArray, List.getElem_cons_zero, List.getElem_cons_succ]
          refine wpAnyH_ready (rs := [18]) (by kernel_rfl) (by simp) ?_
          refine AllReadyH.cons rfl (fun K hK => ?_) (AllReadyH.nil)
          go_simp
          refine (unhide CW z2).mono ?_
          rintro e z3 ⟨rfl, hb3⟩
          have F3 := hide (And.intro ((unhide F2).1.step hb3) ((hb3.block _ (Array.getElem?_eq_some_iff.1 (unhide F2).2).1).trans (unhide F2).2))
          clear hb3
          go_wp2_with fail
          refine hK.out _ _ (unhide SY _ (unhide F3)) (fun _ => ?_)
          clear hK K
          try simp only [Act.put, List.setIfInBounds_toArray, List.set_cons_zero, List.set_cons_succ, List.getElem_toArray, List.getElem_cons_zero, List.getElem_cons_succ]
          refine wpAnyH_take (i := 19) (v := ?vub17_19) rfl (by kernel_rfl) (by kernel_rfl) (by kernel_rfl) (fun _ _ _ h => h) (Or.inl ⟨by rfl, ?hyub17_19⟩) (by assumption) ?_
          case hyub17_19 =>
            intro w hSw
            try dsimp only at hSw
            go_simp
            try with_reducible rfl
          try simp only [Act.put, List.setIfInBounds_toArray, List.set_cons_zero, List.set_cons_succ, List.getElem_toArray, List.getElem_cons_zero, List.getElem_cons_succ]
          refine wpAnyH_take (i := 20) (v := ?vub18_20) rfl (by kernel_rfl) (by kernel_rfl) (by kernel_rfl) (fun _ _ _ h => h) (Or.inl ⟨by rfl, ?hyub18_20⟩) (by assumption) ?_
          case hyub18_20 =>
            intro w hSw
            try dsimp only at hSw
            go_simp
            try with_reducible rfl
          try simp only [Act.put, List.setIfInBounds_toArray, List.set_cons_zero, List.set_cons_succ, List.getElem_toArray, List.getElem_cons_zero, List.getElem_cons_succ]
          refine wpAnyH_take (i := 21) (v := ?vub19_21) rfl (by kernel_rfl) (by kernel_rfl) (by kernel_rfl) (fun _ _ _ h => h) (Or.inl ⟨by rfl, ?hyub19_21⟩) (by assumption) ?_
          case hyub19_21 =>
            intro w hSw
            try dsimp only at hSw
            go_simp
            try with_reducible rfl
          try simp only [Act.put, List.setIfInBounds_toArray, List.set_cons_zero, List.set_cons_succ, List.getElem_toArray, List.getElem_cons_zero, List.getElem_cons_succ]
          refine wpAnyH_take (i := 22) (v := ?vub20_22) rfl (by kernel_rfl) (by kernel_rfl) (by kernel_rfl) (fun _ _ _ h => h) (Or.inl ⟨by rfl, ?hyub20_22⟩) (by assumption) ?_
          case hyub20_22 =>
            intro w hSw
            try dsimp only at hSw
            go_simp
            try with_reducible rfl
          try simp only [Act.put, List.setIfInBounds_toArray, List.set_cons_zero, List.set_cons_succ, List.getElem_toArray, List.getElem_cons_zero, List.getElem_cons_succ]
          refine wpAnyH_take (i := 24) (v := ?vub21_24) rfl (by kernel_rfl) (by kernel_rfl) (by kernel_rfl) (fun _ _ _ h => h) (Or.inl ⟨by rfl, ?hyub21_24⟩) (by assumption) ?_
          case hyub21_24 =>
            intro w hSw
            try dsimp only at hSw
            go_simp
            try with_reducible rfl
          try simp only [Act.put, List.setIfInBounds_toArray, List.set_cons_zero, List.set_cons_succ, List.getElem_toArray, List.getElem_cons_zero, List.getElem_cons_succ]
          refine wpAnyH_ready (rs := [23]) (by kernel_rfl) (by simp) ?_
          refine AllReadyH.cons rfl (fun K hK => ?_) (AllReadyH.nil)
          go_simp
          refine (unhide CR z3 (unhide F3).1.h7).mono ?_
          rintro e z4 ⟨rfl, hb4⟩
          have F4 := hide (And.intro ((unhide F3).1.step hb4) ((hb4.block _ (Array.getElem?_eq_some_iff.1 (unhide F3).2).1).trans (unhide F3).2))
          clear hb4
          go_wp2_with fail
          refine hK.out _ _ (unhide SY _ (unhide F4)) (fun _ => ?_)
          clear hK K
          try simp only [Act.put, List.setIfInBounds_toArray, List.set_cons_zero, List.set_cons_succ, List.getElem_toArray, List.getElem_cons_zero, List.getElem_cons_succ]
          refine wpAnyH_ready (rs := [25]) (by kernel_rfl) (by simp) ?_
          refine AllReadyH.cons rfl (fun K hK => ?_) (AllReadyH.nil)
          go_simp
          refine (unhide CS z4 (unhide F4).1.h7).mono ?_
          rintro e z5 ⟨rfl, hb5⟩
          have F5 := hide (And.intro ((unhide F4).1.step hb5) ((hb5.block _ (Array.getElem?_eq_some_iff.1 (unhide F4).2).1).trans (unhide F4).2))
          clear hb5
          go_wp2_with fail
          refine hK.out _ _ (unhide SY _ (unhide F5)) (fun _ => ?_)
          clear hK K
          try simp only [Act.put, List.setIfInBounds_toArray, List.set_cons_zero, List.set_cons_succ, List.getElem_toArray, List.getElem_cons_zero, List.getElem_cons_succ]
          refine wpAnyH_take (i := 26) (v := ?vub22_26) rfl (by kernel_rfl) (by kernel_rfl) (by kernel_rfl) (fun _ _ _ h => h) (Or.inl ⟨by rfl, ?hyub22_26⟩) (by assumption) ?_
          case hyub22_26 =>
            intro w hSw
            try dsimp only at hSw
            go_simp
            try with_reducible rfl
          try simp only [Act.put, List.setIfInBounds_toArray, List.set_cons_zero, List.set_cons_succ, List.getElem_toArray, List.getElem_cons_zero, List.getElem_cons_succ]
          refine wpAnyH_take (i := 27) (v := ?vub23_27) rfl (by kernel_rfl) (by kernel_rfl) (by kernel_rfl) (fun _ _ _ h => h) (Or.inl ⟨by rfl, ?hyub23_27⟩) (by assumption) ?_
          case hyub23_27 =>
            intro w hSw
            try dsimp only at hSw
            go_simp
            try with_reducible rfl
          try simp only [Act.put, List.setIfInBounds_toArray, List.set_cons_zero, List.set_cons_succ, List.getElem_toArray, List.getElem_cons_zero, List.getElem_cons_succ]
          refine wpAnyH_take (i := 28) (v := ?vub24_28) rfl (by kernel_rfl) (by kernel_rfl) (by kernel_rfl) (fun _ _ _ h => h) (Or.inl ⟨by rfl, ?hyub24_28⟩) (by assumption) ?_
          case hyub24_28 =>
            intro w hSw
            try dsimp only at hSw
            go_simp
            try with_reducible rfl
          try simp only [Act.put, List.setIfInBounds_toArray, List.set_cons_zero, List.set_cons_succ, List.getElem_toArray, List.getElem_cons_zero, List.getElem_cons_succ]
          refine wpAnyH_done (by kernel_rfl) ?_ _
          go_wp2_with fail
          go_ret
          exact ⟨rfl, (unhide F5).1.b⟩
        · have hCV := (unhide HB).resolve_left hz
          have CV := hide hCV
          have hE1 : bt.toList.isEmpty = false := by
            rw [ByteArray.toList_eq, List.isEmpty_eq_false_iff]
            intro e
            apply hz
            have : bt.data.toList.length = bt.size := by rw [Array.length_toList]; rfl
            rw [← this, e]
            rfl
          have hE3 : ¬ bt = ⟨#[]⟩ := fun e => hz (by rw [e]; rfl)
          clear HB hCV hz
          refine wp_region_held_drew (S := fun z => z.cell? ⟨B7, 0, none⟩ = some (.int .i64 m1) ∧ z.cell? ⟨B7, 1, none⟩ = some (.int .i64 m2) ∧ z.cell? ⟨B7, 2, none⟩ = some (.int .i64 m3) ∧ z.cell? ⟨B7, 3, none⟩ = some (.int .i64 m4) ∧ z.cell? ⟨B7, 4, none⟩ = some (.slice mx Lm.length my) ∧ z.cell? ⟨B7, 5, none⟩ = some (.bool m5) ∧ z.cell? ⟨B12, 0, none⟩ = some (.int .i64 g1) ∧ z.cell? ⟨B12, 1, none⟩ = some (.int .i64 g2) ∧ z.cell? ⟨B12, 2, none⟩ = some (.int .i64 g3) ∧ z.cell? ⟨B12, 3, none⟩ = some (.string g4)) (by kernel_rfl) (unhide SY _ (unhide HKd)) (fun hHeld => ?_)
          have F0 := HKd
          generalize w7.drew = yy at F0 hHeld ⊢
          clear HKd
          refine wpAnyH_take (i := 0) (v := ?vua1_0) rfl (by kernel_rfl) (by kernel_rfl) (by kernel_rfl) (fun _ _ _ h => h) (Or.inl ⟨by rfl, ?hyua1_0⟩) (by assumption) ?_
          case hyua1_0 =>
            intro w hSw
            try dsimp only at hSw
            go_simp
            try with_reducible rfl
          try simp only [Act.put, List.setIfInBounds_toArray, List.set_cons_zero, List.set_cons_succ, List.getElem_toArray, List.getElem_cons_zero]
          refine wpAnyH_take (i := 1) (v := ?vua2_1) rfl (by kernel_rfl) (by kernel_rfl) (by kernel_rfl) (fun _ _ _ h => h) (Or.inl ⟨by rfl, ?hyua2_1⟩) (by assumption) ?_
          case hyua2_1 =>
            intro w hSw
            try dsimp only at hSw
            go_simp
            try with_reducible rfl
          try simp only [Act.put, List.setIfInBounds_toArray, List.set_cons_zero, List.set_cons_succ, List.getElem_toArray, List.getElem_cons_zero, List.getElem_cons_succ]
          refine wpAnyH_ready (rs := [2]) (by kernel_rfl) (by simp) ?_
          refine AllReadyH.cons rfl (fun K hK => ?_) (AllReadyH.nil)
          go_simp
          refine (unhide CT yy).mono ?_
          rintro e z1 ⟨rfl, hb1⟩
          have F1 := hide (And.intro ((unhide F0).1.step hb1) ((hb1.block _ (Array.getElem?_eq_some_iff.1 (unhide F0).2).1).trans (unhide F0).2))
          clear hb1
          go_wp2_with fail
          refine hK.out _ _ (unhide SY _ (unhide F1)) (fun _ => ?_)
          clear hK K
          try simp only [Act.put, List.setIfInBounds_toArray, List.set_cons_zero, List.set_cons_succ, List.getElem_toArray, List.getElem_cons_zero, List.getElem_cons_succ]
          refine wpAnyH_take (i := 3) (v := ?vua3_3) rfl (by kernel_rfl) (by kernel_rfl) (by kernel_rfl) (fun _ _ _ h => h) (Or.inl ⟨by rfl, ?hyua3_3⟩) (by assumption) ?_
          case hyua3_3 =>
            intro w hSw
            try dsimp only at hSw
            go_simp
            try with_reducible rfl
          try simp only [Act.put, List.setIfInBounds_toArray, List.set_cons_zero, List.set_cons_succ, List.getElem_toArray, List.getElem_cons_zero, List.getElem_cons_succ]
          refine wpAnyH_take (i := 4) (v := ?vua4_4) rfl (by kernel_rfl) (by kernel_rfl) (by kernel_rfl) (fun _ _ _ h => h) (Or.inl ⟨by rfl, ?hyua4_4⟩) (by assumption) ?_
          case hyua4_4 =>
            intro w hSw
            try dsimp only at hSw
            go_simp
            try with_reducible rfl
          try simp only [Act.put, List.setIfInBounds_toArray, List.set_cons_zero, List.set_cons_succ, List.getElem_toArray, List.getElem_cons_zero, List.getElem_cons_succ]
          refine wpAnyH_take (i := 5) (v := ?vua5_5) rfl (by kernel_rfl) (by kernel_rfl) (by kernel_rfl) (fun _ _ _ h => h) (Or.inl ⟨by rfl, ?hyua5_5⟩) (by assumption) ?_
          case hyua5_5 =>
            intro w hSw
            try dsimp only at hSw
            go_simp
            try with_reducible rfl
          try simp only [Act.put, List.setIfInBounds_toArray, List.set_cons_zero, List.set_cons_succ, List.getElem_toArray, List.getElem_cons_zero, List.getElem_cons_succ]
          refine wpAnyH_take (i := 6) (v := ?vua6_6) rfl (by kernel_rfl) (by kernel_rfl) (by kernel_rfl) (fun _ _ _ h => h) (Or.inl ⟨by rfl, ?hyua6_6⟩) (by assumption) ?_
          case hyua6_6 =>
            intro w hSw
            try dsimp only at hSw
            go_simp
            try with_reducible rfl
          try simp only [Act.put, List.setIfInBounds_toArray, List.set_cons_zero, List.set_cons_succ, List.getElem_toArray, List.getElem_cons_zero, List.getElem_cons_succ]
          refine wpAnyH_take (i := 7) (v := ?vua7_7) rfl (by kernel_rfl) (by kernel_rfl) (by kernel_rfl) (fun _ _ _ h => h) (Or.inl ⟨by rfl, ?hyua7_7⟩) (by assumption) ?_
          case hyua7_7 =>
            intro w hSw
            try dsimp only at hSw
            go_simp
            try with_reducible rfl
          try simp only [Act.put, List.setIfInBounds_toArray, List.set_cons_zero, List.set_cons_succ, List.getElem_toArray, List.getElem_cons_zero, List.getElem_cons_succ]
          refine wpAnyH_take (i := 8) (v := ?vua8_8) rfl (by kernel_rfl) (by kernel_rfl) (by kernel_rfl) (fun _ _ _ h => h) (Or.inl ⟨by rfl, ?hyua8_8⟩) (by assumption) ?_
          case hyua8_8 =>
            intro w hSw
            try dsimp only at hSw
            go_simp
            try with_reducible rfl
          try simp only [Act.put, List.setIfInBounds_toArray, List.set_cons_zero, List.set_cons_succ, List.getElem_toArray, List.getElem_cons_zero, List.getElem_cons_succ]
          refine wpAnyH_take (i := 10) (v := ?vua9_10) rfl (by kernel_rfl) (by kernel_rfl) (by kernel_rfl) (fun _ _ _ h => h) (Or.inl ⟨by rfl, ?hyua9_10⟩) (by assumption) ?_
          case hyua9_10 =>
            intro w hSw
            try dsimp only at hSw
            go_simp
            try with_reducible rfl
          try simp only [Act.put, List.setIfInBounds_toArray, List.set_cons_zero, List.set_cons_succ, List.getElem_toArray, List.getElem_cons_zero, List.getElem_cons_succ]
          refine wpAnyH_ready (rs := [9]) (by kernel_rfl) (by simp) ?_
          refine AllReadyH.cons rfl (fun K hK => ?_) (AllReadyH.nil)
          go_simp
          refine (unhide CV z1).mono ?_
          rintro e z2 ⟨rfl, hb2⟩
          have F2 := hide (And.intro ((unhide F1).1.step hb2) ((hb2.block _ (Array.getElem?_eq_some_iff.1 (unhide F1).2).1).trans (unhide F1).2))
          clear hb2
          go_wp2_with fail
          refine hK.out _ _ (unhide SY _ (unhide F2)) (fun _ => ?_)
          clear hK K
          try simp only [Act.put, List.setIfInBounds_toArray, List.set_cons_zero, List.set_cons_succ, List.getElem_toArray, List.getElem_cons_zero, List.getElem_cons_succ]
          refine wpAnyH_take (i := 11) (v := ?vua10_11) rfl (by kernel_rfl) (by kernel_rfl) (by kernel_rfl) (fun _ _ _ h => h) (Or.inl ⟨by rfl, ?hyua10_11⟩) (by assumption) ?_
          case hyua10_11 =>
            intro w hSw
            try dsimp only at hSw
            go_simp
            try with_reducible rfl
          try simp only [Act.put, List.setIfInBounds_toArray, List.set_cons_zero, List.set_cons_succ, List.getElem_toArray, List.getElem_cons_zero, List.getElem_cons_succ]
          refine wpAnyH_take (i := 12) (v := ?vua11_12) rfl (by kernel_rfl) (by kernel_rfl) (by kernel_rfl) (fun _ _ _ h => h) (Or.inl ⟨by rfl, ?hyua11_12⟩) (by assumption) ?_
          case hyua11_12 =>
            intro w hSw
            try dsimp only at hSw
            go_simp
            try with_reducible rfl
          try simp only [Act.put, List.setIfInBounds_toArray, List.set_cons_zero, List.set_cons_succ, List.getElem_toArray, List.getElem_cons_zero, List.getElem_cons_succ]
          refine wpAnyH_take (i := 13) (v := ?vua12_13) rfl (by kernel_rfl) (by kernel_rfl) (by kernel_rfl) (fun _ _ _ h => h) (Or.inl ⟨by rfl, ?hyua12_13⟩) (by assumption) ?_
          case hyua12_13 =>
            intro w hSw
            try dsimp only at hSw
            go_simp
            try with_reducible rfl
          try simp only [Act.put, List.setIfInBounds_toArray, List.set_cons_zero, List.set_cons_succ, List.getElem_toArray, List.getElem_cons_zero, List.getElem_cons_succ]
          refine wpAnyH_take (i := 14) (v := ?vua13_14) rfl (by kernel_rfl) (by kernel_rfl) (by kernel_rfl) (fun _ _ _ h => h) (Or.inl ⟨by rfl, ?hyua13_14⟩) (by assumption) ?_
          case hyua13_14 =>
            intro w hSw
            try dsimp only at hSw
            go_simp
            try with_reducible rfl
          try simp only [Act.put, List.setIfInBounds_toArray, List.set_cons_zero, List.set_cons_succ, List.getElem_toArray, List.getElem_cons_zero, List.getElem_cons_succ]
          refine wpAnyH_take (i := 15) (v := ?vua14_15) rfl (by kernel_rfl) (by kernel_rfl) (by kernel_rfl) (fun _ _ _ h => h) (Or.inl ⟨by rfl, ?hyua14_15⟩) (by assumption) ?_
          case hyua14_15 =>
            intro w hSw
            try dsimp only at hSw
            go_simp
            try with_reducible rfl
          try simp only [Act.put, List.setIfInBounds_toArray, List.set_cons_zero, List.set_cons_succ, List.getElem_toArray, List.getElem_cons_zero, List.getElem_cons_succ]
          refine wpAnyH_take (i := 17) (v := ?vua15_17) rfl (by kernel_rfl) (by kernel_rfl) (by kernel_rfl) (fun _ _ _ h => h) (Or.inl ⟨by rfl, ?hyua15_17⟩) (by assumption) ?_
          case hyua15_17 =>
            intro w hSw
            try dsimp only at hSw
            go_simp
            try with_reducible rfl
          try simp only [Act.put, List.setIfInBounds_toArray, List.set_cons_zero, List.set_cons_succ, List.getElem_toArray, List.getElem_cons_zero, List.getElem_cons_succ]
          refine wpAnyH_ready (rs := [16]) (by kernel_rfl) (by simp) ?_
          refine AllReadyH.cons rfl (fun K hK => ?_) (AllReadyH.nil)
          go_simp
          refine (unhide CU z2).mono ?_
          rintro e z3 ⟨rfl, hb3⟩
          have F3 := hide (And.intro ((unhide F2).1.step hb3) ((hb3.block _ (Array.getElem?_eq_some_iff.1 (unhide F2).2).1).trans (unhide F2).2))
          clear hb3
          go_wp2_with fail
          refine hK.out _ _ (unhide SY _ (unhide F3)) (fun _ => ?_)
          clear hK K
          try simp only [Act.put, List.setIfInBounds_toArray, List.set_cons_zero, List.set_cons_succ, List.getElem_toArray, List.getElem_cons_zero, List.getElem_cons_succ]
          refine wpAnyH_ready (rs := [18]) (by kernel_rfl) (by simp) ?_
          refine AllReadyH.cons rfl (fun K hK => ?_) (AllReadyH.nil)
          go_simp
          refine (unhide CW z3).mono ?_
          rintro e z4 ⟨rfl, hb4⟩
          have F4 := hide (And.intro ((unhide F3).1.step hb4) ((hb4.block _ (Array.getElem?_eq_some_iff.1 (unhide F3).2).1).trans (unhide F3).2))
          clear hb4
          go_wp2_with fail
          refine hK.out _ _ (unhide SY _ (unhide F4)) (fun _ => ?_)
          clear hK K
          try simp only [Act.put, List.setIfInBounds_toArray, List.set_cons_zero, List.set_cons_succ, List.getElem_toArray, List.getElem_cons_zero, List.getElem_cons_succ]
          refine wpAnyH_take (i := 19) (v := ?vua16_19) rfl (by kernel_rfl) (by kernel_rfl) (by kernel_rfl) (fun _ _ _ h => h) (Or.inl ⟨by rfl, ?hyua16_19⟩) (by assumption) ?_
          case hyua16_19 =>
            intro w hSw
            try dsimp only at hSw
            go_simp
            try with_reducible rfl
          try simp only [Act.put, List.setIfInBounds_toArray, List.set_cons_zero, List.set_cons_succ, List.getElem_toArray, List.getElem_cons_zero, List.getElem_cons_succ]
          refine wpAnyH_take (i := 20) (v := ?vua17_20) rfl (by kernel_rfl) (by kernel_rfl) (by kernel_rfl) (fun _ _ _ h => h) (Or.inl ⟨by rfl, ?hyua17_20⟩) (by assumption) ?_
          case hyua17_20 =>
            intro w hSw
            try dsimp only at hSw
            go_simp
            try with_reducible rfl
          try simp only [Act.put, List.setIfInBounds_toArray, List.set_cons_zero, List.set_cons_succ, List.getElem_toArray, List.getElem_cons_zero, List.getElem_cons_succ]
          refine wpAnyH_take (i := 21) (v := ?vua18_21) rfl (by kernel_rfl) (by kernel_rfl) (by kernel_rfl) (fun _ _ _ h => h) (Or.inl ⟨by rfl, ?hyua18_21⟩) (by assumption) ?_
          case hyua18_21 =>
            intro w hSw
            try dsimp only at hSw
            go_simp
            try with_reducible rfl
          try simp only [Act.put, List.setIfInBounds_toArray, List.set_cons_zero, List.set_cons_succ, List.getElem_toArray, List.getElem_cons_zero, List.getElem_cons_succ]
          refine wpAnyH_take (i := 22) (v := ?vua19_22) rfl (by kernel_rfl) (by kernel_rfl) (by kernel_rfl) (fun _ _ _ h => h) (Or.inl ⟨by rfl, ?hyua19_22⟩) (by assumption) ?_
          case hyua19_22 =>
            intro w hSw
            try dsimp only at hSw
            go_simp
            try with_reducible rfl
          try simp only [Act.put, List.setIfInBounds_toArray, List.set_cons_zero, List.set_cons_succ, List.getElem_toArray, List.getElem_cons_zero, List.getElem_cons_succ]
          refine wpAnyH_take (i := 24) (v := ?vua20_24) rfl (by kernel_rfl) (by kernel_rfl) (by kernel_rfl) (fun _ _ _ h => h) (Or.inl ⟨by rfl, ?hyua20_24⟩) (by assumption) ?_
          case hyua20_24 =>
            intro w hSw
            try dsimp only at hSw
            go_simp
            try with_reducible rfl
          try simp only [Act.put, List.setIfInBounds_toArray, List.set_cons_zero, List.set_cons_succ, List.getElem_toArray, List.getElem_cons_zero, List.getElem_cons_succ]
          refine wpAnyH_ready (rs := [23]) (by kernel_rfl) (by simp) ?_
          refine AllReadyH.cons rfl (fun K hK => ?_) (AllReadyH.nil)
          go_simp
          refine (unhide CR z4 (unhide F4).1.h7).mono ?_
          rintro e z5 ⟨rfl, hb5⟩
          have F5 := hide (And.intro ((unhide F4).1.step hb5) ((hb5.block _ (Array.getElem?_eq_some_iff.1 (unhide F4).2).1).trans (unhide F4).2))
          clear hb5
          go_wp2_with fail
          refine hK.out _ _ (unhide SY _ (unhide F5)) (fun _ => ?_)
          clear hK K
          try simp only [Act.put, List.setIfInBounds_toArray, List.set_cons_zero, List.set_cons_succ, List.getElem_toArray, List.getElem_cons_zero, List.getElem_cons_succ]
          refine wpAnyH_ready (rs := [25]) (by kernel_rfl) (by simp) ?_
          refine AllReadyH.cons rfl (fun K hK => ?_) (AllReadyH.nil)
          go_simp
          refine (unhide CS z5 (unhide F5).1.h7).mono ?_
          rintro e z6 ⟨rfl, hb6⟩
          have F6 := hide (And.intro ((unhide F5).1.step hb6) ((hb6.block _ (Array.getElem?_eq_some_iff.1 (unhide F5).2).1).trans (unhide F5).2))
          clear hb6
          go_wp2_with fail
          refine hK.out _ _ (unhide SY _ (unhide F6)) (fun _ => ?_)
          clear hK K
          try simp only [Act.put, List.setIfInBounds_toArray, List.set_cons_zero, List.set_cons_succ, List.getElem_toArray, List.getElem_cons_zero, List.getElem_cons_succ]
          refine wpAnyH_take (i := 26) (v := ?vua21_26) rfl (by kernel_rfl) (by kernel_rfl) (by kernel_rfl) (fun _ _ _ h => h) (Or.inl ⟨by rfl, ?hyua21_26⟩) (by assumption) ?_
          case hyua21_26 =>
            intro w hSw
            try dsimp only at hSw
            go_simp
            try with_reducible rfl
          try simp only [Act.put, List.setIfInBounds_toArray, List.set_cons_zero, List.set_cons_succ, List.getElem_toArray, List.getElem_cons_zero, List.getElem_cons_succ]
          refine wpAnyH_take (i := 27) (v := ?vua22_27) rfl (by kernel_rfl) (by kernel_rfl) (by kernel_rfl) (fun _ _ _ h => h) (Or.inl ⟨by rfl, ?hyua22_27⟩) (by assumption) ?_
          case hyua22_27 =>
            intro w hSw
            try dsimp only at hSw
            go_simp
            try with_reducible rfl
          try simp only [Act.put, List.setIfInBounds_toArray, List.set_cons_zero, List.set_cons_succ, List.getElem_toArray, List.getElem_cons_zero, List.getElem_cons_succ]
          refine wpAnyH_take (i := 28) (v := ?vua23_28) rfl (by kernel_rfl) (by kernel_rfl) (by kernel_rfl) (fun _ _ _ h => h) (Or.inl ⟨by rfl, ?hyua23_28⟩) (by assumption) ?_
          case hyua23_28 =>
            intro w hSw
            try dsimp only at hSw
            go_simp
            try with_reducible rfl
          try simp only [Act.put, List.setIfInBounds_toArray, List.set_cons_zero, List.set_cons_succ, List.getElem_toArray, List.getElem_cons_zero, List.getElem_cons_succ]
          refine wpAnyH_done (by kernel_rfl) ?_ _
          go_wp2_with fail
          go_ret
          exact ⟨rfl, (unhide F6).1.b⟩
end Go.Proofs.Ytjgnldkncoighaa
