/- A numbered line's end: its cells; the law's words on it: copied, counted, compared, marked, held; what lay in memory stands but for the marked row. -/
import Derived.Test.YtckebgalfomonaaLpA
import Derived.Test.YtckebgalfomonaaStrMarks
namespace Go.Proofs.Ytckebgalfomonaa
open Go.RowKit
/-- An end of a numbered line, but for its texts. -/
structure Lp where
  wi : Int
  vs : Int
  va : Int
  vr : Int
  ak : Bool
def lpC (p : Lp) (v : Value) : Array Value := #[.int .i64 p.wi, .int .i64 p.vs, .int .i64 p.va, .int .i64 p.vr, v, .bool p.ak]
theorem row6l {w : World} {B : Nat} {x0 x1 x2 x3 x4 x5 : Value} {T : TypeId} (h : w.heap[B]? = some (.cells #[x0, x1, x2, x3, x4, x5] T)) :
    w.cell? ⟨B, 0, none⟩ = some x0 ∧ w.cell? ⟨B, 1, none⟩ = some x1 ∧ w.cell? ⟨B, 2, none⟩ = some x2 ∧ w.cell? ⟨B, 3, none⟩ = some x3 ∧ w.cell? ⟨B, 4, none⟩ = some x4 ∧ w.cell? ⟨B, 5, none⟩ = some x5 :=
  ⟨by rw [cell_of_row _ _ 0 _ _ (0, 0) h]; rfl, by rw [cell_of_row _ _ 1 _ _ (0, 0) h]; rfl, by rw [cell_of_row _ _ 2 _ _ (0, 0) h]; rfl, by rw [cell_of_row _ _ 3 _ _ (0, 0) h]; rfl, by rw [cell_of_row _ _ 4 _ _ (0, 0) h]; rfl, by rw [cell_of_row _ _ 5 _ _ (0, 0) h]; rfl⟩
theorem new2l (w : World) (a b : Obj) : ((w.alloc a).alloc b).heap[w.heap.size]? = some a ∧ ((w.alloc a).alloc b).heap[w.heap.size + 1]? = some b ∧ Below w.heap.size w ((w.alloc a).alloc b) ∧ ((w.alloc a).alloc b).heap.size = w.heap.size + 2 := by
  have hs : (w.alloc a).heap.size = w.heap.size + 1 := by simp
  refine ⟨(Below.heap_alloc _ _ _ (by rw [hs]; omega)).trans (heap_alloc_new w a), by rw [← hs]; exact heap_alloc_new _ _, ((Below.refl _ _).alloc (Nat.le_refl _) _).alloc (by rw [hs]; omega) _, by simp⟩
theorem new3l (w : World) (a b c : Obj) : (((w.alloc a).alloc b).alloc c).heap[w.heap.size]? = some a ∧ (((w.alloc a).alloc b).alloc c).heap[w.heap.size + 1]? = some b ∧ (((w.alloc a).alloc b).alloc c).heap[w.heap.size + 1 + 1]? = some c ∧ Below w.heap.size w (((w.alloc a).alloc b).alloc c) ∧ (((w.alloc a).alloc b).alloc c).heap.size = w.heap.size + 3 := by
  obtain ⟨h1, h2, h3, h4⟩ := new2l w a b
  refine ⟨(Below.heap_alloc _ _ _ (by rw [h4]; omega)).trans h1, (Below.heap_alloc _ _ _ (by rw [h4]; omega)).trans h2, by rw [show w.heap.size + 1 + 1 = ((w.alloc a).alloc b).heap.size by rw [h4]]; exact heap_alloc_new _ _, h3.alloc (by rw [h4]; omega) _, by simp⟩
theorem frz6l {w : World} {B : Nat} {x0 x1 x2 x3 x4 x5 : Value} {T : TypeId} (h : w.heap[B]? = some (.cells #[x0, x1, x2, x3, x4, x5] T)) :
    w.frozen? ⟨B, 0, none⟩ = false ∧ w.frozen? ⟨B, 1, none⟩ = false ∧ w.frozen? ⟨B, 2, none⟩ = false ∧ w.frozen? ⟨B, 3, none⟩ = false ∧ w.frozen? ⟨B, 4, none⟩ = false ∧ w.frozen? ⟨B, 5, none⟩ = false :=
  ⟨frz h _, frz h _, frz h _, frz h _, frz h _, frz h _⟩
theorem set6_lp {W : World} {E : Nat} {z0 z1 z2 z3 z4 z5 : Value} {T : TypeId} (h : W.heap[E]? = some (.cells #[z0, z1, z2, z3, z4, z5] T)) (x0 x1 x2 x3 x4 x5 : Value) :
    ((((((W.setCell ⟨E, 0, none⟩ x0).setCell ⟨E, 1, none⟩ x1).setCell ⟨E, 2, none⟩ x2).setCell ⟨E, 3, none⟩ x3).setCell ⟨E, 4, none⟩ x4).setCell ⟨E, 5, none⟩ x5).heap[E]? = some (.cells #[x0, x1, x2, x3, x4, x5] T) :=
  heap_setCell_same _ _ 5 _ _ x5 (heap_setCell_same _ _ 4 _ _ x4 (heap_setCell_same _ _ 3 _ _ x3 (heap_setCell_same _ _ 2 _ _ x2 (heap_setCell_same _ _ 1 _ _ x1 (heap_setCell_same _ _ 0 _ _ x0 h)))))
theorem set6_lb {n : Nat} {w W : World} {E : Nat} (h : Below n w W) (hE : n ≤ E) (x0 x1 x2 x3 x4 x5 : Value) :
    Below n w ((((((W.setCell ⟨E, 0, none⟩ x0).setCell ⟨E, 1, none⟩ x1).setCell ⟨E, 2, none⟩ x2).setCell ⟨E, 3, none⟩ x3).setCell ⟨E, 4, none⟩ x4).setCell ⟨E, 5, none⟩ x5) :=
  (((((h.setCell (p := ⟨E, 0, none⟩) hE _).setCell (p := ⟨E, 1, none⟩) hE _).setCell (p := ⟨E, 2, none⟩) hE _).setCell (p := ⟨E, 3, none⟩) hE _).setCell (p := ⟨E, 4, none⟩) hE _).setCell (p := ⟨E, 5, none⟩) hE _
theorem HoldsT.set {w : World} {v : Value} {L : List ByteArray} (h : HoldsT w v L) {a : Addr} (hne : ∀ g, v.ownBlock = some g → g ≠ a.block) (x : Value) : HoldsT (w.setCell a x) v L := by
  rcases h with ⟨ad, cp, e, e0⟩ | ⟨g, cp, cur, e, q1, q2⟩
  · exact Or.inl ⟨ad, cp, e, e0⟩
  · exact Or.inr ⟨g, cp, cur, e, (heap_setCell_other _ _ _ _ (hne g (by rw [e]; rfl))).trans q1, q2⟩
theorem keep2l {W : World} {B : Nat} {o : Obj} (h : W.heap[B + 1]? = some o) (x4 x5 : Value) : ((W.setCell ⟨B + 1 + 1, 4, none⟩ x4).setCell ⟨B + 1 + 1, 5, none⟩ x5).heap[B + 1]? = some o :=
  (heap_setCell_other _ _ _ _ (by show B + 1 ≠ B + 1 + 1; omega)).trans ((heap_setCell_other _ _ _ _ (by show B + 1 ≠ B + 1 + 1; omega)).trans h)
set_option maxHeartbeats 2000000 in
theorem eqLp (p : Lp) (x1 x2 : Option Addr) (y1 y2 : Nat) (L : List ByteArray) (w : World) (hL : L.length ≤ 2000000) (h1 : HoldsT w (.slice x1 L.length y1) L) (h2 : HoldsT w (.slice x2 L.length y2) L) :
    Calls Try.prog 10 #[.agg (lpC p (.slice x1 L.length y1)), .agg (lpC p (.slice x2 L.length y2))] w fun e w' => e = .returned (.bool true) ∧ Below w.heap.size w w' := by
  have C := hide fun W (hb : Below w.heap.size w W) => eqT _ _ L W hL (h1.below hb rfl) (h2.below hb rfl)
  obtain ⟨wi, vs, va, vr, ak⟩ := p
  obtain ⟨_, _, hb0, _⟩ := new2l w (.cells (lpC ⟨wi, vs, va, vr, ak⟩ (.slice x1 L.length y1)) 24) (.cells (lpC ⟨wi, vs, va, vr, ak⟩ (.slice x2 L.length y2)) 24)
  unfold lpC at hb0 ⊢
  dsimp only at hb0 ⊢
  have hA := hide hb0
  obtain ⟨q0, q1, _, _⟩ := new2l w (.cells #[.int .i64 wi, .int .i64 vs, .int .i64 va, .int .i64 vr, .slice x1 L.length y1, .bool ak] 24) (.cells #[.int .i64 wi, .int .i64 vs, .int .i64 va, .int .i64 vr, .slice x2 L.length y2, .bool ak] 24)
  have HQ := hide (And.intro q0 q1)
  clear h1 h2 hb0 q0 q1
  generalize L.length = n at *
  go_enter Try.func10, Try.ntmps10
  go_wp2_with fail
  refine (unhide C _ (unhide hA)).mono ?_
  rintro e w1 ⟨rfl, hb1⟩
  have k0 := (hb1.block w.heap.size (Array.getElem?_eq_some_iff.1 (unhide HQ).1).1).trans (unhide HQ).1
  have k1 := (hb1.block (w.heap.size + 1) (Array.getElem?_eq_some_iff.1 (unhide HQ).2).1).trans (unhide HQ).2
  obtain ⟨_, _, _, _, _, c5⟩ := row6l k0
  obtain ⟨_, _, _, _, _, e5⟩ := row6l k1
  have HB := hide ((unhide hA).trans (hb1.mono (unhide hA).size))
  clear k0 k1 hb1 hA HQ C
  go_wp2
  go_ret
  exact ⟨rfl, unhide HB⟩
set_option maxHeartbeats 2000000 in
theorem markLp (p : Lp) (x1 : Option Addr) (y1 : Nat) (L : List ByteArray) (k : Nat) (w : World) (hk : 0 < k) (hL : k + L.length < 9000000) (h1 : HoldsT w (.slice x1 L.length y1) L) :
    Calls Try.prog 11 #[.agg (lpC p (.slice x1 L.length y1)), .int .i64 k] w fun e w' => e = .returned (.int .i64 ((k + L.length : Nat) : Int)) ∧ HoldsT w' (.slice x1 L.length y1) (mtl k L.length) ∧ But (Value.slice x1 L.length y1).ownBlock w w' ∧ (L = [] → Below w.heap.size w w') := by
  have C := hide fun W (hb : Below w.heap.size w W) => markTF _ L k W hk hL (h1.below hb rfl)
  have hA := hide ((Below.refl w.heap.size w).alloc (Nat.le_refl _) (.cells (lpC p (.slice x1 L.length y1)) 24))
  obtain ⟨wi, vs, va, vr, ak⟩ := p
  unfold lpC at hA ⊢
  dsimp only at hA ⊢
  clear h1
  generalize hn : L.length = n at *
  go_enter Try.func11, Try.ntmps11
  go_wp2_with fail
  refine (unhide C _ (unhide hA)).mono ?_
  rintro e w1 ⟨rfl, hm, hbut, h0⟩
  have HX := hide (And.intro hm (And.intro hbut h0))
  clear hm hbut h0
  go_wp2
  go_ret
  obtain ⟨hm, hbut, h0⟩ := unhide HX
  have hs : w.heap.size ≤ (w.alloc (.cells #[.int .i64 wi, .int .i64 vs, .int .i64 va, .int .i64 vr, .slice x1 n y1, .bool ak] 24)).heap.size := by simp
  refine ⟨rfl, hm, ⟨hbut.os.trans (unhide hA).os, hbut.tape.trans (unhide hA).tape, hbut.output.trans (unhide hA).output, Nat.le_trans (unhide hA).size hbut.size, fun b hb hne => (hbut.block b (Nat.lt_of_lt_of_le hb hs) hne).trans ((unhide hA).block b hb)⟩, fun e => (unhide hA).trans ((h0 e).mono hs)⟩
set_option maxHeartbeats 2000000 in
theorem heldLp (p : Lp) (x1 : Option Addr) (y1 n k : Nat) (w : World) (hk : 0 < k) (hL : k + n < 9000000) (h1 : HoldsT w (.slice x1 n y1) (mtl k n)) :
    Calls Try.prog 12 #[.agg (lpC p (.slice x1 n y1)), .int .i64 k] w fun e w' => e = .returned (.int .i64 ((k + n : Nat) : Int)) ∧ Below w.heap.size w w' := by
  have C := hide fun W (hb : Below w.heap.size w W) => heldTF _ n k W hk hL (h1.below hb rfl)
  have hA := hide ((Below.refl w.heap.size w).alloc (Nat.le_refl _) (.cells (lpC p (.slice x1 n y1)) 24))
  obtain ⟨wi, vs, va, vr, ak⟩ := p
  have d1 : ¬ (((k + n : Nat) : Int) < 0) := by omega
  unfold lpC at hA ⊢
  dsimp only at hA ⊢
  clear h1
  generalize k + n = K at *
  go_enter Try.func12, Try.ntmps12
  go_wp2_with fail
  refine (unhide C _ (unhide hA)).mono ?_
  rintro e w1 ⟨rfl, hb1⟩
  have HX := hide ((unhide hA).trans (hb1.mono (unhide hA).size))
  clear hb1
  go_wp2
  go_ret
  exact ⟨rfl, unhide HX⟩
set_option maxHeartbeats 2000000 in
theorem szLp (p : Lp) (x1 : Option Addr) (y1 : Nat) (L : List ByteArray) (w : World) (l1 : L.length ≤ maxLen) (h1 : ArgT w (.slice x1 L.length y1) L) :
    Calls Try.prog 13 #[.agg (lpC p (.slice x1 L.length y1)), .int .i64 1048576] w fun r w' => ∃ z : Int, r = .returned (.int .i64 z) ∧ (z = -1 ∨ (L.length ≤ 1048576 ∧ ∃ m : Nat, z = (m : Int) ∧ m ≤ 1048576)) ∧ Below w.heap.size w w' := by
  have C := hide fun W (hb : Below w.heap.size w W) => szTs _ L 1048576 W (Nat.le_refl _) l1 (h1.below hb)
  have hA := hide ((Below.refl w.heap.size w).alloc (Nat.le_refl _) (.cells (lpC p (.slice x1 L.length y1)) 29))
  obtain ⟨wi, vs, va, vr, ak⟩ := p
  unfold lpC at hA ⊢
  dsimp only at hA ⊢
  clear h1 l1
  generalize L.length = n at *
  go_enter Try.func13, Try.ntmps13
  go_wp2_with fail
  refine (unhide C _ (unhide hA)).mono ?_
  rintro e w1 ⟨z, rfl, hz, hb1⟩
  have HX := hide ((unhide hA).trans (hb1.mono (unhide hA).size))
  clear hb1
  rcases hz with rfl | ⟨hz1, k, rfl, hk⟩
  · have e1 : (-1 : Int) < 0 := by decide
    go_wp2
    go_ret
    exact ⟨-1, rfl, Or.inl rfl, unhide HX⟩
  · have e1 : ¬ ((k : Int) < 0) := by omega
    go_wp2
    go_ret
    exact ⟨_, rfl, Or.inr ⟨hz1, k, rfl, hk⟩, unhide HX⟩
theorem infoL : (Try.prog.info? 24).map (·.size) = some 6 := by kernel_rfl
theorem loadL {W : World} {E : Nat} {cs : Array Value} (h : W.heap[E]? = some (.cells cs 24)) (hs : cs.size = 6 := by rfl) : (loadVar 24 ⟨E, 0, none⟩).run Try.prog W = .ok (.agg cs) W :=
  run_loadVar_row (P := Try.prog) _ _ 24 24 cs (0, 0) _ h Try.underlying24 rfl (by rw [hs]; exact infoL)
set_option maxHeartbeats 4000000 in
theorem toLp (p : Lp) (x1 : Option Addr) (y1 : Nat) (L : List ByteArray) (w : World) (l1 : L.length ≤ 1048576) (h1 : ArgT w (.slice x1 L.length y1) L) :
    Calls Try.prog 15 #[.agg (lpC p (.slice x1 L.length y1))] w fun r w' => ∃ u1 z1, r = .returned (.agg (lpC p (.slice u1 L.length z1))) ∧ HoldsT w' (.slice u1 L.length z1) L ∧ (∀ g, (Value.slice u1 L.length z1).ownBlock = some g → w.heap.size ≤ g) ∧ Below w.heap.size w w' := by
  have C := hide fun W (hb : Below w.heap.size w W) => toTs _ L W l1 (h1.below hb)
  obtain ⟨wi, vs, va, vr, ak⟩ := p
  unfold lpC
  dsimp only
  clear h1
  generalize hn : L.length = n at *
  go_enter Try.func15, Try.ntmps15
  go_wp2_with fail
  have q := new3l w (.cells #[.int .i64 wi, .int .i64 vs, .int .i64 va, .int .i64 vr, .slice x1 n y1, .bool ak] 29) (.cells #[.int .i64 0, .int .i64 0, .int .i64 0, .int .i64 0, .slice none 0 0, .bool false] 24) (.cells #[.int .i64 wi, .int .i64 vs, .int .i64 va, .int .i64 vr, .slice none 0 0, .bool false] 24)
  refine (unhide C _ q.2.2.2.1).mono ?_
  rintro e w1 ⟨u, rfl, hu, hul, hb1⟩
  obtain ⟨u1, z1, e1⟩ := hu.form
  rw [hn] at e1
  subst e1
  have k0 := (hb1.block w.heap.size (Array.getElem?_eq_some_iff.1 q.1).1).trans q.1
  have k1 := (hb1.block (w.heap.size + 1) (Array.getElem?_eq_some_iff.1 q.2.1).1).trans q.2.1
  have k2 := (hb1.block (w.heap.size + 1 + 1) (Array.getElem?_eq_some_iff.1 q.2.2.1).1).trans q.2.2.1
  have hlo : ∀ g, (Value.slice u1 n z1).ownBlock = some g → w.heap.size + 3 ≤ g := fun g hg => by have := hul g hg; rw [q.2.2.2.2] at this; exact this
  have HX := hide (And.intro hu (And.intro hlo (And.intro (q.2.2.2.1.trans (hb1.mono q.2.2.2.1.size)) (And.intro k1 k2))))
  obtain ⟨a0, a1, a2, a3, a4, a5⟩ := row6l k0
  obtain ⟨r0, r1, r2, r3, r4, r5⟩ := row6l k1
  obtain ⟨o0, o1, o2, o3, o4, o5⟩ := row6l k2
  obtain ⟨f0, f1, f2, f3, f4, f5⟩ := frz6l k1
  obtain ⟨p0, p1, p2, p3, p4, p5⟩ := frz6l k2
  have n1 : ¬ (w.heap.size = w.heap.size + 1) := by omega
  have n2 : ¬ (w.heap.size = w.heap.size + 1 + 1) := by omega
  have n3 : ¬ (w.heap.size + 1 = w.heap.size + 1 + 1) := by omega
  have n4 : ¬ (w.heap.size + 1 + 1 = w.heap.size) := by omega
  have n5 : ¬ (w.heap.size + 1 + 1 = w.heap.size + 1) := by omega
  clear q k0 k1 k2 hu hul hb1 hlo C
  go_wp2
  refine bodyPost_ret (v := .agg #[.int .i64 wi, .int .i64 vs, .int .i64 va, .int .i64 vr, .slice u1 n z1, .bool ak]) (by simp [results, Try.results15, asAddr, loadL (set6_lp (keep2l (unhide HX).2.2.2.1 (.slice u1 n z1) (.bool ak)) (.int .i64 wi) (.int .i64 vs) (.int .i64 va) (.int .i64 vr) (.slice u1 n z1) (.bool ak))]) rfl ?_
  obtain ⟨hu, hlo, hb, _, _⟩ := unhide HX
  refine ⟨u1, z1, rfl, ?_, fun g hg => by have := hlo g hg; omega, ?_⟩
  · have m1 : ∀ g, (Value.slice u1 n z1).ownBlock = some g → g ≠ w.heap.size + 1 := fun g hg => by have := hlo g hg; omega
    have m2 : ∀ g, (Value.slice u1 n z1).ownBlock = some g → g ≠ w.heap.size + 1 + 1 := fun g hg => by have := hlo g hg; omega
    exact (((((((hu.set (a := ⟨w.heap.size + 1 + 1, 4, none⟩) m2 _).set (a := ⟨w.heap.size + 1 + 1, 5, none⟩) m2 _).set (a := ⟨w.heap.size + 1, 0, none⟩) m1 _).set (a := ⟨w.heap.size + 1, 1, none⟩) m1 _).set (a := ⟨w.heap.size + 1, 2, none⟩) m1 _).set (a := ⟨w.heap.size + 1, 3, none⟩) m1 _).set (a := ⟨w.heap.size + 1, 4, none⟩) m1 _).set (a := ⟨w.heap.size + 1, 5, none⟩) m1 _
  · exact set6_lb ((hb.setCell (p := ⟨w.heap.size + 1 + 1, 4, none⟩) (by show w.heap.size ≤ w.heap.size + 1 + 1; omega) _).setCell (p := ⟨w.heap.size + 1 + 1, 5, none⟩) (by show w.heap.size ≤ w.heap.size + 1 + 1; omega) _) (by omega) _ _ _ _ _ _
end Go.Proofs.Ytckebgalfomonaa
