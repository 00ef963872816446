/- An End as a value, and its cells; are two Ends the same, by the law's eqEnd; what lay in memory stands. -/
import Derived.Test.YtakbldleomhggaaOptEq
import Derived.Test.YtakbldleomhggaaLnI
namespace Go.Proofs.Ytakbldleomhggaa
open Go.RowKit
/-- An End, but for its two rows of options. -/
structure En where
  m1 : Int
  a1 : Int
  g1 : Int
  p1 : Bool
  c1 : Bool
  d1 : Bool
  m2 : Int
  a2 : Int
  g2 : Int
  p2 : Bool
  c2 : Bool
  d2 : Bool
  st : Int
  tr : Int
  du : Int
  id : Int
  fl : Int
  up : Bool
  i1 : Int
  i2 : Int
  i3 : Bool
  i4 : Bool
  i5 : Bool
  o1 : Int
  o2 : Int
  o3 : Bool
  o4 : Bool
  o5 : Bool
/-- An End's cells. -/
abbrev enC (e : En) (v1 v2 : Value) : Array Value := #[.int .i64 e.m1, .int .i64 e.a1, .int .i64 e.g1, .bool e.p1, .bool e.c1, .bool e.d1, .int .i64 e.m2, .int .i64 e.a2, .int .i64 e.g2, .bool e.p2, .bool e.c2, .bool e.d2, .int .i64 e.st, .int .i64 e.tr, .int .i64 e.du, .int .i64 e.id, .int .i64 e.fl, v1, v2, .bool e.up, .int .i64 e.i1, .int .i64 e.i2, .bool e.i3, .bool e.i4, .bool e.i5, .int .i64 e.o1, .int .i64 e.o2, .bool e.o3, .bool e.o4, .bool e.o5]
set_option maxHeartbeats 400000 in
theorem eqCfgE (m a g : Int) (p c d : Bool) (w : World) : Calls Try.prog 49 #[.agg #[.int .i64 m, .int .i64 a, .int .i64 g, .bool p, .bool c, .bool d], .agg #[.int .i64 m, .int .i64 a, .int .i64 g, .bool p, .bool c, .bool d]] w fun e w' => e = .returned (.bool true) ∧ Below w.heap.size w w' := by
  go_enter Try.func49, Try.ntmps49
  go_wp2
  go_ret
  exact ⟨rfl, ((Below.refl _ _).alloc (Nat.le_refl _) _).alloc (by simp) _⟩
set_option maxHeartbeats 400000 in
theorem eqLineE (m a : Int) (p c d : Bool) (w : World) : Calls Try.prog 50 #[.agg #[.int .i64 m, .int .i64 a, .bool p, .bool c, .bool d], .agg #[.int .i64 m, .int .i64 a, .bool p, .bool c, .bool d]] w fun e w' => e = .returned (.bool true) ∧ Below w.heap.size w w' := by
  go_enter Try.func50, Try.ntmps50
  go_wp2
  go_ret
  exact ⟨rfl, ((Below.refl _ _).alloc (Nat.le_refl _) _).alloc (by simp) _⟩
/-- Two Ends in memory. -/
structure EqE (w : World) (cs ds : Array Value) (q : World) : Prop where
  a : q.heap[w.heap.size]? = some (.cells cs 50)
  b : q.heap[w.heap.size + 1]? = some (.cells ds 50)
  l : Below w.heap.size w q
theorem EqE.step {w : World} {cs ds : Array Value} {q q' : World} (h : EqE w cs ds q) (hb : Below q.heap.size q q') : EqE w cs ds q' :=
  ⟨(hb.block _ (Array.getElem?_eq_some_iff.1 h.a).1).trans h.a, (hb.block _ (Array.getElem?_eq_some_iff.1 h.b).1).trans h.b, h.l.trans (hb.mono h.l.size)⟩
set_option maxHeartbeats 4000000 in
set_option maxRecDepth 100000 in
theorem eqEndE (e : En) (x1 x2 x3 x4 : Option Addr) (y1 y2 y3 y4 : Nat) (F1 F2 : List Op.Opt) (w : World) (l1 : F1.length ≤ 2000000) (l2 : F2.length ≤ 2000000)
    (h1 : HoldsO w (.slice x1 F1.length y1) F1) (h2 : HoldsO w (.slice x2 F2.length y2) F2) (h3 : HoldsO w (.slice x3 F1.length y3) F1) (h4 : HoldsO w (.slice x4 F2.length y4) F2) :
    Calls Try.prog 26 #[.agg (enC e (.slice x1 F1.length y1) (.slice x2 F2.length y2)), .agg (enC e (.slice x3 F1.length y3) (.slice x4 F2.length y4))] w fun r w' => r = .returned (.bool true) ∧ Below w.heap.size w w' := by
  have C1 := hide fun W (hb : Below w.heap.size w W) => eqS _ _ F1 W l1 (h1.below hb rfl) (h3.below hb rfl)
  have C2 := hide fun W (hb : Below w.heap.size w W) => eqS _ _ F2 W l2 (h2.below hb rfl) (h4.below hb rfl)
  obtain ⟨m1, a1, g1, p1, c1, d1, m2, a2, g2, p2, c2, d2, st, tr, du, id, fl, up, i1, i2, i3, i4, i5, o1, o2, o3, o4, o5⟩ := e
  have hI : EqE w (enC ⟨m1, a1, g1, p1, c1, d1, m2, a2, g2, p2, c2, d2, st, tr, du, id, fl, up, i1, i2, i3, i4, i5, o1, o2, o3, o4, o5⟩ (.slice x1 F1.length y1) (.slice x2 F2.length y2)) (enC ⟨m1, a1, g1, p1, c1, d1, m2, a2, g2, p2, c2, d2, st, tr, du, id, fl, up, i1, i2, i3, i4, i5, o1, o2, o3, o4, o5⟩ (.slice x3 F1.length y3) (.slice x4 F2.length y4)) ((w.alloc (.cells (enC ⟨m1, a1, g1, p1, c1, d1, m2, a2, g2, p2, c2, d2, st, tr, du, id, fl, up, i1, i2, i3, i4, i5, o1, o2, o3, o4, o5⟩ (.slice x1 F1.length y1) (.slice x2 F2.length y2)) 50)).alloc (.cells (enC ⟨m1, a1, g1, p1, c1, d1, m2, a2, g2, p2, c2, d2, st, tr, du, id, fl, up, i1, i2, i3, i4, i5, o1, o2, o3, o4, o5⟩ (.slice x3 F1.length y3) (.slice x4 F2.length y4)) 50)) := by
    obtain ⟨_, b, c, d⟩ := start2r w (.cells (enC ⟨m1, a1, g1, p1, c1, d1, m2, a2, g2, p2, c2, d2, st, tr, du, id, fl, up, i1, i2, i3, i4, i5, o1, o2, o3, o4, o5⟩ (.slice x1 F1.length y1) (.slice x2 F2.length y2)) 50) (.cells (enC ⟨m1, a1, g1, p1, c1, d1, m2, a2, g2, p2, c2, d2, st, tr, du, id, fl, up, i1, i2, i3, i4, i5, o1, o2, o3, o4, o5⟩ (.slice x3 F1.length y3) (.slice x4 F2.length y4)) 50)
    exact ⟨b, c, d⟩
  unfold enC at hI ⊢
  dsimp only at hI ⊢
  clear h1 h2 h3 h4
  generalize F1.length = n1 at *
  generalize F2.length = n2 at *
  have HI := hide hI
  clear hI
  go_enter Try.func26, Try.ntmps26
  go_wp2_with fail
  refine (eqCfgE m1 a1 g1 p1 c1 d1 _).mono ?_
  rintro r w1 ⟨rfl, hb1⟩
  have hI1 := (unhide HI).step hb1
  have c6 : w1.cell? ⟨w.heap.size, 6, none⟩ = some (.int .i64 m2) := by rw [cell_of_row _ _ _ _ _ _ hI1.a]; rfl
  have c7 : w1.cell? ⟨w.heap.size, 7, none⟩ = some (.int .i64 a2) := by rw [cell_of_row _ _ _ _ _ _ hI1.a]; rfl
  have c8 : w1.cell? ⟨w.heap.size, 8, none⟩ = some (.int .i64 g2) := by rw [cell_of_row _ _ _ _ _ _ hI1.a]; rfl
  have c9 : w1.cell? ⟨w.heap.size, 9, none⟩ = some (.bool p2) := by rw [cell_of_row _ _ _ _ _ _ hI1.a]; rfl
  have c10 : w1.cell? ⟨w.heap.size, 10, none⟩ = some (.bool c2) := by rw [cell_of_row _ _ _ _ _ _ hI1.a]; rfl
  have c11 : w1.cell? ⟨w.heap.size, 11, none⟩ = some (.bool d2) := by rw [cell_of_row _ _ _ _ _ _ hI1.a]; rfl
  have e6 : w1.cell? ⟨w.heap.size + 1, 6, none⟩ = some (.int .i64 m2) := by rw [cell_of_row _ _ _ _ _ _ hI1.b]; rfl
  have e7 : w1.cell? ⟨w.heap.size + 1, 7, none⟩ = some (.int .i64 a2) := by rw [cell_of_row _ _ _ _ _ _ hI1.b]; rfl
  have e8 : w1.cell? ⟨w.heap.size + 1, 8, none⟩ = some (.int .i64 g2) := by rw [cell_of_row _ _ _ _ _ _ hI1.b]; rfl
  have e9 : w1.cell? ⟨w.heap.size + 1, 9, none⟩ = some (.bool p2) := by rw [cell_of_row _ _ _ _ _ _ hI1.b]; rfl
  have e10 : w1.cell? ⟨w.heap.size + 1, 10, none⟩ = some (.bool c2) := by rw [cell_of_row _ _ _ _ _ _ hI1.b]; rfl
  have e11 : w1.cell? ⟨w.heap.size + 1, 11, none⟩ = some (.bool d2) := by rw [cell_of_row _ _ _ _ _ _ hI1.b]; rfl
  have HI1 := hide hI1
  clear hI1 hb1 HI
  go_wp2_with fail
  refine (eqCfgE m2 a2 g2 p2 c2 d2 _).mono ?_
  clear c6 e6 c7 e7 c8 e8 c9 e9 c10 e10 c11 e11
  rintro r w2 ⟨rfl, hb2⟩
  have hI2 := (unhide HI1).step hb2
  have c12 : w2.cell? ⟨w.heap.size, 12, none⟩ = some (.int .i64 st) := by rw [cell_of_row _ _ _ _ _ _ hI2.a]; rfl
  have c13 : w2.cell? ⟨w.heap.size, 13, none⟩ = some (.int .i64 tr) := by rw [cell_of_row _ _ _ _ _ _ hI2.a]; rfl
  have c14 : w2.cell? ⟨w.heap.size, 14, none⟩ = some (.int .i64 du) := by rw [cell_of_row _ _ _ _ _ _ hI2.a]; rfl
  have c15 : w2.cell? ⟨w.heap.size, 15, none⟩ = some (.int .i64 id) := by rw [cell_of_row _ _ _ _ _ _ hI2.a]; rfl
  have c16 : w2.cell? ⟨w.heap.size, 16, none⟩ = some (.int .i64 fl) := by rw [cell_of_row _ _ _ _ _ _ hI2.a]; rfl
  have c17 : w2.cell? ⟨w.heap.size, 17, none⟩ = some (.slice x1 n1 y1) := by rw [cell_of_row _ _ _ _ _ _ hI2.a]; rfl
  have e12 : w2.cell? ⟨w.heap.size + 1, 12, none⟩ = some (.int .i64 st) := by rw [cell_of_row _ _ _ _ _ _ hI2.b]; rfl
  have e13 : w2.cell? ⟨w.heap.size + 1, 13, none⟩ = some (.int .i64 tr) := by rw [cell_of_row _ _ _ _ _ _ hI2.b]; rfl
  have e14 : w2.cell? ⟨w.heap.size + 1, 14, none⟩ = some (.int .i64 du) := by rw [cell_of_row _ _ _ _ _ _ hI2.b]; rfl
  have e15 : w2.cell? ⟨w.heap.size + 1, 15, none⟩ = some (.int .i64 id) := by rw [cell_of_row _ _ _ _ _ _ hI2.b]; rfl
  have e16 : w2.cell? ⟨w.heap.size + 1, 16, none⟩ = some (.int .i64 fl) := by rw [cell_of_row _ _ _ _ _ _ hI2.b]; rfl
  have e17 : w2.cell? ⟨w.heap.size + 1, 17, none⟩ = some (.slice x3 n1 y3) := by rw [cell_of_row _ _ _ _ _ _ hI2.b]; rfl
  have HI2 := hide hI2
  clear hI2 hb2 HI1
  go_wp2_with fail
  refine (unhide C1 _ (unhide HI2).l).mono ?_
  clear c12 e12 c13 e13 c14 e14 c15 e15 c16 e16 c17 e17
  rintro r w3 ⟨rfl, hb3⟩
  have hI3 := (unhide HI2).step hb3
  have c18 : w3.cell? ⟨w.heap.size, 18, none⟩ = some (.slice x2 n2 y2) := by rw [cell_of_row _ _ _ _ _ _ hI3.a]; rfl
  have e18 : w3.cell? ⟨w.heap.size + 1, 18, none⟩ = some (.slice x4 n2 y4) := by rw [cell_of_row _ _ _ _ _ _ hI3.b]; rfl
  have HI3 := hide hI3
  clear hI3 hb3 HI2
  go_wp2_with fail
  refine (unhide C2 _ (unhide HI3).l).mono ?_
  clear c18 e18
  rintro r w4 ⟨rfl, hb4⟩
  have hI4 := (unhide HI3).step hb4
  have c19 : w4.cell? ⟨w.heap.size, 19, none⟩ = some (.bool up) := by rw [cell_of_row _ _ _ _ _ _ hI4.a]; rfl
  have c20 : w4.cell? ⟨w.heap.size, 20, none⟩ = some (.int .i64 i1) := by rw [cell_of_row _ _ _ _ _ _ hI4.a]; rfl
  have c21 : w4.cell? ⟨w.heap.size, 21, none⟩ = some (.int .i64 i2) := by rw [cell_of_row _ _ _ _ _ _ hI4.a]; rfl
  have c22 : w4.cell? ⟨w.heap.size, 22, none⟩ = some (.bool i3) := by rw [cell_of_row _ _ _ _ _ _ hI4.a]; rfl
  have c23 : w4.cell? ⟨w.heap.size, 23, none⟩ = some (.bool i4) := by rw [cell_of_row _ _ _ _ _ _ hI4.a]; rfl
  have c24 : w4.cell? ⟨w.heap.size, 24, none⟩ = some (.bool i5) := by rw [cell_of_row _ _ _ _ _ _ hI4.a]; rfl
  have e19 : w4.cell? ⟨w.heap.size + 1, 19, none⟩ = some (.bool up) := by rw [cell_of_row _ _ _ _ _ _ hI4.b]; rfl
  have e20 : w4.cell? ⟨w.heap.size + 1, 20, none⟩ = some (.int .i64 i1) := by rw [cell_of_row _ _ _ _ _ _ hI4.b]; rfl
  have e21 : w4.cell? ⟨w.heap.size + 1, 21, none⟩ = some (.int .i64 i2) := by rw [cell_of_row _ _ _ _ _ _ hI4.b]; rfl
  have e22 : w4.cell? ⟨w.heap.size + 1, 22, none⟩ = some (.bool i3) := by rw [cell_of_row _ _ _ _ _ _ hI4.b]; rfl
  have e23 : w4.cell? ⟨w.heap.size + 1, 23, none⟩ = some (.bool i4) := by rw [cell_of_row _ _ _ _ _ _ hI4.b]; rfl
  have e24 : w4.cell? ⟨w.heap.size + 1, 24, none⟩ = some (.bool i5) := by rw [cell_of_row _ _ _ _ _ _ hI4.b]; rfl
  have HI4 := hide hI4
  clear hI4 hb4 HI3
  go_wp2_with fail
  refine (eqLineE i1 i2 i3 i4 i5 _).mono ?_
  clear c19 e19 c20 e20 c21 e21 c22 e22 c23 e23 c24 e24
  rintro r w5 ⟨rfl, hb5⟩
  have hI5 := (unhide HI4).step hb5
  have c25 : w5.cell? ⟨w.heap.size, 25, none⟩ = some (.int .i64 o1) := by rw [cell_of_row _ _ _ _ _ _ hI5.a]; rfl
  have c26 : w5.cell? ⟨w.heap.size, 26, none⟩ = some (.int .i64 o2) := by rw [cell_of_row _ _ _ _ _ _ hI5.a]; rfl
  have c27 : w5.cell? ⟨w.heap.size, 27, none⟩ = some (.bool o3) := by rw [cell_of_row _ _ _ _ _ _ hI5.a]; rfl
  have c28 : w5.cell? ⟨w.heap.size, 28, none⟩ = some (.bool o4) := by rw [cell_of_row _ _ _ _ _ _ hI5.a]; rfl
  have c29 : w5.cell? ⟨w.heap.size, 29, none⟩ = some (.bool o5) := by rw [cell_of_row _ _ _ _ _ _ hI5.a]; rfl
  have e25 : w5.cell? ⟨w.heap.size + 1, 25, none⟩ = some (.int .i64 o1) := by rw [cell_of_row _ _ _ _ _ _ hI5.b]; rfl
  have e26 : w5.cell? ⟨w.heap.size + 1, 26, none⟩ = some (.int .i64 o2) := by rw [cell_of_row _ _ _ _ _ _ hI5.b]; rfl
  have e27 : w5.cell? ⟨w.heap.size + 1, 27, none⟩ = some (.bool o3) := by rw [cell_of_row _ _ _ _ _ _ hI5.b]; rfl
  have e28 : w5.cell? ⟨w.heap.size + 1, 28, none⟩ = some (.bool o4) := by rw [cell_of_row _ _ _ _ _ _ hI5.b]; rfl
  have e29 : w5.cell? ⟨w.heap.size + 1, 29, none⟩ = some (.bool o5) := by rw [cell_of_row _ _ _ _ _ _ hI5.b]; rfl
  have HI5 := hide hI5
  clear hI5 hb5 HI4
  go_wp2_with fail
  refine (eqLineE o1 o2 o3 o4 o5 _).mono ?_
  clear c25 e25 c26 e26 c27 e27 c28 e28 c29 e29
  rintro r w6 ⟨rfl, hb6⟩
  have HI6 := hide ((unhide HI5).step hb6).l
  clear hb6 HI5
  go_wp2
  go_ret
  exact ⟨rfl, unhide HI6⟩
end Go.Proofs.Ytakbldleomhggaa
