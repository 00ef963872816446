/- An End as a value, and its cells; are two Ends the same, by the law's eqEnd; what lay in memory stands. Rows of packets in memory; one put behind others; two rows held against each other by the law; what lay in memory stands. The law's text of a mark; what lay in memory stands. -/
import Derived.Test.YtghopihgnmnlcaaGreatDoorS03
import Derived.Test.YtghopihgnmnlcaaGreatDoorS07
import Derived.Test.YtghopihgnmnlcaaGreatDoorS00
namespace Go.Proofs.YtghopihgnmnlcaaGreatDoor
open Go.RowKit
/-- An End, but for its two rows of options. -/
structure En where
  m1 : Int
  a1 : Int
  g1 : Int
  p1 : Bool
  c1 : Bool
  d1 : Bool
  m2 : Int
  a2 : Int
  g2 : Int
  p2 : Bool
  c2 : Bool
  d2 : Bool
  st : Int
  tr : Int
  du : Int
  id : Int
  fl : Int
  up : Bool
  i1 : Int
  i2 : Int
  i3 : Bool
  i4 : Bool
  i5 : Bool
  o1 : Int
  o2 : Int
  o3 : Bool
  o4 : Bool
  o5 : Bool
/-- An End's cells. -/
abbrev enC (e : En) (v1 v2 : Value) : Array Value := #[.int .i64 e.m1, .int .i64 e.a1, .int .i64 e.g1, .bool e.p1, .bool e.c1, .bool e.d1, .int .i64 e.m2, .int .i64 e.a2, .int .i64 e.g2, .bool e.p2, .bool e.c2, .bool e.d2, .int .i64 e.st, .int .i64 e.tr, .int .i64 e.du, .int .i64 e.id, .int .i64 e.fl, v1, v2, .bool e.up, .int .i64 e.i1, .int .i64 e.i2, .bool e.i3, .bool e.i4, .bool e.i5, .int .i64 e.o1, .int .i64 e.o2, .bool e.o3, .bool e.o4, .bool e.o5]
set_option maxHeartbeats 400000 in
theorem eqCfgE (m a g : Int) (p c d : Bool) (w : World) : Calls Tryz.prog 58 #[.agg #[.int .i64 m, .int .i64 a, .int .i64 g, .bool p, .bool c, .bool d], .agg #[.int .i64 m, .int .i64 a, .int .i64 g, .bool p, .bool c, .bool d]] w fun e w' => e = .returned (.bool true) ∧ Below w.heap.size w w' := by
  go_enter Tryz.func58, Tryz.ntmps58
  go_wp2
  go_ret
  exact ⟨rfl, ((Below.refl _ _).alloc (Nat.le_refl _) _).alloc (by simp) _⟩
set_option maxHeartbeats 400000 in
theorem eqLineE (m a : Int) (p c d : Bool) (w : World) : Calls Tryz.prog 60 #[.agg #[.int .i64 m, .int .i64 a, .bool p, .bool c, .bool d], .agg #[.int .i64 m, .int .i64 a, .bool p, .bool c, .bool d]] w fun e w' => e = .returned (.bool true) ∧ Below w.heap.size w w' := by
  go_enter Tryz.func60, Tryz.ntmps60
  go_wp2
  go_ret
  exact ⟨rfl, ((Below.refl _ _).alloc (Nat.le_refl _) _).alloc (by simp) _⟩
/-- Two Ends in memory. -/
structure EqE (w : World) (cs ds : Array Value) (q : World) : Prop where
  a : q.heap[w.heap.size]? = some (.cells cs 29)
  b : q.heap[w.heap.size + 1]? = some (.cells ds 29)
  l : Below w.heap.size w q
theorem EqE.step {w : World} {cs ds : Array Value} {q q' : World} (h : EqE w cs ds q) (hb : Below q.heap.size q q') : EqE w cs ds q' :=
  ⟨(hb.block _ (Array.getElem?_eq_some_iff.1 h.a).1).trans h.a, (hb.block _ (Array.getElem?_eq_some_iff.1 h.b).1).trans h.b, h.l.trans (hb.mono h.l.size)⟩
set_option maxHeartbeats 4000000 in
set_option maxRecDepth 100000 in
theorem eqEndE (e : En) (x1 x2 x3 x4 : Option Addr) (y1 y2 y3 y4 : Nat) (F1 F2 : List Op.Opt) (w : World) (l1 : F1.length ≤ 2000000) (l2 : F2.length ≤ 2000000)
    (h1 : HoldsO w (.slice x1 F1.length y1) F1) (h2 : HoldsO w (.slice x2 F2.length y2) F2) (h3 : HoldsO w (.slice x3 F1.length y3) F1) (h4 : HoldsO w (.slice x4 F2.length y4) F2) :
    Calls Tryz.prog 20 #[.agg (enC e (.slice x1 F1.length y1) (.slice x2 F2.length y2)), .agg (enC e (.slice x3 F1.length y3) (.slice x4 F2.length y4))] w fun r w' => r = .returned (.bool true) ∧ Below w.heap.size w w' := by
  have C1 := hide fun W (hb : Below w.heap.size w W) => eqS _ _ F1 W l1 (h1.below hb rfl) (h3.below hb rfl)
  have C2 := hide fun W (hb : Below w.heap.size w W) => eqS _ _ F2 W l2 (h2.below hb rfl) (h4.below hb rfl)
  obtain ⟨m1, a1, g1, p1, c1, d1, m2, a2, g2, p2, c2, d2, st, tr, du, id, fl, up, i1, i2, i3, i4, i5, o1, o2, o3, o4, o5⟩ := e
  have hI : EqE w (enC ⟨m1, a1, g1, p1, c1, d1, m2, a2, g2, p2, c2, d2, st, tr, du, id, fl, up, i1, i2, i3, i4, i5, o1, o2, o3, o4, o5⟩ (.slice x1 F1.length y1) (.slice x2 F2.length y2)) (enC ⟨m1, a1, g1, p1, c1, d1, m2, a2, g2, p2, c2, d2, st, tr, du, id, fl, up, i1, i2, i3, i4, i5, o1, o2, o3, o4, o5⟩ (.slice x3 F1.length y3) (.slice x4 F2.length y4)) ((w.alloc (.cells (enC ⟨m1, a1, g1, p1, c1, d1, m2, a2, g2, p2, c2, d2, st, tr, du, id, fl, up, i1, i2, i3, i4, i5, o1, o2, o3, o4, o5⟩ (.slice x1 F1.length y1) (.slice x2 F2.length y2)) 29)).alloc (.cells (enC ⟨m1, a1, g1, p1, c1, d1, m2, a2, g2, p2, c2, d2, st, tr, du, id, fl, up, i1, i2, i3, i4, i5, o1, o2, o3, o4, o5⟩ (.slice x3 F1.length y3) (.slice x4 F2.length y4)) 29)) := by
    obtain ⟨_, b, c, d⟩ := start2r w (.cells (enC ⟨m1, a1, g1, p1, c1, d1, m2, a2, g2, p2, c2, d2, st, tr, du, id, fl, up, i1, i2, i3, i4, i5, o1, o2, o3, o4, o5⟩ (.slice x1 F1.length y1) (.slice x2 F2.length y2)) 29) (.cells (enC ⟨m1, a1, g1, p1, c1, d1, m2, a2, g2, p2, c2, d2, st, tr, du, id, fl, up, i1, i2, i3, i4, i5, o1, o2, o3, o4, o5⟩ (.slice x3 F1.length y3) (.slice x4 F2.length y4)) 29)
    exact ⟨b, c, d⟩
  unfold enC at hI ⊢
  dsimp only at hI ⊢
  clear h1 h2 h3 h4
  generalize F1.length = n1 at *
  generalize F2.length = n2 at *
  have HI := hide hI
  clear hI
  go_enter Tryz.func20, Tryz.ntmps20
  go_wp2_with fail
  refine (eqCfgE m1 a1 g1 p1 c1 d1 _).mono ?_
  rintro r w1 ⟨rfl, hb1⟩
  have hI1 := (unhide HI).step hb1
  have c6 : w1.cell? ⟨w.heap.size, 6, none⟩ = some (.int .i64 m2) := by rw [cell_of_row _ _ _ _ _ _ hI1.a]; rfl
  have c7 : w1.cell? ⟨w.heap.size, 7, none⟩ = some (.int .i64 a2) := by rw [cell_of_row _ _ _ _ _ _ hI1.a]; rfl
  have c8 : w1.cell? ⟨w.heap.size, 8, none⟩ = some (.int .i64 g2) := by rw [cell_of_row _ _ _ _ _ _ hI1.a]; rfl
  have c9 : w1.cell? ⟨w.heap.size, 9, none⟩ = some (.bool p2) := by rw [cell_of_row _ _ _ _ _ _ hI1.a]; rfl
  have c10 : w1.cell? ⟨w.heap.size, 10, none⟩ = some (.bool c2) := by rw [cell_of_row _ _ _ _ _ _ hI1.a]; rfl
  have c11 : w1.cell? ⟨w.heap.size, 11, none⟩ = some (.bool d2) := by rw [cell_of_row _ _ _ _ _ _ hI1.a]; rfl
  have e6 : w1.cell? ⟨w.heap.size + 1, 6, none⟩ = some (.int .i64 m2) := by rw [cell_of_row _ _ _ _ _ _ hI1.b]; rfl
  have e7 : w1.cell? ⟨w.heap.size + 1, 7, none⟩ = some (.int .i64 a2) := by rw [cell_of_row _ _ _ _ _ _ hI1.b]; rfl
  have e8 : w1.cell? ⟨w.heap.size + 1, 8, none⟩ = some (.int .i64 g2) := by rw [cell_of_row _ _ _ _ _ _ hI1.b]; rfl
  have e9 : w1.cell? ⟨w.heap.size + 1, 9, none⟩ = some (.bool p2) := by rw [cell_of_row _ _ _ _ _ _ hI1.b]; rfl
  have e10 : w1.cell? ⟨w.heap.size + 1, 10, none⟩ = some (.bool c2) := by rw [cell_of_row _ _ _ _ _ _ hI1.b]; rfl
  have e11 : w1.cell? ⟨w.heap.size + 1, 11, none⟩ = some (.bool d2) := by rw [cell_of_row _ _ _ _ _ _ hI1.b]; rfl
  have HI1 := hide hI1
  clear hI1 hb1 HI
  go_wp2_with fail
  refine (eqCfgE m2 a2 g2 p2 c2 d2 _).mono ?_
  clear c6 e6 c7 e7 c8 e8 c9 e9 c10 e10 c11 e11
  rintro r w2 ⟨rfl, hb2⟩
  have hI2 := (unhide HI1).step hb2
  have c12 : w2.cell? ⟨w.heap.size, 12, none⟩ = some (.int .i64 st) := by rw [cell_of_row _ _ _ _ _ _ hI2.a]; rfl
  have c13 : w2.cell? ⟨w.heap.size, 13, none⟩ = some (.int .i64 tr) := by rw [cell_of_row _ _ _ _ _ _ hI2.a]; rfl
  have c14 : w2.cell? ⟨w.heap.size, 14, none⟩ = some (.int .i64 du) := by rw [cell_of_row _ _ _ _ _ _ hI2.a]; rfl
  have c15 : w2.cell? ⟨w.heap.size, 15, none⟩ = some (.int .i64 id) := by rw [cell_of_row _ _ _ _ _ _ hI2.a]; rfl
  have c16 : w2.cell? ⟨w.heap.size, 16, none⟩ = some (.int .i64 fl) := by rw [cell_of_row _ _ _ _ _ _ hI2.a]; rfl
  have c17 : w2.cell? ⟨w.heap.size, 17, none⟩ = some (.slice x1 n1 y1) := by rw [cell_of_row _ _ _ _ _ _ hI2.a]; rfl
  have e12 : w2.cell? ⟨w.heap.size + 1, 12, none⟩ = some (.int .i64 st) := by rw [cell_of_row _ _ _ _ _ _ hI2.b]; rfl
  have e13 : w2.cell? ⟨w.heap.size + 1, 13, none⟩ = some (.int .i64 tr) := by rw [cell_of_row _ _ _ _ _ _ hI2.b]; rfl
  have e14 : w2.cell? ⟨w.heap.size + 1, 14, none⟩ = some (.int .i64 du) := by rw [cell_of_row _ _ _ _ _ _ hI2.b]; rfl
  have e15 : w2.cell? ⟨w.heap.size + 1, 15, none⟩ = some (.int .i64 id) := by rw [cell_of_row _ _ _ _ _ _ hI2.b]; rfl
  have e16 : w2.cell? ⟨w.heap.size + 1, 16, none⟩ = some (.int .i64 fl) := by rw [cell_of_row _ _ _ _ _ _ hI2.b]; rfl
  have e17 : w2.cell? ⟨w.heap.size + 1, 17, none⟩ = some (.slice x3 n1 y3) := by rw [cell_of_row _ _ _ _ _ _ hI2.b]; rfl
  have HI2 := hide hI2
  clear hI2 hb2 HI1
  go_wp2_with fail
  refine (unhide C1 _ (unhide HI2).l).mono ?_
  clear c12 e12 c13 e13 c14 e14 c15 e15 c16 e16 c17 e17
  rintro r w3 ⟨rfl, hb3⟩
  have hI3 := (unhide HI2).step hb3
  have c18 : w3.cell? ⟨w.heap.size, 18, none⟩ = some (.slice x2 n2 y2) := by rw [cell_of_row _ _ _ _ _ _ hI3.a]; rfl
  have e18 : w3.cell? ⟨w.heap.size + 1, 18, none⟩ = some (.slice x4 n2 y4) := by rw [cell_of_row _ _ _ _ _ _ hI3.b]; rfl
  have HI3 := hide hI3
  clear hI3 hb3 HI2
  go_wp2_with fail
  refine (unhide C2 _ (unhide HI3).l).mono ?_
  clear c18 e18
  rintro r w4 ⟨rfl, hb4⟩
  have hI4 := (unhide HI3).step hb4
  have c19 : w4.cell? ⟨w.heap.size, 19, none⟩ = some (.bool up) := by rw [cell_of_row _ _ _ _ _ _ hI4.a]; rfl
  have c20 : w4.cell? ⟨w.heap.size, 20, none⟩ = some (.int .i64 i1) := by rw [cell_of_row _ _ _ _ _ _ hI4.a]; rfl
  have c21 : w4.cell? ⟨w.heap.size, 21, none⟩ = some (.int .i64 i2) := by rw [cell_of_row _ _ _ _ _ _ hI4.a]; rfl
  have c22 : w4.cell? ⟨w.heap.size, 22, none⟩ = some (.bool i3) := by rw [cell_of_row _ _ _ _ _ _ hI4.a]; rfl
  have c23 : w4.cell? ⟨w.heap.size, 23, none⟩ = some (.bool i4) := by rw [cell_of_row _ _ _ _ _ _ hI4.a]; rfl
  have c24 : w4.cell? ⟨w.heap.size, 24, none⟩ = some (.bool i5) := by rw [cell_of_row _ _ _ _ _ _ hI4.a]; rfl
  have e19 : w4.cell? ⟨w.heap.size + 1, 19, none⟩ = some (.bool up) := by rw [cell_of_row _ _ _ _ _ _ hI4.b]; rfl
  have e20 : w4.cell? ⟨w.heap.size + 1, 20, none⟩ = some (.int .i64 i1) := by rw [cell_of_row _ _ _ _ _ _ hI4.b]; rfl
  have e21 : w4.cell? ⟨w.heap.size + 1, 21, none⟩ = some (.int .i64 i2) := by rw [cell_of_row _ _ _ _ _ _ hI4.b]; rfl
  have e22 : w4.cell? ⟨w.heap.size + 1, 22, none⟩ = some (.bool i3) := by rw [cell_of_row _ _ _ _ _ _ hI4.b]; rfl
  have e23 : w4.cell? ⟨w.heap.size + 1, 23, none⟩ = some (.bool i4) := by rw [cell_of_row _ _ _ _ _ _ hI4.b]; rfl
  have e24 : w4.cell? ⟨w.heap.size + 1, 24, none⟩ = some (.bool i5) := by rw [cell_of_row _ _ _ _ _ _ hI4.b]; rfl
  have HI4 := hide hI4
  clear hI4 hb4 HI3
  go_wp2_with fail
  refine (eqLineE i1 i2 i3 i4 i5 _).mono ?_
  clear c19 e19 c20 e20 c21 e21 c22 e22 c23 e23 c24 e24
  rintro r w5 ⟨rfl, hb5⟩
  have hI5 := (unhide HI4).step hb5
  have c25 : w5.cell? ⟨w.heap.size, 25, none⟩ = some (.int .i64 o1) := by rw [cell_of_row _ _ _ _ _ _ hI5.a]; rfl
  have c26 : w5.cell? ⟨w.heap.size, 26, none⟩ = some (.int .i64 o2) := by rw [cell_of_row _ _ _ _ _ _ hI5.a]; rfl
  have c27 : w5.cell? ⟨w.heap.size, 27, none⟩ = some (.bool o3) := by rw [cell_of_row _ _ _ _ _ _ hI5.a]; rfl
  have c28 : w5.cell? ⟨w.heap.size, 28, none⟩ = some (.bool o4) := by rw [cell_of_row _ _ _ _ _ _ hI5.a]; rfl
  have c29 : w5.cell? ⟨w.heap.size, 29, none⟩ = some (.bool o5) := by rw [cell_of_row _ _ _ _ _ _ hI5.a]; rfl
  have e25 : w5.cell? ⟨w.heap.size + 1, 25, none⟩ = some (.int .i64 o1) := by rw [cell_of_row _ _ _ _ _ _ hI5.b]; rfl
  have e26 : w5.cell? ⟨w.heap.size + 1, 26, none⟩ = some (.int .i64 o2) := by rw [cell_of_row _ _ _ _ _ _ hI5.b]; rfl
  have e27 : w5.cell? ⟨w.heap.size + 1, 27, none⟩ = some (.bool o3) := by rw [cell_of_row _ _ _ _ _ _ hI5.b]; rfl
  have e28 : w5.cell? ⟨w.heap.size + 1, 28, none⟩ = some (.bool o4) := by rw [cell_of_row _ _ _ _ _ _ hI5.b]; rfl
  have e29 : w5.cell? ⟨w.heap.size + 1, 29, none⟩ = some (.bool o5) := by rw [cell_of_row _ _ _ _ _ _ hI5.b]; rfl
  have HI5 := hide hI5
  clear hI5 hb5 HI4
  go_wp2_with fail
  refine (eqLineE o1 o2 o3 o4 o5 _).mono ?_
  clear c25 e25 c26 e26 c27 e27 c28 e28 c29 e29
  rintro r w6 ⟨rfl, hb6⟩
  have HI6 := hide ((unhide HI5).step hb6).l
  clear hb6 HI5
  go_wp2
  go_ret
  exact ⟨rfl, unhide HI6⟩
end Go.Proofs.YtghopihgnmnlcaaGreatDoor
namespace Go.Proofs.YtghopihgnmnlcaaGreatDoor
open Go.RowKit
/-- The cells of packets. -/
def pkcells (fs : List Op.Pk) : List Value := fs.flatMap fun f => [.int .i64 f.code, .int .i64 f.id, .string f.data]
theorem pkcells_len (fs : List Op.Pk) : (pkcells fs).length = fs.length * 3 := by
  induction fs with
  | nil => rfl
  | cons f fs ih => simp [pkcells] at ih ⊢; omega
theorem pkcells_append (fs gs : List Op.Pk) : pkcells (fs ++ gs) = pkcells fs ++ pkcells gs := by simp [pkcells]
theorem pkcells_get (fs : List Op.Pk) (i : Nat) (f : Op.Pk) (h : fs[i]? = some f) : (pkcells fs)[i * 3]? = some (.int .i64 f.code) ∧ (pkcells fs)[i * 3 + 1]? = some (.int .i64 f.id) ∧ (pkcells fs)[i * 3 + 2]? = some (.string f.data) := by
  induction fs generalizing i with
  | nil => simp at h
  | cons d fs ih =>
    cases i with
    | zero =>
      simp at h
      subst h
      exact ⟨rfl, rfl, rfl⟩
    | succ i =>
      have := ih i (by simpa using h)
      have e : pkcells (d :: fs) = .int .i64 d.code :: .int .i64 d.id :: .string d.data :: pkcells fs := rfl
      rw [e, show (i + 1) * 3 = i * 3 + 3 by omega]
      exact this
theorem pkinfo : ∃ i, Tryz.prog.info? 35 = some i ∧ i.zero = some (.agg #[.int .i64 0, .int .i64 0, .string ⟨#[]⟩]) ∧ i.size = 3 ∧ i.bytes = 32 := by
  have h : (Tryz.prog.info? 35).map (fun i => (i.zero, i.size, i.bytes)) = some (some (.agg #[.int .i64 0, .int .i64 0, .string ⟨#[]⟩]), 3, 32) := by kernel_rfl
  obtain ⟨i, hi, hzz⟩ := Option.map_eq_some_iff.1 h
  simp only [Prod.mk.injEq] at hzz
  exact ⟨i, hi, hzz.1, hzz.2.1, hzz.2.2⟩
/-- A row of packets, of whatever kind: it holds these. -/
def HoldsP (w : World) (v : Value) (F : List Op.Pk) : Prop :=
  (∃ ad cp, v = .slice ad 0 cp ∧ F = []) ∨ ∃ g cp cur, v = .slice (some ⟨g, 0, none⟩) F.length cp ∧ w.heap[g]? = some (.cells cur 35) ∧ F.length * 3 ≤ cur.size ∧ ∀ j, j < F.length * 3 → cur[j]? = (pkcells F)[j]?
theorem HoldsP.own {w : World} {base : Nat} {v : Value} {F : List Op.Pk} (h : w.ownsRow base 35 3 v F.length (pkcells F)) : HoldsP w v F := by
  rcases h.2 with ⟨h1, h2⟩ | ⟨g, cap, cur, h1, _, h3, h4, _, h6, h7⟩
  · exact Or.inl ⟨_, _, h1, List.eq_nil_of_length_eq_zero h2⟩
  · refine Or.inr ⟨g, cap, cur, h1, h3, by rw [h6]; omega, fun j hj => ?_⟩
    rw [← h7, List.getElem?_take, if_pos hj, Array.getElem?_toList]
theorem HoldsP.below {n : Nat} {w w' : World} {v : Value} {F : List Op.Pk} (h : HoldsP w v F) (hb : Below n w w') (hn : n = w.heap.size) : HoldsP w' v F := by
  subst hn
  exact h.imp id fun ⟨g, cp, cur, h1, h2, h3⟩ => ⟨g, cp, cur, h1, (hb.block g (Array.getElem?_eq_some_iff.1 h2).1).trans h2, h3⟩
theorem HoldsP.form {w : World} {v : Value} {F : List Op.Pk} (h : HoldsP w v F) : ∃ ad cp, v = .slice ad F.length cp := by
  rcases h with ⟨ad, cp, h1, h2⟩ | ⟨g, cp, cur, h1, _⟩
  · exact ⟨ad, cp, by rw [h1, h2]; rfl⟩
  · exact ⟨_, _, h1⟩
theorem holdsP_nil (w : World) (ad : Option Addr) (cp : Nat) : HoldsP w (.slice ad 0 cp) [] := Or.inl ⟨ad, cp, rfl, rfl⟩
theorem HoldsP.other {w w' : World} {v : Value} {F : List Op.Pk} (h : HoldsP w v F) (hw : ∀ g, v.ownBlock = some g → w'.heap[g]? = w.heap[g]?) : HoldsP w' v F := by
  rcases h with ⟨ad, cp, e, e0⟩ | ⟨g, cp, cur, e, q1, q2⟩
  · exact Or.inl ⟨ad, cp, e, e0⟩
  · exact Or.inr ⟨g, cp, cur, e, (hw g (by rw [e]; rfl)).trans q1, q2⟩
theorem HoldsP.lt {w : World} {v : Value} {F : List Op.Pk} (h : HoldsP w v F) (hF : F ≠ []) (g : Nat) (hg : v.ownBlock = some g) : g < w.heap.size := by
  rcases h with ⟨_, _, _, e⟩ | ⟨g', cp, cur, e, q1, _⟩
  · exact absurd e hF
  · rw [e] at hg
    cases hg
    exact (Array.getElem?_eq_some_iff.1 q1).1
theorem append_pk {wr : World} {ops : Array Oper} {rest : List Oper} {o : Oper} {a : Act} {Q : Exit → Act → World → Prop} (hgd : o.guard = none) (s x : Operand)
    (ho : o.op = .call { callee := .builtin .append, args := #[s, x], argTypes := #[39, 39] })
    (base : Nat) (v : Value) (F : List Op.Pk) (n : Nat) (hn : F.length = n) (hs : a.eval s = v) (hown : wr.ownsRow base 35 3 v n (pkcells F)) (cd id : Int) (dt : ByteArray) (hx : a.eval x = .slice (some ⟨wr.heap.size, 0, none⟩) 1 1) (hlen : n ≤ 1000) (hbase : base ≤ wr.heap.size)
    (h : ∀ v' w', w'.ownsRow base 35 3 v' (n + 1) (pkcells (F ++ [⟨cd, id, dt⟩])) → (wr.alloc (.cells #[.int .i64 cd, .int .i64 id, .string dt] 35)).grownBy w' v.ownBlock → wpList Tryz.prog ops Q rest (a.put o.dst v') w') : wpList Tryz.prog ops Q (o :: rest) a (wr.alloc (.cells #[.int .i64 cd, .int .i64 id, .string dt] 35)) := by
  obtain ⟨i0, hi0, hz0, hz1, hz2⟩ := pkinfo
  refine wpList_append_own _ hgd s x 39 ho base 35 i0 _ 3 32 Tryz.underlying39 hi0 hz0 hz1 hz2 rfl (by decide) v n (pkcells F) hs (hown.alloc _) ⟨wr.heap.size, 0, none⟩ 1 1 [.int .i64 cd, .int .i64 id, .string dt] hx rfl ?_ ?_ ?_ ?_ ?_ ?_
  · intro i u hu
    rw [Addr.add_lit, Nat.zero_add, World.cell?_alloc_at _ _ _ _ rfl, ← hu]
    simp
  · intro u hu
    simp only [List.mem_cons, List.not_mem_nil, or_false] at hu
    rcases hu with rfl | rfl | rfl <;> rfl
  · unfold maxLen; omega
  · omega
  · simp; omega
  · intro v' w2 hown2 hg2 _
    refine h v' w2 ?_ hg2
    rw [pkcells_append]
    exact hown2
set_option maxHeartbeats 400000 in
theorem eqPk1 (x y : Int) (t : ByteArray) (w : World) :
    Calls Tryz.prog 103 #[.agg #[.int .i64 x, .int .i64 y, .string t], .agg #[.int .i64 x, .int .i64 y, .string t]] w fun e w' => e = .returned (.bool true) ∧ Below w.heap.size w w' := by
  go_enter Tryz.func103, Tryz.ntmps103
  go_wp2
  go_ret
  exact ⟨rfl, ((Below.refl _ _).alloc (Nat.le_refl _) _).alloc (by simp) _⟩
set_option maxHeartbeats 2000000 in
theorem eqPk0 (a1 a2 : Option Addr) (c1 c2 : Nat) (w : World) :
    Calls Tryz.prog 56 #[.slice a1 0 c1, .slice a2 0 c2] w fun e w' => e = .returned (.bool true) ∧ Below w.heap.size w w' := by
  go_enter Tryz.func56, Tryz.ntmps56
  go_wp2_with fail
  go_loopw [5] (fun y wr => y = .int .i64 0 ∧ wr = w) (fun _ _ => 0)
  case atStart => exact ⟨rfl, rfl⟩
  case round =>
    obtain ⟨rfl, rfl⟩ := hrel
    go_wp2
    go_ret
    exact ⟨rfl, Below.refl _ _⟩
set_option maxHeartbeats 2000000 in
theorem eqPkG (g1 g2 c1 c2 : Nat) (F : List Op.Pk) (cur1 cur2 : Array Value) (w : World) (hF : F.length ≤ 2000000) (h1 : w.heap[g1]? = some (.cells cur1 35)) (h2 : w.heap[g2]? = some (.cells cur2 35))
    (a1 : ∀ j, j < F.length * 3 → cur1[j]? = (pkcells F)[j]?) (a2 : ∀ j, j < F.length * 3 → cur2[j]? = (pkcells F)[j]?) :
    Calls Tryz.prog 56 #[.slice (some ⟨g1, 0, none⟩) F.length c1, .slice (some ⟨g2, 0, none⟩) F.length c2] w fun e w' => e = .returned (.bool true) ∧ Below w.heap.size w w' := by
  have hl1 : g1 < w.heap.size := (Array.getElem?_eq_some_iff.1 h1).1
  have hl2 : g2 < w.heap.size := (Array.getElem?_eq_some_iff.1 h2).1
  obtain ⟨n, hn⟩ : ∃ n, F.length = n := ⟨_, rfl⟩
  have HA : Hid (∀ i, i < n → ∃ x y t, cur1[i * 3]? = some (.int .i64 x) ∧ cur1[i * 3 + 1]? = some (.int .i64 y) ∧ cur1[i * 3 + 2]? = some (.string t) ∧ cur2[i * 3]? = some (.int .i64 x) ∧ cur2[i * 3 + 1]? = some (.int .i64 y) ∧ cur2[i * 3 + 2]? = some (.string t)) := by
    refine hide fun i hi => ?_
    have g := pkcells_get F i (F[i]'(by omega)) (List.getElem?_eq_getElem (by omega))
    exact ⟨_, _, _, (a1 _ (by omega)).trans g.1, (a1 _ (by omega)).trans g.2.1, (a1 _ (by omega)).trans g.2.2, (a2 _ (by omega)).trans g.1, (a2 _ (by omega)).trans g.2.1, (a2 _ (by omega)).trans g.2.2⟩
  rw [hn] at hF ⊢
  clear a1 a2 hn
  go_enter Tryz.func56, Tryz.ntmps56
  go_wp2_with fail
  go_loopw [5] (fun y wr => ∃ (i : Nat), i ≤ n ∧ y = .int .i64 i ∧ Below w.heap.size w wr) (fun y _ => n - (intOf y).toNat)
  case atStart => exact ⟨0, Nat.zero_le _, rfl, Below.refl _ _⟩
  case round =>
    obtain ⟨i, hi, rfl, hb⟩ := hrel
    have hbs := hb.size
    by_cases hlt : i < n
    · have d1 : (i : Int) < (n : Int) := by omega
      obtain ⟨x, y, t, q1, q2, q3, q4, q5, q6⟩ := unhide HA i hlt
      have e1 := (hb.block g1 hl1).trans h1
      have e2 := (hb.block g2 hl2).trans h2
      have k0 : wr.cell? ⟨g1, i * 3, none⟩ = some (.int .i64 x) := by rw [cell_of_row _ _ _ _ _ _ e1]; exact q1
      have k1 : wr.cell? ⟨g1, i * 3 + 1, none⟩ = some (.int .i64 y) := by rw [cell_of_row _ _ _ _ _ _ e1]; exact q2
      have k2 : wr.cell? ⟨g1, i * 3 + 2, none⟩ = some (.string t) := by rw [cell_of_row _ _ _ _ _ _ e1]; exact q3
      have k3 : wr.cell? ⟨g2, i * 3, none⟩ = some (.int .i64 x) := by rw [cell_of_row _ _ _ _ _ _ e2]; exact q4
      have k4 : wr.cell? ⟨g2, i * 3 + 1, none⟩ = some (.int .i64 y) := by rw [cell_of_row _ _ _ _ _ _ e2]; exact q5
      have k5 : wr.cell? ⟨g2, i * 3 + 2, none⟩ = some (.string t) := by rw [cell_of_row _ _ _ _ _ _ e2]; exact q6
      have C := hide fun v => eqPk1 x y t v
      clear e1 e2 q1 q2 q3 q4 q5 q6 h1 h2
      go_wp2_with fail
      go_region_with (first
        | (go_at_call 103; refine (unhide C _).mono ?_; rintro e w2 ⟨rfl, hb2⟩))
      all_goals
        go_wp2_with fail
        go_roundw
        case rel => exact ⟨i + 1, by omega, by go_num, hb.trans (((Below.refl _ _).drew.trans hb2).mono hbs)⟩
        case measure => simp [intOf]; omega
    · have e : i = n := by omega
      subst e
      have d1 : ¬ ((i : Int) < (i : Int)) := by omega
      go_wp2
      go_ret
      exact ⟨rfl, hb⟩
theorem eqPkS (v1 v2 : Value) (F : List Op.Pk) (w : World) (hF : F.length ≤ 2000000) (h1 : HoldsP w v1 F) (h2 : HoldsP w v2 F) :
    Calls Tryz.prog 56 #[v1, v2] w fun e w' => e = .returned (.bool true) ∧ Below w.heap.size w w' := by
  rcases h1 with ⟨ad1, cp1, rfl, e⟩ | ⟨g1, cp1, cur1, rfl, q1, q2, q3⟩
  · subst e
    rcases h2 with ⟨ad2, cp2, rfl, _⟩ | ⟨g2, cp2, cur2, rfl, _⟩
    · exact eqPk0 _ _ _ _ w
    · exact eqPk0 _ _ _ _ w
  · rcases h2 with ⟨ad2, cp2, rfl, e⟩ | ⟨g2, cp2, cur2, rfl, r1, r2, r3⟩
    · subst e
      exact eqPk0 _ _ _ _ w
    · exact eqPkG g1 g2 cp1 cp2 F cur1 cur2 w hF q1 r1 q3 r3
end Go.Proofs.YtghopihgnmnlcaaGreatDoor
namespace Go.Proofs.YtghopihgnmnlcaaGreatDoor
open Go.RowKit
/-- The digits of a number ahead of a text. -/
def dgf : Nat → Nat → ByteArray → ByteArray
  | 0, _, o => o
  | f + 1, k, o => if k = 0 then o else dgf f (k / 10) (strOfNums [((48 + k % 10 : Nat) : Int)] ++ o)
theorem dgf_zero (f : Nat) (o : ByteArray) : dgf f 0 o = o := by cases f <;> rfl
theorem dgf_step {f k : Nat} (o : ByteArray) (h : 0 < k) (hf : k ≤ f) : ∃ f', k / 10 ≤ f' ∧ dgf f k o = dgf f' (k / 10) (strOfNums [((48 + k % 10 : Nat) : Int)] ++ o) := by
  cases f with
  | zero => omega
  | succ f => exact ⟨f, by omega, by simp only [dgf]; rw [if_neg (by omega)]⟩
/-- A mark's text. -/
def mtx (k : Nat) : ByteArray := ⟨#[109]⟩ ++ dgf k k ⟨#[]⟩
set_option maxHeartbeats 100000000 in
theorem markText (k : Nat) (w : World) (hk : 0 < k) (hk2 : k < 10000000) :
    Calls Tryz.prog 105 #[.int .i64 k] w fun e w' => e = .returned (.string (mtx k)) ∧ Below w.heap.size w w' := by
  have d1 : ¬ ((k : Int) ≤ 0) := by omega
  go_enter Tryz.func105, Tryz.ntmps105
  go_wp2_with fail
  go_loopw [0, 3] (fun x o wr => ∃ (j f : Nat) (out : ByteArray), x = .int .i64 j ∧ o = .string out ∧ j ≤ f ∧ dgf f j out = dgf k k ⟨#[]⟩ ∧ out.size + j ≤ 10000000 ∧ Below w.heap.size w wr) (fun x _ _ => (intOf x).toNat)
  case atStart => exact ⟨k, k, ⟨#[]⟩, rfl, rfl, Nat.le_refl _, rfl, by simp [ByteArray.size]; omega, Below.refl _ _⟩
  case round =>
    obtain ⟨j, f, out, rfl, rfl, hf, hd, hs, hb⟩ := hrel
    have hs2 := hb.size
    by_cases h0 : 0 < j
    · obtain ⟨f', hf', hd'⟩ := dgf_step out h0 hf
      have HD : Hid (dgf f' (j / 10) (strOfNums [((48 + j % 10 : Nat) : Int)] ++ out) = dgf k k ⟨#[]⟩) := hide (hd'.symm.trans hd)
      have hsz : (strOfNums [((48 + j % 10 : Nat) : Int)]).size = 1 := strOfNums_size _
      have hcv : (convert 22 9 (.slice (some ⟨wr.heap.size, 0, none⟩) 1 1)).run Tryz.prog (wr.alloc (.cells #[.int .u8 (48 + (j : Int) % 10)] 5)) = .ok (.string (strOfNums [((48 + j % 10 : Nat) : Int)])) (wr.alloc (.cells #[.int .u8 (48 + (j : Int) % 10)] 5)) := by
        have h := conv_own (xs := [((48 + j % 10 : Nat) : Int)]) (World.ownsRow_lit (base := wr.heap.size) wr #[.int .u8 ((48 + j % 10 : Nat) : Int)] 1 (by omega) (by decide) rfl)
        rw [show ((48 + j % 10 : Nat) : Int) = 48 + (j : Int) % 10 by omega] at h ⊢
        exact h
      generalize strOfNums [((48 + j % 10 : Nat) : Int)] = c at *
      have hcat : ¬ (9223372036854775807 < c.size + out.size) := by omega
      have d2 : (0 : Int) < (j : Int) := by omega
      clear hd hd'
      go_wp2_with fail
      go_roundw
      case rel => exact ⟨j / 10, f', c ++ out, by go_num, rfl, hf', unhide HD, by rw [ByteArray.size_append]; omega, hb.alloc hs2 _⟩
      case measure => simp [intOf]; omega
    · have h0' : j = 0 := by omega
      subst h0'
      rw [dgf_zero] at hd
      have hcat : ¬ (9223372036854775807 < (ByteArray.mk #[109]).size + out.size) := by rw [show (ByteArray.mk #[109]).size = 1 from rfl]; omega
      have HD := hide hd
      clear hd
      go_wp2
      go_ret
      exact ⟨by unfold mtx; rw [← unhide HD]; rfl, hb⟩
end Go.Proofs.YtghopihgnmnlcaaGreatDoor
