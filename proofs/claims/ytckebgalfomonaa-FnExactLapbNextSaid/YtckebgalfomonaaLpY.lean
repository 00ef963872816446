/- What the laws of a numbered line's answers share: answers in memory, in ranges of blocks; marked, held, compared; what lay in memory stands but for a range. -/
import Derived.Test.YtckebgalfomonaaLpQ
import Derived.Test.YtckebgalfomonaaLpM
namespace Go.Proofs.Ytckebgalfomonaa
open Go.RowKit
/-- The program's answer in memory. -/
def AnG (o : LO) (lo hi : Nat) (cs : Array Value) (q : World) : Prop :=
  ∃ x1 x2 x3 y1 y2 y3, cs = loC o.p (.slice x1 o.Q.length y1) (.slice x2 o.sn.length y2) (.slice x3 o.gt.length y3) o.cd ∧ HoldsT q (.slice x1 o.Q.length y1) o.Q ∧ HoldsN q (.slice x2 o.sn.length y2) o.sn ∧ HoldsT q (.slice x3 o.gt.length y3) o.gt ∧
    InL lo hi o.Q.length (.slice x1 o.Q.length y1) ∧ InL lo hi o.sn.length (.slice x2 o.sn.length y2) ∧ InL lo hi o.gt.length (.slice x3 o.gt.length y3) ∧ (∀ g, bk o.Q.length (.slice x1 o.Q.length y1) = some g → bk o.gt.length (.slice x3 o.gt.length y3) ≠ some g)
/-- The model's answer in memory. -/
def AnM (o : LO) (lo hi : Nat) (cs : Array Value) (q : World) : Prop :=
  ∃ x1 x2 x3 y1 y2 y3, cs = loC o.p (.slice x1 o.Q.length y1) (.slice x2 o.sn.length y2) (.slice x3 o.gt.length y3) o.cd ∧ HoldsS q (.slice x1 o.Q.length y1) o.Q ∧ HoldsN q (.slice x2 o.sn.length y2) o.sn ∧ HoldsS q (.slice x3 o.gt.length y3) o.gt ∧
    InL lo hi o.Q.length (.slice x1 o.Q.length y1) ∧ InL lo hi o.sn.length (.slice x2 o.sn.length y2) ∧ InL lo hi o.gt.length (.slice x3 o.gt.length y3)
/-- A marked answer. -/
def MkG (o : LO) (cs : Array Value) (q : World) : Prop :=
  ∃ x1 x2 x3 y1 y2 y3, cs = loC o.p (.slice x1 o.Q.length y1) (.slice x2 o.sn.length y2) (.slice x3 o.gt.length y3) o.cd ∧ HoldsT q (.slice x1 o.Q.length y1) (mtl 1 o.Q.length) ∧ HoldsN q (.slice x2 o.sn.length y2) (mnb (1 + o.Q.length) o.sn.length) ∧ HoldsT q (.slice x3 o.gt.length y3) (mtl (1 + o.Q.length + 4 * o.sn.length) o.gt.length)
/-- An answer's lists are short. -/
structure LoB (o : LO) : Prop where
  l1 : o.Q.length ≤ 100000
  l2 : o.sn.length ≤ 100000
  l3 : o.gt.length ≤ 100000
theorem loC_all (p : Lp) (x1 x2 x3 : Option Addr) (n1 n2 n3 y1 y2 y3 : Nat) (cd : Int) : (loC p (.slice x1 n1 y1) (.slice x2 n2 y2) (.slice x3 n3 y3) cd).all (·.oneCell') = true := by
  kernel_rfl
theorem HoldsS.bk_lt {w : World} {v : Value} {F : List ByteArray} (h : HoldsS w v F) (g : Nat) (hg : bk F.length v = some g) : g < w.heap.size := by
  rcases h with ⟨ad, cp, e, e0⟩ | ⟨g', o, cp, cur, e, q1, _⟩
  · rw [e0] at hg
    rw [List.length_nil, bk_none] at hg
    cases hg
  · have := bk_own hg
    rw [e] at this
    cases this
    exact (Array.getElem?_eq_some_iff.1 q1).1
theorem HoldsN.bk_lt {w : World} {v : Value} {F : List Nb} (h : HoldsN w v F) (g : Nat) (hg : bk F.length v = some g) : g < w.heap.size := by
  obtain ⟨cur, e⟩ := h.ty hg
  exact (Array.getElem?_eq_some_iff.1 e).1
theorem AnG.of {w q : World} {o : LO} {cs : Array Value} (h : AnsL w o (.returned (.agg cs)) q) : AnG o w.heap.size q.heap.size cs q ∧ Below w.heap.size w q ∧ cs.size = 9 ∧ cs.all (·.oneCell') = true := by
  obtain ⟨v, vf, vg, e, o1, o2, o3, hap, lo⟩ := h
  have e' : cs = loC o.p v vf vg o.cd := by injection e with e; injection e
  obtain ⟨a1, p1, e1⟩ := own_form o1
  obtain ⟨a2, p2, e2⟩ := own_form o2
  obtain ⟨a3, p3, e3⟩ := own_form o3
  subst e1 e2 e3 e'
  exact ⟨⟨a1, a2, a3, p1, p2, p3, rfl, HoldsT.own o1, HoldsN.own o2, HoldsT.own o3, fun g hg => o1.lt g (bk_own hg), fun g hg => o2.lt g (bk_own hg), fun g hg => o3.lt g (bk_own hg), fun g h1 h2 => hap g (bk_own h1) (bk_own h2)⟩, lo, rfl, loC_all _ _ _ _ _ _ _ _ _ _ _⟩
theorem AnM.of {w q : World} {o : LO} {cs : Array Value} (h : AnsW w o (.returned (.agg cs)) q) : AnM o w.heap.size q.heap.size cs q ∧ Below w.heap.size w q ∧ cs.size = 9 ∧ cs.all (·.oneCell') = true := by
  obtain ⟨v, vf, vg, e, o1, o2, o3, l1, l2, l3, lo⟩ := h
  have e' : cs = loC o.p v vf vg o.cd := by injection e with e; injection e
  obtain ⟨a1, p1, e1⟩ := o1.form
  obtain ⟨a2, p2, e2⟩ := o2.form
  obtain ⟨a3, p3, e3⟩ := o3.form
  subst e1 e2 e3 e'
  exact ⟨⟨a1, a2, a3, p1, p2, p3, rfl, o1, o2, o3, fun g hg => ⟨l1 g (bk_own hg), o1.bk_lt g hg⟩, fun g hg => ⟨l2 g (bk_own hg), o2.bk_lt g hg⟩, fun g hg => ⟨l3 g (bk_own hg), o3.bk_lt g hg⟩⟩, lo, rfl, loC_all _ _ _ _ _ _ _ _ _ _ _⟩
theorem AnG.step {o : LO} {lo hi : Nat} {cs : Array Value} {q q' : World} (h : AnG o lo hi cs q) (hb : Below q.heap.size q q') : AnG o lo hi cs q' := by
  obtain ⟨x1, x2, x3, y1, y2, y3, e, h1, h2, h3, f⟩ := h
  exact ⟨x1, x2, x3, y1, y2, y3, e, h1.below hb rfl, h2.below hb rfl, h3.below hb rfl, f⟩
theorem AnM.step {o : LO} {lo hi : Nat} {cs : Array Value} {q q' : World} (h : AnM o lo hi cs q) (hb : Below q.heap.size q q') : AnM o lo hi cs q' := by
  obtain ⟨x1, x2, x3, y1, y2, y3, e, h1, h2, h3, f⟩ := h
  exact ⟨x1, x2, x3, y1, y2, y3, e, h1.below hb, h2.below hb rfl, h3.below hb, f⟩
theorem MkG.step {o : LO} {cs : Array Value} {q q' : World} (h : MkG o cs q) (hb : Below q.heap.size q q') : MkG o cs q' := by
  obtain ⟨x1, x2, x3, y1, y2, y3, e, h1, h2, h3⟩ := h
  exact ⟨x1, x2, x3, y1, y2, y3, e, h1.below hb rfl, h2.below hb rfl, h3.below hb rfl⟩
theorem HoldsS.rgl {w w' : World} {v : Value} {F : List ByteArray} {lo hi a b : Nat} (h : HoldsS w v F) (hr : RgL lo hi w w') (hi' : InL a b F.length v) (hd : b ≤ lo ∨ hi ≤ a) : HoldsS w' v F := by
  rcases h with ⟨ad, cp, e, e0⟩ | ⟨g, o, cp, cur, e, q1, q2⟩
  · exact Or.inl ⟨ad, cp, e, e0⟩
  · by_cases hz : F.length = 0
    · have : F = [] := List.eq_nil_of_length_eq_zero hz
      subst this
      exact Or.inl ⟨_, _, e, rfl⟩
    · have hg := hi' g (by rw [bk_some hz, e]; rfl)
      exact Or.inr ⟨g, o, cp, cur, e, (hr.block g (Array.getElem?_eq_some_iff.1 q1).1 (fun e => by omega)).trans q1, q2⟩
theorem HoldsN.rgl {w w' : World} {v : Value} {F : List Nb} {lo hi a b : Nat} (h : HoldsN w v F) (hr : RgL lo hi w w') (hi' : InL a b F.length v) (hd : b ≤ lo ∨ hi ≤ a) : HoldsN w' v F := by
  rcases h with ⟨ad, cp, e, e0⟩ | ⟨g, cp, cur, e, q1, q2⟩
  · exact Or.inl ⟨ad, cp, e, e0⟩
  · by_cases hz : F.length = 0
    · have : F = [] := List.eq_nil_of_length_eq_zero hz
      subst this
      exact Or.inl ⟨_, _, e, rfl⟩
    · have hg := hi' g (by rw [bk_some hz, e]; rfl)
      exact Or.inr ⟨g, cp, cur, e, (hr.block g (Array.getElem?_eq_some_iff.1 q1).1 (fun e => by omega)).trans q1, q2⟩
theorem AnG.rg {o : LO} {lo hi a b : Nat} {cs : Array Value} {q q' : World} (h : AnG o a b cs q) (hr : RgL lo hi q q') (hd : b ≤ lo ∨ hi ≤ a) : AnG o a b cs q' := by
  obtain ⟨x1, x2, x3, y1, y2, y3, e, h1, h2, h3, f1, f2, f3, f4⟩ := h
  exact ⟨x1, x2, x3, y1, y2, y3, e, h1.rgl hr f1 hd, h2.rgl hr f2 hd, h3.rgl hr f3 hd, f1, f2, f3, f4⟩
theorem AnM.rg {o : LO} {lo hi a b : Nat} {cs : Array Value} {q q' : World} (h : AnM o a b cs q) (hr : RgL lo hi q q') (hd : b ≤ lo ∨ hi ≤ a) : AnM o a b cs q' := by
  obtain ⟨x1, x2, x3, y1, y2, y3, e, h1, h2, h3, f1, f2, f3⟩ := h
  exact ⟨x1, x2, x3, y1, y2, y3, e, h1.rgl hr f1 hd, h2.rgl hr f2 hd, h3.rgl hr f3 hd, f1, f2, f3⟩
theorem eqG {o : LO} (hB : LoB o) {a b c d : Nat} {cs ds : Array Value} {W : World} (h : AnG o a b cs W) (k : AnM o c d ds W) : Calls Try.prog 19 #[.agg cs, .agg ds] W fun r w' => r = .returned (.bool true) ∧ Below W.heap.size W w' := by
  obtain ⟨x1, x2, x3, y1, y2, y3, rfl, h1, h2, h3, _⟩ := h
  obtain ⟨x4, x5, x6, y4, y5, y6, rfl, k1, k2, k3, _⟩ := k
  have := hB.l1
  have := hB.l2
  have := hB.l3
  exact eqLoS o x1 x2 x3 x4 x5 x6 y1 y2 y3 y4 y5 y6 W (by omega) (by omega) (by omega) h1.s h2 h3.s k1 k2 k3
theorem markG {o : LO} (hB : LoB o) {a b : Nat} {cs : Array Value} {W : World} (h : AnG o a b cs W) : Calls Try.prog 20 #[.agg cs, .int .i64 1] W fun r w' => r = .returned (.int .i64 ((1 + o.Q.length + 4 * o.sn.length + o.gt.length : Nat) : Int)) ∧ MkG o cs w' ∧ RgL a b W w' := by
  obtain ⟨x1, x2, x3, y1, y2, y3, rfl, h1, h2, h3, f1, f2, f3, f4⟩ := h
  have := hB.l1
  have := hB.l2
  have := hB.l3
  refine (markLo o.p o.cd x1 x2 x3 y1 y2 y3 o.Q o.sn o.gt 1 W (by decide) (by omega) h1 h2 h3 f4).mono ?_
  rintro r w' ⟨hr, k1, k2, k3, hb⟩
  exact ⟨hr, ⟨x1, x2, x3, y1, y2, y3, rfl, k1, k2, k3⟩, ⟨hb.os, hb.tape, hb.output, hb.size, fun g hg hn => hb.block g hg (fun e => hn (f1 g e)) (fun e => hn (f2 g e)) (fun e => hn (f3 g e))⟩⟩
theorem heldG {o : LO} (hB : LoB o) {cs : Array Value} {W : World} (h : MkG o cs W) : Calls Try.prog 21 #[.agg cs, .int .i64 1] W fun r w' => r = .returned (.int .i64 ((1 + o.Q.length + 4 * o.sn.length + o.gt.length : Nat) : Int)) ∧ Below W.heap.size W w' := by
  obtain ⟨x1, x2, x3, y1, y2, y3, rfl, h1, h2, h3⟩ := h
  have := hB.l1
  have := hB.l2
  have := hB.l3
  exact heldLo o.p o.cd x1 x2 x3 _ _ _ y1 y2 y3 1 W (by decide) (by omega) h1 h2 h3
def loZ : Array Value := #[.int .i64 0, .int .i64 0, .int .i64 0, .int .i64 0, .slice none 0 0, .bool false, .slice none 0 0, .slice none 0 0, .int .i64 0]
theorem load_rowL {ops : Array Oper} {rest : List Oper} {o : Oper} {a : Act} {w : World} {Q : Exit → Act → World → Prop} (hw : Region.wanted o (yielded ops a.tmps) = true) (v : Value) (hrun : ∀ K : Act → World → Prop, K (a.put o.dst v) w → o.wp Try.prog a w K Q)
    (h : wpList Try.prog ops Q rest (a.put o.dst v) w) : wpList Try.prog ops Q (o :: rest) a w :=
  wpList_step fun K hK => by rw [if_pos hw]; exact hrun K (hK _ _ h)
theorem size_putL (w : World) (o : Obj) (g : Nat) (cs : Array Value) : ((w.alloc o).setRow g cs).heap.size = w.heap.size + 1 := by
  unfold World.setRow
  simp
theorem loErr_len (k : Int) : LoB (loErr k) := ⟨Nat.zero_le _, Nat.zero_le _, Nat.zero_le _⟩
/-- What the law has laid. -/
structure LiL (w : World) (ca cl : List Value) (cw cg : Array Value) (A bw bx bg : Nat) (q : World) : Prop where
  a : q.heap[A]? = some (.cells ca.toArray 29)
  m : q.heap[bw]? = some (.cells cw 36)
  x : q.heap[bx]? = some (.cells cl.toArray 24)
  g : q.heap[bg]? = some (.cells cg 36)
  b : Below w.heap.size w q
theorem LiL.step {w : World} {ca cl : List Value} {cw cg : Array Value} {A bw bx bg : Nat} {q q' : World} (h : LiL w ca cl cw cg A bw bx bg q) (hb : Below q.heap.size q q') : LiL w ca cl cw cg A bw bx bg q' :=
  ⟨(hb.block _ (Array.getElem?_eq_some_iff.1 h.a).1).trans h.a, (hb.block _ (Array.getElem?_eq_some_iff.1 h.m).1).trans h.m, (hb.block _ (Array.getElem?_eq_some_iff.1 h.x).1).trans h.x, (hb.block _ (Array.getElem?_eq_some_iff.1 h.g).1).trans h.g, h.b.trans (hb.mono h.b.size)⟩
theorem LiL.rg {w : World} {ca cl : List Value} {cw cg : Array Value} {A bw bx bg lo hi : Nat} {q q' : World} (h : LiL w ca cl cw cg A bw bx bg q) (hr : RgL lo hi q q') (ha : A < lo) (hw : bw < lo) (hx : bx < lo ∨ hi ≤ bx) (hg : bg < lo ∨ hi ≤ bg) (hlo : w.heap.size ≤ lo) : LiL w ca cl cw cg A bw bx bg q' :=
  ⟨(hr.block _ (Array.getElem?_eq_some_iff.1 h.a).1 (fun e => by omega)).trans h.a, (hr.block _ (Array.getElem?_eq_some_iff.1 h.m).1 (fun e => by omega)).trans h.m, (hr.block _ (Array.getElem?_eq_some_iff.1 h.x).1 (fun e => by omega)).trans h.x, (hr.block _ (Array.getElem?_eq_some_iff.1 h.g).1 (fun e => by omega)).trans h.g, hr.below h.b hlo (Nat.le_refl _)⟩
end Go.Proofs.Ytckebgalfomonaa
