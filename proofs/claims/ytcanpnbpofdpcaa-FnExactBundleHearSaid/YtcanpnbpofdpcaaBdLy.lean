/- What the law FnExactBundleHear shares: answers in memory, in ranges of blocks; marked, held, compared; what lay in memory stands but for a range. -/
import Derived.Test.YtcanpnbpofdpcaaBdE
import Derived.Test.YtcanpnbpofdpcaaBdTc
import Derived.Great.Walk
import Derived.Deep.MidRow
namespace Go.Proofs.Ytcanpnbpofdpcaa
open Go.RowKit
/-- All but a range of blocks stands. -/
structure RgL (lo hi : Nat) (w w' : World) : Prop where
  os : w'.os = w.os
  tape : w'.tape = w.tape
  output : w'.output = w.output
  size : w.heap.size ≤ w'.heap.size
  block : ∀ b, b < w.heap.size → ¬ (lo ≤ b ∧ b < hi) → w'.heap[b]? = w.heap[b]?
theorem RgL.below {lo hi n : Nat} {w0 w w' : World} (h : RgL lo hi w w') (hb : Below n w0 w) (hn : n ≤ lo) (h0 : n ≤ w0.heap.size) : Below n w0 w' :=
  ⟨h.os.trans hb.os, h.tape.trans hb.tape, h.output.trans hb.output, Nat.le_trans hb.size h.size, fun b hlt => (h.block b (Nat.lt_of_lt_of_le hlt (Nat.le_trans h0 hb.size)) (fun e => by omega)).trans (hb.block b hlt)⟩
/-- A row's block, if it has cells. -/
abbrev bk (n : Nat) (v : Value) : Option Nat := bkb n v
theorem bk_none (v : Value) : bk 0 v = none := if_pos rfl
theorem bk_some {n : Nat} (h : n ≠ 0) (v : Value) : bk n v = v.ownBlock := if_neg h
theorem bk_own {n : Nat} {v : Value} {g : Nat} (h : bk n v = some g) : v.ownBlock = some g := by
  unfold bk bkb at h
  split at h
  · cases h
  · exact h
/-- A row's block, if it has cells, lies in a range. -/
def InL (lo hi : Nat) (n : Nat) (v : Value) : Prop := ∀ g, bk n v = some g → lo ≤ g ∧ g < hi
theorem HoldsT.bk_lt {w : World} {v : Value} {F : List ByteArray} (h : HoldsT w v F) (g : Nat) (hg : bk F.length v = some g) : g < w.heap.size := by
  rcases h with ⟨ad, cp, e, e0⟩ | ⟨g', cp, cur, e, q1, _⟩
  · rw [e0] at hg
    rw [List.length_nil, bk_none] at hg
    cases hg
  · have := bk_own hg
    rw [e] at this
    cases this
    exact (Array.getElem?_eq_some_iff.1 q1).1
theorem HoldsT.rgl {w w' : World} {v : Value} {F : List ByteArray} {lo hi a b : Nat} (h : HoldsT w v F) (hr : RgL lo hi w w') (hi' : InL a b F.length v) (hd : b ≤ lo ∨ hi ≤ a) : HoldsT w' v F := by
  rcases h with ⟨ad, cp, e, e0⟩ | ⟨g, cp, cur, e, q1, q2⟩
  · exact Or.inl ⟨ad, cp, e, e0⟩
  · by_cases hz : F.length = 0
    · have : F = [] := List.eq_nil_of_length_eq_zero hz
      subst this
      exact Or.inl ⟨_, _, e, rfl⟩
    · have hg := hi' g (by rw [bk_some hz, e]; rfl)
      exact Or.inr ⟨g, cp, cur, e, (hr.block g (Array.getElem?_eq_some_iff.1 q1).1 (fun e => by omega)).trans q1, q2⟩
theorem HoldsI.bk_lt2 {w : World} {v : Value} {F : List Int} (h : HoldsI w v F) (g : Nat) (hg : bk F.length v = some g) : g < w.heap.size := by
  rcases h with ⟨ad, cp, e, e0⟩ | ⟨g', cp, cur, e, q1, _⟩
  · rw [e0] at hg
    rw [List.length_nil, bk_none] at hg
    cases hg
  · have := bk_own hg
    rw [e] at this
    cases this
    exact (Array.getElem?_eq_some_iff.1 q1).1
theorem HoldsI.rgl {w w' : World} {v : Value} {F : List Int} {lo hi a b : Nat} (h : HoldsI w v F) (hr : RgL lo hi w w') (hi' : InL a b F.length v) (hd : b ≤ lo ∨ hi ≤ a) : HoldsI w' v F := by
  rcases h with ⟨ad, cp, e, e0⟩ | ⟨g, cp, cur, e, q1, q2⟩
  · exact Or.inl ⟨ad, cp, e, e0⟩
  · by_cases hz : F.length = 0
    · have : F = [] := List.eq_nil_of_length_eq_zero hz
      subst this
      exact Or.inl ⟨_, _, e, rfl⟩
    · have hg := hi' g (by rw [bk_some hz, e]; rfl)
      exact Or.inr ⟨g, cp, cur, e, (hr.block g (Array.getElem?_eq_some_iff.1 q1).1 (fun e => by omega)).trans q1, q2⟩
theorem HoldsG.bk_lt2 {w : World} {v : Value} {F : List Fg} (h : HoldsG w v F) (g : Nat) (hg : bk F.length v = some g) : g < w.heap.size := by
  rcases h with ⟨ad, cp, e, e0⟩ | ⟨g', cp, cur, e, q1, _⟩
  · rw [e0] at hg
    rw [List.length_nil, bk_none] at hg
    cases hg
  · have := bk_own hg
    rw [e] at this
    cases this
    exact (Array.getElem?_eq_some_iff.1 q1).1
theorem HoldsG.rgl {w w' : World} {v : Value} {F : List Fg} {lo hi a b : Nat} (h : HoldsG w v F) (hr : RgL lo hi w w') (hi' : InL a b F.length v) (hd : b ≤ lo ∨ hi ≤ a) : HoldsG w' v F := by
  rcases h with ⟨ad, cp, e, e0⟩ | ⟨g, cp, cur, e, q1, q2⟩
  · exact Or.inl ⟨ad, cp, e, e0⟩
  · by_cases hz : F.length = 0
    · have : F = [] := List.eq_nil_of_length_eq_zero hz
      subst this
      exact Or.inl ⟨_, _, e, rfl⟩
    · have hg := hi' g (by rw [bk_some hz, e]; rfl)
      exact Or.inr ⟨g, cp, cur, e, (hr.block g (Array.getElem?_eq_some_iff.1 q1).1 (fun e => by omega)).trans q1, q2⟩
theorem HoldsF.bk_lt2 {w : World} {v : Value} {F : List Fg} (h : HoldsF w v F) (g : Nat) (hg : bk F.length v = some g) : g < w.heap.size := by
  by_cases hz : F.length = 0
  · rw [hz, bk_none] at hg
    cases hg
  · obtain ⟨g', o, cp, e, hlt, _⟩ := h.2 0 (by omega)
    have := bk_own hg
    rw [e] at this
    cases this
    exact hlt
theorem HoldsF.rgl {w w' : World} {v : Value} {F : List Fg} {lo hi a b : Nat} (h : HoldsF w v F) (hr : RgL lo hi w w') (hi' : InL a b F.length v) (hd : b ≤ lo ∨ hi ≤ a) : HoldsF w' v F := by
  refine ⟨h.1, fun i hi2 => ?_⟩
  obtain ⟨g, o, cp, e, hlt, c0, c1, c2, c3⟩ := h.2 i hi2
  have hg := hi' g (by rw [bk_some (by omega), e]; rfl)
  have hb := hr.block g hlt (fun e => by omega)
  have hc : ∀ j, w'.cell? ⟨g, j, none⟩ = w.cell? ⟨g, j, none⟩ := fun j => by unfold World.cell?; simp only [hb]
  exact ⟨g, o, cp, e, Nat.lt_of_lt_of_le hlt hr.size, (hc _).trans c0, (hc _).trans c1, (hc _).trans c2, (hc _).trans c3⟩
/-- A bundle that the law made. -/
def ToL (L : List Int) (F : List Fg) (lo hi : Nat) (cl : List Value) (q : World) : Prop :=
  ∃ u1 z1 u2 z2, cl = [.slice u1 L.length z1, .slice u2 F.length z2] ∧ HoldsI q (.slice u1 L.length z1) L ∧ HoldsG q (.slice u2 F.length z2) F ∧ InL lo hi L.length (.slice u1 L.length z1) ∧ InL lo hi F.length (.slice u2 F.length z2) ∧ F.length ≤ z2
theorem ToL.step {L : List Int} {F : List Fg} {lo hi : Nat} {cl : List Value} {q q' : World} (h : ToL L F lo hi cl q) (hb : Below q.heap.size q q') : ToL L F lo hi cl q' := by
  obtain ⟨u1, z1, u2, z2, h1, h2, h3, f⟩ := h
  exact ⟨u1, z1, u2, z2, h1, h2.below hb rfl, h3.below hb rfl, f⟩
theorem ToL.len {L : List Int} {F : List Fg} {lo hi : Nat} {cl : List Value} {q : World} (h : ToL L F lo hi cl q) : cl.length = 2 := by
  obtain ⟨u1, z1, u2, z2, h1, _⟩ := h
  rw [h1]
  rfl
theorem ToL.one {L : List Int} {F : List Fg} {lo hi : Nat} {cl : List Value} {q : World} (h : ToL L F lo hi cl q) : cl.toArray.all (·.oneCell') = true := by
  obtain ⟨u1, z1, u2, z2, h1, _⟩ := h
  rw [h1]
  kernel_rfl
theorem toL (a1 b1 : Option Addr) (c1 d1 : Nat) (L : List Int) (F : List Fg) (w : World) (l1 : L.length ≤ 1048576) (l2 : F.length ≤ 1048576) (h1 : ArgI w (.slice a1 L.length c1) L) (h2 : ArgG w (.slice b1 F.length d1) F) :
    Calls Try.prog 7 #[.agg #[.slice a1 L.length c1, .slice b1 F.length d1]] w fun r w' => ∃ cl : List Value, r = .returned (.agg cl.toArray) ∧ ToL L F w.heap.size w'.heap.size cl w' ∧ Below w.heap.size w w' := by
  refine (toBdC a1 b1 c1 d1 L F w l1 l2 h1 h2).mono ?_
  rintro r w' ⟨u1, z1, u2, z2, hr, k1, k2, r1, ⟨r2, r3⟩, hb⟩
  exact ⟨[.slice u1 L.length z1, .slice u2 F.length z2], hr, ⟨u1, z1, u2, z2, rfl, k1, k2, fun g hg => ⟨r1 g (bk_own hg), k1.bk_lt2 g hg⟩, fun g hg => ⟨r2 g (bk_own hg), k2.bk_lt2 g hg⟩, r3⟩, hb⟩
theorem eqL {L : List Int} {F : List Fg} (hk : L.length ≤ 1048576 ∧ F.length ≤ 1048576) {a b c d : Nat} {cl cm : List Value} {W : World} (h : ToL L F a b cl W) (k : ToL L F c d cm W) : Calls Try.prog 9 #[.agg cl.toArray, .agg cm.toArray] W fun r w' => r = .returned (.bool true) ∧ Below W.heap.size W w' := by
  obtain ⟨u1, z1, u2, z2, rfl, h1, h2, _⟩ := h
  obtain ⟨u3, z3, u4, z4, rfl, k1, k2, _⟩ := k
  exact eqBd u1 u3 u2 u4 z1 z3 z2 z4 L F W (by omega) (by omega) h1 k1 h2 k2
theorem markL {L : List Int} {F : List Fg} (hk : L.length ≤ 1048576 ∧ F.length ≤ 1048576) {a b : Nat} {cl : List Value} {W : World} (h : ToL L F a b cl W) : Calls Try.prog 15 #[.agg cl.toArray, .int .i64 1] W fun r w' => (∃ k : Nat, r = .returned (.int .i64 (k : Int))) ∧ RgL a b W w' := by
  obtain ⟨u1, z1, u2, z2, rfl, h1, h2, r1, r2, _⟩ := h
  refine (markBd u1 u2 z1 z2 L F 1 W (by decide) (by omega) h1 h2).mono ?_
  rintro r w' ⟨hr, _, _, hb⟩
  exact ⟨⟨_, hr⟩, hb.os, hb.tape, hb.output, hb.size, fun g hg hn => hb.block g hg (fun e => hn (r1 g e)) (fun e => hn (r2 g e))⟩
theorem infoLL : (Try.prog.info? 25).map (·.size) = some 2 := by kernel_rfl
def lpZ : Array Value := #[.slice none 0 0, .slice none 0 0]
theorem rangeRowL {W : World} {E : Nat} {cl : List Value} {T : TypeId} (h : W.heap[E]? = some (.cells cl.toArray T)) : W.rangeAt E 0 cl := by
  intro j u hu
  rw [cell_of_row _ _ _ _ _ _ h, Nat.zero_add, List.getElem?_toArray]
  exact hu
theorem below_rowL {B g : Nat} {w0 w : World} (hb : Below B w0 w) (h : B ≤ g) (cs : Array Value) : Below B w0 (w.setRow g cs) := below_rowB hb h cs
theorem setRow_other (w : World) (g k : Nat) (cs : Array Value) (h : k ≠ g) : (w.setRow g cs).heap[k]? = w.heap[k]? := setRow_otherB w g k cs h
/-- The program's answer in memory. -/
def AnG (o : BO) (lo hi : Nat) (cs : Array Value) (q : World) : Prop :=
  ∃ x1 x2 x3 y1 y2 y3, cs = boC (.slice x1 o.L.length y1) (.slice x2 o.F.length y2) (.slice x3 o.G.length y3) (o.lost : Nat) o.cd ∧ HoldsI q (.slice x1 o.L.length y1) o.L ∧ HoldsG q (.slice x2 o.F.length y2) o.F ∧ HoldsT q (.slice x3 o.G.length y3) o.G ∧
    InL lo hi o.L.length (.slice x1 o.L.length y1) ∧ InL lo hi o.F.length (.slice x2 o.F.length y2) ∧ InL lo hi o.G.length (.slice x3 o.G.length y3)
/-- The model's answer in memory. -/
def AnM (o : BO) (lo hi : Nat) (cs : Array Value) (q : World) : Prop :=
  ∃ x1 x2 x3 y1 y2 y3, cs = boC (.slice x1 o.L.length y1) (.slice x2 o.F.length y2) (.slice x3 o.G.length y3) (o.lost : Nat) o.cd ∧ HoldsI q (.slice x1 o.L.length y1) o.L ∧ HoldsF q (.slice x2 o.F.length y2) o.F ∧ HoldsT q (.slice x3 o.G.length y3) o.G ∧
    InL lo hi o.L.length (.slice x1 o.L.length y1) ∧ InL lo hi o.F.length (.slice x2 o.F.length y2) ∧ InL lo hi o.G.length (.slice x3 o.G.length y3)
/-- A marked answer. -/
def MkG (o : BO) (cs : Array Value) (q : World) : Prop :=
  ∃ x1 x2 x3 y1 y2 y3, cs = boC (.slice x1 o.L.length y1) (.slice x2 o.F.length y2) (.slice x3 o.G.length y3) (o.lost : Nat) o.cd ∧ HoldsI q (.slice x1 o.L.length y1) (mil 1 o.L.length) ∧ HoldsG q (.slice x2 o.F.length y2) (mfg (1 + o.L.length) o.F.length) ∧ HoldsT q (.slice x3 o.G.length y3) (mtl (1 + o.L.length + 4 * o.F.length) o.G.length)
/-- An answer's lists are short. -/
structure LoB (o : BO) : Prop where
  l1 : o.L.length ≤ 100000
  l2 : o.F.length ≤ 100000
  l3 : o.G.length ≤ 100000
theorem boC_all (x1 x2 x3 : Option Addr) (n1 n2 n3 y1 y2 y3 : Nat) (a b : Int) : (boC (.slice x1 n1 y1) (.slice x2 n2 y2) (.slice x3 n3 y3) a b).all (·.oneCell') = true := by
  kernel_rfl
theorem AnG.of {w q : World} {o : BO} {cs : Array Value} (h : AnsB w o (.returned (.agg cs)) q) : AnG o w.heap.size q.heap.size cs q ∧ Below w.heap.size w q ∧ cs.size = 5 ∧ cs.all (·.oneCell') = true := by
  obtain ⟨v, vf, vg, e, o1, o2, o3, lo⟩ := h
  have e' : cs = boC v vf vg (o.lost : Nat) o.cd := by injection e with e; injection e
  obtain ⟨a1, p1, e1⟩ := own_form o1
  obtain ⟨a2, p2, e2⟩ := own_form o2
  obtain ⟨a3, p3, e3⟩ := own_form o3
  subst e1 e2 e3 e'
  exact ⟨⟨a1, a2, a3, p1, p2, p3, rfl, HoldsI.own o1, HoldsG.own o2, HoldsT.own o3, fun g hg => o1.lt g (bk_own hg), fun g hg => o2.lt g (bk_own hg), fun g hg => o3.lt g (bk_own hg)⟩, lo, rfl, boC_all _ _ _ _ _ _ _ _ _ _ _⟩
theorem AnM.of {w q : World} {o : BO} {cs : Array Value} (h : AnsM w o (.returned (.agg cs)) q) : AnM o w.heap.size q.heap.size cs q ∧ Below w.heap.size w q ∧ cs.size = 5 ∧ cs.all (·.oneCell') = true := by
  obtain ⟨a1, p1, a2, p2, a3, p3, e, o1, o2, _, o3, l1, l2, l3, lo⟩ := h
  have e' : cs = boC (.slice a1 o.L.length p1) (.slice a2 o.F.length p2) (.slice a3 o.G.length p3) (o.lost : Nat) o.cd := by injection e with e; injection e
  subst e'
  exact ⟨⟨a1, a2, a3, p1, p2, p3, rfl, o1, o2, o3, fun g hg => ⟨l1 g (bk_own hg), o1.bk_lt2 g hg⟩, fun g hg => ⟨l2 g (bk_own hg), o2.bk_lt2 g hg⟩, fun g hg => ⟨l3 g (bk_own hg), o3.bk_lt g hg⟩⟩, lo, rfl, boC_all _ _ _ _ _ _ _ _ _ _ _⟩
theorem AnG.step {o : BO} {lo hi : Nat} {cs : Array Value} {q q' : World} (h : AnG o lo hi cs q) (hb : Below q.heap.size q q') : AnG o lo hi cs q' := by
  obtain ⟨x1, x2, x3, y1, y2, y3, e, h1, h2, h3, f⟩ := h
  exact ⟨x1, x2, x3, y1, y2, y3, e, h1.below hb rfl, h2.below hb rfl, h3.below hb rfl, f⟩
theorem AnM.step {o : BO} {lo hi : Nat} {cs : Array Value} {q q' : World} (h : AnM o lo hi cs q) (hb : Below q.heap.size q q') : AnM o lo hi cs q' := by
  obtain ⟨x1, x2, x3, y1, y2, y3, e, h1, h2, h3, f⟩ := h
  exact ⟨x1, x2, x3, y1, y2, y3, e, h1.below hb rfl, h2.below hb, h3.below hb rfl, f⟩
theorem MkG.step {o : BO} {cs : Array Value} {q q' : World} (h : MkG o cs q) (hb : Below q.heap.size q q') : MkG o cs q' := by
  obtain ⟨x1, x2, x3, y1, y2, y3, e, h1, h2, h3⟩ := h
  exact ⟨x1, x2, x3, y1, y2, y3, e, h1.below hb rfl, h2.below hb rfl, h3.below hb rfl⟩
theorem AnG.rg {o : BO} {lo hi a b : Nat} {cs : Array Value} {q q' : World} (h : AnG o a b cs q) (hr : RgL lo hi q q') (hd : b ≤ lo ∨ hi ≤ a) : AnG o a b cs q' := by
  obtain ⟨x1, x2, x3, y1, y2, y3, e, h1, h2, h3, f1, f2, f3⟩ := h
  exact ⟨x1, x2, x3, y1, y2, y3, e, h1.rgl hr f1 hd, h2.rgl hr f2 hd, h3.rgl hr f3 hd, f1, f2, f3⟩
theorem AnM.rg {o : BO} {lo hi a b : Nat} {cs : Array Value} {q q' : World} (h : AnM o a b cs q) (hr : RgL lo hi q q') (hd : b ≤ lo ∨ hi ≤ a) : AnM o a b cs q' := by
  obtain ⟨x1, x2, x3, y1, y2, y3, e, h1, h2, h3, f1, f2, f3⟩ := h
  exact ⟨x1, x2, x3, y1, y2, y3, e, h1.rgl hr f1 hd, h2.rgl hr f2 hd, h3.rgl hr f3 hd, f1, f2, f3⟩
theorem eqG {o : BO} (hB : LoB o) {a b c d : Nat} {cs ds : Array Value} {W : World} (h : AnG o a b cs W) (k : AnM o c d ds W) : Calls Try.prog 14 #[.agg cs, .agg ds] W fun r w' => r = .returned (.bool true) ∧ Below W.heap.size W w' := by
  obtain ⟨x1, x2, x3, y1, y2, y3, rfl, h1, h2, h3, _⟩ := h
  obtain ⟨x4, x5, x6, y4, y5, y6, rfl, k1, k2, k3, _⟩ := k
  have := hB.l1
  have := hB.l2
  have := hB.l3
  exact eqBO o x1 x2 x3 x4 x5 x6 y1 y2 y3 y4 y5 y6 W (by omega) (by omega) (by omega) h1 h2.f h3 k1 k2 k3
theorem markG {o : BO} (hB : LoB o) {a b : Nat} {cs : Array Value} {W : World} (h : AnG o a b cs W) : Calls Try.prog 16 #[.agg cs, .int .i64 1] W fun r w' => r = .returned (.int .i64 ((1 + o.L.length + 4 * o.F.length + o.G.length : Nat) : Int)) ∧ MkG o cs w' ∧ RgL a b W w' := by
  obtain ⟨x1, x2, x3, y1, y2, y3, rfl, h1, h2, h3, f1, f2, f3⟩ := h
  have := hB.l1
  have := hB.l2
  have := hB.l3
  refine (markBO x1 x2 x3 y1 y2 y3 o.L o.F o.G (o.lost : Nat) o.cd 1 W (by decide) (by omega) h1 h2 h3).mono ?_
  rintro r w' ⟨hr, k1, k2, k3, hb⟩
  exact ⟨hr, ⟨x1, x2, x3, y1, y2, y3, rfl, k1, k2, k3⟩, ⟨hb.os, hb.tape, hb.output, hb.size, fun g hg hn => hb.block g hg (fun e => hn (f1 g e)) (fun e => hn (f2 g e)) (fun e => hn (f3 g e))⟩⟩
theorem heldG {o : BO} (hB : LoB o) {cs : Array Value} {W : World} (h : MkG o cs W) : Calls Try.prog 17 #[.agg cs, .int .i64 1] W fun r w' => r = .returned (.int .i64 ((1 + o.L.length + 4 * o.F.length + o.G.length : Nat) : Int)) ∧ Below W.heap.size W w' := by
  obtain ⟨x1, x2, x3, y1, y2, y3, rfl, h1, h2, h3⟩ := h
  have := hB.l1
  have := hB.l2
  have := hB.l3
  exact heldBO x1 x2 x3 y1 y2 y3 _ _ _ 1 (o.lost : Nat) o.cd W (by decide) (by omega) h1 h2 h3
def loZ : Array Value := #[.slice none 0 0, .slice none 0 0, .slice none 0 0, .int .i64 0, .int .i64 0]
theorem load_rowL {ops : Array Oper} {rest : List Oper} {o : Oper} {a : Act} {w : World} {Q : Exit → Act → World → Prop} (hw : Region.wanted o (yielded ops a.tmps) = true) (v : Value) (hrun : ∀ K : Act → World → Prop, K (a.put o.dst v) w → o.wp Try.prog a w K Q)
    (h : wpList Try.prog ops Q rest (a.put o.dst v) w) : wpList Try.prog ops Q (o :: rest) a w :=
  wpList_step fun K hK => by rw [if_pos hw]; exact hrun K (hK _ _ h)
theorem size_putL (w : World) (o : Obj) (g : Nat) (cs : Array Value) : ((w.alloc o).setRow g cs).heap.size = w.heap.size + 1 := by
  unfold World.setRow
  simp
theorem errB_len (k : Int) : LoB (errB k) := ⟨Nat.zero_le _, Nat.zero_le _, Nat.zero_le _⟩
theorem hearB_len (L : List Int) (F : List Fg) (link : Int) (f : Fg) : LoB (hearB L F link f) := by
  unfold hearB
  split
  · rename_i h
    split
    · exact errB_len _
    · have hok := bdOk_ok h.1
      have h1 := hok.1.1
      have h2 := hok.2.1
      have h3 := putP_len F f
      unfold okB
      dsimp only
      generalize hS : settleP (minP (((L.set link.toNat f.seq)[0]?).getD 0) (L.set link.toNat f.seq)) (-1) (putP F f) = S
      have hc : S.lost ≤ (putP F f).length ∧ S.got.length ≤ (putP F f).length := by rw [← hS]; exact settle_cnt _ _ _ _ (Nat.le_refl _)
      have hs : S.stay.length ≤ (putP F f).length := by rw [← hS]; exact (settle_sub _ _ _ _ (Nat.le_refl _)).length_le
      exact ⟨by show (L.set _ _).length ≤ _; rw [List.length_set]; omega, by show (S.stay.drop _).length ≤ _; rw [List.length_drop]; omega, by show S.got.length ≤ _; omega⟩
  · exact errB_len _
/-- What the law has laid. -/
structure LiL (w : World) (ca cl : List Value) (cw cg : Array Value) (A bw bx bg : Nat) (q : World) : Prop where
  a : q.heap[A]? = some (.cells ca.toArray 25)
  m : q.heap[bw]? = some (.cells cw 39)
  x : q.heap[bx]? = some (.cells cl.toArray 30)
  g : q.heap[bg]? = some (.cells cg 39)
  b : Below w.heap.size w q
theorem LiL.step {w : World} {ca cl : List Value} {cw cg : Array Value} {A bw bx bg : Nat} {q q' : World} (h : LiL w ca cl cw cg A bw bx bg q) (hb : Below q.heap.size q q') : LiL w ca cl cw cg A bw bx bg q' :=
  ⟨(hb.block _ (Array.getElem?_eq_some_iff.1 h.a).1).trans h.a, (hb.block _ (Array.getElem?_eq_some_iff.1 h.m).1).trans h.m, (hb.block _ (Array.getElem?_eq_some_iff.1 h.x).1).trans h.x, (hb.block _ (Array.getElem?_eq_some_iff.1 h.g).1).trans h.g, h.b.trans (hb.mono h.b.size)⟩
theorem LiL.rg {w : World} {ca cl : List Value} {cw cg : Array Value} {A bw bx bg lo hi : Nat} {q q' : World} (h : LiL w ca cl cw cg A bw bx bg q) (hr : RgL lo hi q q') (ha : A < lo) (hw : bw < lo) (hx : bx < lo ∨ hi ≤ bx) (hg : bg < lo ∨ hi ≤ bg) (hlo : w.heap.size ≤ lo) : LiL w ca cl cw cg A bw bx bg q' :=
  ⟨(hr.block _ (Array.getElem?_eq_some_iff.1 h.a).1 (fun e => by omega)).trans h.a, (hr.block _ (Array.getElem?_eq_some_iff.1 h.m).1 (fun e => by omega)).trans h.m, (hr.block _ (Array.getElem?_eq_some_iff.1 h.x).1 (fun e => by omega)).trans h.x, (hr.block _ (Array.getElem?_eq_some_iff.1 h.g).1 (fun e => by omega)).trans h.g, hr.below h.b hlo (Nat.le_refl _)⟩
end Go.Proofs.Ytcanpnbpofdpcaa
