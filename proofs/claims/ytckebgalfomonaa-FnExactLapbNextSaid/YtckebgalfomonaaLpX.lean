/- Ends of numbered lines that the law made, in ranges of blocks; what lay in memory stands but for a range. -/
import Derived.Test.YtckebgalfomonaaLpV
import Derived.Great.Walk
import Derived.Deep.MidRow
namespace Go.Proofs.Ytckebgalfomonaa
open Go.RowKit
/-- All but a range of blocks stands. -/
structure RgL (lo hi : Nat) (w w' : World) : Prop where
  os : w'.os = w.os
  tape : w'.tape = w.tape
  output : w'.output = w.output
  size : w.heap.size ≤ w'.heap.size
  block : ∀ b, b < w.heap.size → ¬ (lo ≤ b ∧ b < hi) → w'.heap[b]? = w.heap[b]?
theorem RgL.below {lo hi n : Nat} {w0 w w' : World} (h : RgL lo hi w w') (hb : Below n w0 w) (hn : n ≤ lo) (h0 : n ≤ w0.heap.size) : Below n w0 w' :=
  ⟨h.os.trans hb.os, h.tape.trans hb.tape, h.output.trans hb.output, Nat.le_trans hb.size h.size, fun b hlt => (h.block b (Nat.lt_of_lt_of_le hlt (Nat.le_trans h0 hb.size)) (fun e => by omega)).trans (hb.block b hlt)⟩
/-- A row's block, if it has cells. -/
def bk (n : Nat) (v : Value) : Option Nat := if n = 0 then none else v.ownBlock
theorem bk_none (v : Value) : bk 0 v = none := if_pos rfl
theorem bk_some {n : Nat} (h : n ≠ 0) (v : Value) : bk n v = v.ownBlock := if_neg h
theorem bk_own {n : Nat} {v : Value} {g : Nat} (h : bk n v = some g) : v.ownBlock = some g := by
  unfold bk at h
  split at h
  · cases h
  · exact h
/-- A row's block, if it has cells, lies in a range. -/
def InL (lo hi : Nat) (n : Nat) (v : Value) : Prop := ∀ g, bk n v = some g → lo ≤ g ∧ g < hi
theorem HoldsT.bk_lt {w : World} {v : Value} {F : List ByteArray} (h : HoldsT w v F) (g : Nat) (hg : bk F.length v = some g) : g < w.heap.size := by
  rcases h with ⟨ad, cp, e, e0⟩ | ⟨g', cp, cur, e, q1, _⟩
  · rw [e0] at hg
    rw [List.length_nil, bk_none] at hg
    cases hg
  · have := bk_own hg
    rw [e] at this
    cases this
    exact (Array.getElem?_eq_some_iff.1 q1).1
theorem HoldsT.rgl {w w' : World} {v : Value} {F : List ByteArray} {lo hi a b : Nat} (h : HoldsT w v F) (hr : RgL lo hi w w') (hi' : InL a b F.length v) (hd : b ≤ lo ∨ hi ≤ a) : HoldsT w' v F := by
  rcases h with ⟨ad, cp, e, e0⟩ | ⟨g, cp, cur, e, q1, q2⟩
  · exact Or.inl ⟨ad, cp, e, e0⟩
  · by_cases hz : F.length = 0
    · have : F = [] := List.eq_nil_of_length_eq_zero hz
      subst this
      exact Or.inl ⟨_, _, e, rfl⟩
    · have hg := hi' g (by rw [bk_some hz, e]; rfl)
      exact Or.inr ⟨g, cp, cur, e, (hr.block g (Array.getElem?_eq_some_iff.1 q1).1 (fun e => by omega)).trans q1, q2⟩
/-- An end that the law made. -/
def ToL (p : Lp) (L : List ByteArray) (lo hi : Nat) (cl : List Value) (q : World) : Prop :=
  ∃ u1 z1, cl = (lpC p (.slice u1 L.length z1)).toList ∧ HoldsT q (.slice u1 L.length z1) L ∧ InL lo hi L.length (.slice u1 L.length z1)
theorem ToL.step {p : Lp} {L : List ByteArray} {lo hi : Nat} {cl : List Value} {q q' : World} (h : ToL p L lo hi cl q) (hb : Below q.heap.size q q') : ToL p L lo hi cl q' := by
  obtain ⟨u1, z1, h1, h2, f⟩ := h
  exact ⟨u1, z1, h1, h2.below hb rfl, f⟩
theorem ToL.len {p : Lp} {L : List ByteArray} {lo hi : Nat} {cl : List Value} {q : World} (h : ToL p L lo hi cl q) : cl.length = 6 := by
  obtain ⟨u1, z1, h1, _⟩ := h
  rw [h1]
  rfl
theorem ToL.one {p : Lp} {L : List ByteArray} {lo hi : Nat} {cl : List Value} {q : World} (h : ToL p L lo hi cl q) : cl.toArray.all (·.oneCell') = true := by
  obtain ⟨u1, z1, h1, _⟩ := h
  rw [h1]
  kernel_rfl
theorem toL (p : Lp) (x1 : Option Addr) (y1 : Nat) (L : List ByteArray) (w : World) (l1 : L.length ≤ 1048576) (h1 : ArgT w (.slice x1 L.length y1) L) :
    Calls Try.prog 15 #[.agg (lpC p (.slice x1 L.length y1))] w fun r w' => ∃ cl : List Value, r = .returned (.agg cl.toArray) ∧ ToL p L w.heap.size w'.heap.size cl w' ∧ Below w.heap.size w w' := by
  refine (toLp p x1 y1 L w l1 h1).mono ?_
  rintro r w' ⟨u1, z1, hr, k1, r1, hb⟩
  exact ⟨_, hr, ⟨u1, z1, rfl, k1, fun g hg => ⟨r1 g (bk_own hg), k1.bk_lt g hg⟩⟩, hb⟩
theorem eqL {p : Lp} {L : List ByteArray} (l1 : L.length ≤ 1048576) {a b c d : Nat} {cl cm : List Value} {W : World} (h : ToL p L a b cl W) (k : ToL p L c d cm W) : Calls Try.prog 10 #[.agg cl.toArray, .agg cm.toArray] W fun r w' => r = .returned (.bool true) ∧ Below W.heap.size W w' := by
  obtain ⟨u1, z1, rfl, h1, _⟩ := h
  obtain ⟨u3, z3, rfl, k1, _⟩ := k
  exact eqLp p u1 u3 z1 z3 L W (by omega) h1 k1
theorem markL {p : Lp} {L : List ByteArray} (l1 : L.length ≤ 1048576) {a b : Nat} {cl : List Value} {W : World} (h : ToL p L a b cl W) : Calls Try.prog 11 #[.agg cl.toArray, .int .i64 1] W fun r w' => (∃ k : Nat, r = .returned (.int .i64 (k : Int))) ∧ RgL a b W w' := by
  obtain ⟨u1, z1, rfl, h1, r1⟩ := h
  refine (markLp p u1 z1 L 1 W (by decide) (by omega) h1).mono ?_
  rintro r w' ⟨hr, _, hb, h0⟩
  refine ⟨⟨_, hr⟩, hb.os, hb.tape, hb.output, hb.size, fun g hg hn => ?_⟩
  by_cases hz : L.length = 0
  · exact (h0 (List.eq_nil_of_length_eq_zero hz)).block g hg
  · exact hb.block g hg (fun e => hn (r1 g (by rw [bk_some hz]; exact e)))
theorem infoLL : (Try.prog.info? 29).map (·.size) = some 6 := by kernel_rfl
def lpZ : Array Value := #[.int .i64 0, .int .i64 0, .int .i64 0, .int .i64 0, .slice none 0 0, .bool false]
theorem rangeRowL {W : World} {E : Nat} {cl : List Value} {T : TypeId} (h : W.heap[E]? = some (.cells cl.toArray T)) : W.rangeAt E 0 cl := by
  intro j u hu
  rw [cell_of_row _ _ _ _ _ _ h, Nat.zero_add, List.getElem?_toArray]
  exact hu
theorem below_rowL {B g : Nat} {w0 w : World} (hb : Below B w0 w) (h : B ≤ g) (cs : Array Value) : Below B w0 (w.setRow g cs) :=
  ⟨hb.os, hb.tape, hb.output, by unfold World.setRow; simpa using hb.size, fun b hlt => by
    have : (w.setRow g cs).heap[b]? = w.heap[b]? := setRow_other w g b cs (by omega)
    exact this.trans (hb.block b hlt)⟩
end Go.Proofs.Ytckebgalfomonaa
