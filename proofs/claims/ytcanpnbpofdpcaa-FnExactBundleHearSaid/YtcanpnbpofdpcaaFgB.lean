/- The bytes of a part: the program's walk and the model's; memory that was there stands. -/
import Derived.Test.YtcanpnbpofdpcaaFgFl
import Derived.Test.YtcanpnbpofdpcaaNum3
import Derived.Test.YtcanpnbpofdpcaaLies
namespace Go.Proofs.Ytcanpnbpofdpcaa
open Go.RowKit
/-- What FragBytes answers. -/
def fgTold (f : Fg) : ByteArray := if fgOk f = true then txt [fgByte f] ++ put3 f.seq.toNat ++ f.text else ⟨#[]⟩
theorem fgTold_no {f : Fg} (h : fgOk f = false) : fgTold f = ⟨#[]⟩ := by unfold fgTold; rw [if_neg (by rw [h]; decide)]
theorem fgTold_yes {f : Fg} (h : fgOk f = true) : fgTold f = txt [fgByte f] ++ put3 f.seq.toNat ++ f.text := by unfold fgTold; rw [if_pos h]
theorem row4g {w : World} {B : Nat} {x0 x1 x2 x3 : Value} {T : TypeId} (h : w.heap[B]? = some (.cells #[x0, x1, x2, x3] T)) :
    w.cell? ⟨B, 0, none⟩ = some x0 ∧ w.cell? ⟨B, 1, none⟩ = some x1 ∧ w.cell? ⟨B, 2, none⟩ = some x2 ∧ w.cell? ⟨B, 3, none⟩ = some x3 :=
  ⟨by rw [cell_of_row _ _ 0 _ _ (0, 0) h]; rfl, by rw [cell_of_row _ _ 1 _ _ (0, 0) h]; rfl, by rw [cell_of_row _ _ 2 _ _ (0, 0) h]; rfl, by rw [cell_of_row _ _ 3 _ _ (0, 0) h]; rfl⟩
theorem conv_at9 (c : UInt8) {w : World} {B : Nat} (h : w.heap[B]? = some (.cells #[.int .u8 c.toNat] 5)) : (convert 87 9 (.slice (some ⟨B, 0, none⟩) 1 1)).run Try.prog w = .ok (.string (txt [c])) w := by
  refine conv_lies (l := [c]) (cap := 1) ?_
  intro i hi
  simp at hi
  subst hi
  rw [cell_of_row _ _ 0 _ _ (0, 0) h]
  rfl
theorem frag_box {w w2 : World} {o : Obj} (hb2 : Below (w.alloc o).heap.size (w.alloc o) w2) : Hid (w2.heap[w.heap.size]? = some o ∧ Below w.heap.size w w2 ∧ w.heap.size < w2.heap.size) := by
  have hs0 : (w.alloc o).heap.size = w.heap.size + 1 := by simp
  have h1 : w2.heap[w.heap.size]? = some o := (hb2.block w.heap.size (by rw [hs0]; omega)).trans (heap_alloc_new w _)
  exact hide ⟨h1, ((Below.refl _ _).alloc (Nat.le_refl _) _).trans (hb2.mono (by rw [hs0]; omega)), (Array.getElem?_eq_some_iff.1 h1).1⟩
theorem und {B : Nat} {a b : World} (h : Below B a.drew b) : Below B a b := ⟨h.os, h.tape, h.output, h.size, h.block⟩
theorem frag_put {w w2 w4 : World} {o : Obj} (h : w2.heap[w.heap.size]? = some o ∧ Below w.heap.size w w2 ∧ w.heap.size < w2.heap.size) (hb4 : Below w2.heap.size w2 w4) : w4.heap[w.heap.size]? = some o ∧ Hid (Below w.heap.size w w4) :=
  ⟨(hb4.block w.heap.size h.2.2).trans h.1, hide (h.2.1.trans (hb4.mono h.2.1.size))⟩
theorem frag_put3 {w w2 w4 : World} {o : Obj} (h : w2.heap[w.heap.size]? = some o ∧ Below w.heap.size w w2 ∧ w.heap.size < w2.heap.size) (hb4 : Below w2.heap.size w2 w4) : Hid (w4.heap[w.heap.size]? = some o ∧ Below w.heap.size w w4 ∧ w.heap.size < w4.heap.size) :=
  hide ⟨(frag_put h hb4).1, unhide (frag_put h hb4).2, Nat.lt_of_lt_of_le h.2.2 hb4.size⟩
theorem frag_put2 {w w2 w4 : World} {o o' : Obj} (h : w2.heap[w.heap.size]? = some o ∧ Below w.heap.size w w2 ∧ w.heap.size < w2.heap.size) (hb4 : Below (w2.alloc o').heap.size (w2.alloc o') w4) : w4.heap[w.heap.size]? = some o ∧ Hid (Below w.heap.size w w4) :=
  ⟨(hb4.block w.heap.size (by have := h.2.2; simp; omega)).trans ((Below.heap_alloc _ _ _ h.2.2).trans h.1), hide ((h.2.1.alloc h.2.1.size _).trans (hb4.mono (by have := h.2.1.size; simp; omega)))⟩
end Go.Proofs.Ytcanpnbpofdpcaa
