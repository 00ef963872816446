/- Words of memory: all stands but for one block; a row that the call made stands where its block does; no condition. -/
import Derived.Test.YtfkeokfmancgiaaInts
import Derived.Deep.RegionHeld
namespace Go.Proofs.Ytfkeokfmancgiaa
open Go.RowKit
/-- All stands but for one block. -/
structure Nr (B : Nat) (w w' : World) : Prop where
  os : w'.os = w.os
  tape : w'.tape = w.tape
  output : w'.output = w.output
  size : w.heap.size ≤ w'.heap.size
  block : ∀ k, k < w.heap.size → k ≠ B → w'.heap[k]? = w.heap[k]?
theorem Nr.refl (B : Nat) (w : World) : Nr B w w := ⟨rfl, rfl, rfl, Nat.le_refl _, fun _ _ _ => rfl⟩
theorem Nr.trans {B : Nat} {a b c : World} (h : Nr B a b) (k : Nr B b c) : Nr B a c :=
  ⟨k.os.trans h.os, k.tape.trans h.tape, k.output.trans h.output, Nat.le_trans h.size k.size, fun i hi hn => (k.block i (Nat.lt_of_lt_of_le hi h.size) hn).trans (h.block i hi hn)⟩
theorem Nr.drew {B : Nat} {a w : World} (h : Nr B a w) : Nr B a w.drew := ⟨h.os, h.tape, h.output, h.size, h.block⟩
theorem Nr.drewN {B : Nat} {a w : World} (h : Nr B a w) (k : Nat) : Nr B a (w.drewN k) := ⟨h.os, h.tape, h.output, h.size, h.block⟩
theorem Nr.setCell {B : Nat} {a w : World} (h : Nr B a w) (o : Nat) (v : Value) : Nr B a (w.setCell ⟨B, o, none⟩ v) := by
  have hb := (Below.refl 0 w).setCell (p := ⟨B, o, none⟩) (Nat.zero_le _) v
  exact ⟨hb.os.trans h.os, hb.tape.trans h.tape, hb.output.trans h.output, Nat.le_trans h.size hb.size, fun k hk hn => (Below.heap_setCell w ⟨B, o, none⟩ v k hn).trans (h.block k hk hn)⟩
theorem Nr.of_below {B : Nat} {a w w' : World} (h : Nr B a w) (hb : Below w.heap.size w w') : Nr B a w' :=
  h.trans ⟨hb.os, hb.tape, hb.output, hb.size, fun k hk _ => hb.block k hk⟩
theorem Nr.alloc {B : Nat} {a w : World} (h : Nr B a w) (o : Obj) : Nr B a (w.alloc o) := h.of_below ((Below.refl _ _).alloc (Nat.le_refl _) _)
theorem Nr.below {B n : Nat} {w w' : World} (h : Nr B w w') (hn : n ≤ B) (hw : n ≤ w.heap.size) : Below n w w' :=
  ⟨h.os, h.tape, h.output, h.size, fun k hk => h.block k (by omega) (by omega)⟩
theorem own_same {w w' : World} {base : Nat} {e : TypeId} {size : Nat} {v : Value} {n : Nat} {xs : List Value} (h : w.ownsRow base e size v n xs) (hb : ∀ g, base ≤ g → g < w.heap.size → w'.heap[g]? = w.heap[g]?) : w'.ownsRow base e size v n xs :=
  ⟨h.1, h.2.imp id fun ⟨g, cap, cur, h1, h2, h3, h4⟩ => ⟨g, cap, cur, h1, h2, (hb g h2 (Array.getElem?_eq_some_iff.1 h3).1).trans h3, h4⟩⟩
/-- All stands but for one row. -/
structure But (o : Option Nat) (w w' : World) : Prop where
  os : w'.os = w.os
  tape : w'.tape = w.tape
  output : w'.output = w.output
  size : w.heap.size ≤ w'.heap.size
  block : ∀ b, b < w.heap.size → o ≠ some b → w'.heap[b]? = w.heap[b]?
theorem But.of_below {o : Option Nat} {w w' : World} (h : Below w.heap.size w w') : But o w w' := ⟨h.os, h.tape, h.output, h.size, fun b hb _ => h.block b hb⟩
end Go.Proofs.Ytfkeokfmancgiaa
