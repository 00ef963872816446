/- The model's Reply; what lay in memory stands, and the answer's row is its own. -/
import Derived.Test.YtkadbghglmlpkaaSpecOne
import Derived.Test.YtkadbghglmlpkaaRepFin
import Derived.Test.YtkadbghglmlpkaaOptAp2
import Derived.Test.YtkadbghglmlpkaaOptSp
namespace Go.Proofs.Ytkadbghglmlpkaa
open Go.RowKit
/-- What stands while the model puts its answers together. -/
structure RpS (w : World) (N : Nat) (C : Array Value) (vn vr : Value) (Fn Fr : List Op.Opt) (q : World) : Prop where
  c : q.heap[w.heap.size]? = some (.cells C 26)
  r : q.heap[w.heap.size + 1]? = some (.cells #[.int .i64 0, .slice none 0 0] 34)
  n : q.heap[N]? = some (.cells #[.int .i64 3, vn] 34)
  j : q.heap[N + 1]? = some (.cells #[.int .i64 4, vr] 34)
  b : Below w.heap.size w q
  on : q.ownsRow (N + 1 + 1) 54 2 vn Fn.length (ocells Fn)
  oj : q.ownsRow (N + 1 + 1) 54 2 vr Fr.length (ocells Fr)
  dj : ∀ g, vn.ownBlock = some g → vr.ownBlock ≠ some g
  lt : w.heap.size + 1 < N
theorem RpS.size {w : World} {N : Nat} {C : Array Value} {vn vr : Value} {Fn Fr : List Op.Opt} {q : World} (h : RpS w N C vn vr Fn Fr q) : N + 1 < q.heap.size := (Array.getElem?_eq_some_iff.1 h.j).1
theorem RpS.step {w : World} {N : Nat} {C : Array Value} {vn vr : Value} {Fn Fr : List Op.Opt} {q q' : World} (h : RpS w N C vn vr Fn Fr q) (hb : Below q.heap.size q q') : RpS w N C vn vr Fn Fr q' := by
  have hs := h.size
  have hl := h.lt
  exact ⟨(hb.block _ (by omega)).trans h.c, (hb.block _ (by omega)).trans h.r, (hb.block _ (by omega)).trans h.n, (hb.block _ hs).trans h.j, h.b.trans (hb.mono h.b.size), own_blk h.on fun g hg => hb.block g (World.ownsRow.lt h.on g hg).2, own_blk h.oj fun g hg => hb.block g (World.ownsRow.lt h.oj g hg).2, h.dj, hl⟩
theorem RpS.drew {w : World} {N : Nat} {C : Array Value} {vn vr : Value} {Fn Fr : List Op.Opt} {q : World} (h : RpS w N C vn vr Fn Fr q) : RpS w N C vn vr Fn Fr q.drew :=
  h.step ⟨rfl, rfl, rfl, Nat.le_refl _, fun _ _ => rfl⟩
theorem RpS.drewN {w : World} {N : Nat} {C : Array Value} {vn vr : Value} {Fn Fr : List Op.Opt} {q : World} (h : RpS w N C vn vr Fn Fr q) (k : Nat) : RpS w N C vn vr Fn Fr (q.drewN k) :=
  h.step ⟨rfl, rfl, rfl, Nat.le_refl _, fun _ _ => rfl⟩
/-- A cell of a block of none of these is written. -/
theorem RpS.putX {w : World} {N : Nat} {C : Array Value} {vn vr : Value} {Fn Fr : List Op.Opt} {q : World} (h : RpS w N C vn vr Fn Fr q) (X i : Nat) (x : Value) (hX : N + 1 < X) (h1 : ∀ g, vn.ownBlock = some g → g ≠ X) (h2 : ∀ g, vr.ownBlock = some g → g ≠ X) : RpS w N C vn vr Fn Fr (q.setCell ⟨X, i, none⟩ x) := by
  have hl := h.lt
  refine ⟨?_, ?_, ?_, ?_, h.b.setCell (p := ⟨X, i, none⟩) (by simp; omega) _, own_blk h.on fun g hg => Below.heap_setCell _ _ _ _ (h1 g hg), own_blk h.oj fun g hg => Below.heap_setCell _ _ _ _ (h2 g hg), h.dj, hl⟩
  · rw [Below.heap_setCell _ _ _ _ (by simp; omega)]; exact h.c
  · rw [Below.heap_setCell _ _ _ _ (by simp; omega)]; exact h.r
  · rw [Below.heap_setCell _ _ _ _ (by simp; omega)]; exact h.n
  · rw [Below.heap_setCell _ _ _ _ (by simp; omega)]; exact h.j
/-- An option more in the first row. -/
theorem RpS.appN {w : World} {N : Nat} {C : Array Value} {vn vr v' : Value} {Fn Fr : List Op.Opt} {q w6 : World} {kd : Int} {dt : ByteArray} (h : RpS w N C vn vr Fn Fr q) (ho : w6.ownsRow (N + 1 + 1) 54 2 v' (Fn.length + 1) (ocells (Fn ++ [⟨kd, dt⟩])))
    (hg : (q.alloc (.cells #[.int .i64 kd, .string dt] 54)).grownBy w6 vn.ownBlock) (hat : v'.ownBlock = vn.ownBlock ∨ v'.ownBlock = some (q.heap.size + 1)) : RpS w N C v' vr (Fn ++ [⟨kd, dt⟩]) Fr (w6.setCell ⟨N, 1, none⟩ v') := by
  have hs := h.size
  have hl := h.lt
  have blk : ∀ g, g < q.heap.size → vn.ownBlock ≠ some g → w6.heap[g]? = q.heap[g]? := fun g hgl hne => (hg.block g (by simp; omega) (fun e => hne e.symm)).trans (Below.heap_alloc _ _ _ hgl)
  have nb : ∀ g, g ≤ N + 1 → vn.ownBlock ≠ some g := fun g hgl e => by have := (World.ownsRow.lt h.on g e).1; omega
  have hN := (blk N (by omega) (nb N (by omega))).trans h.n
  have hB : Below w.heap.size w w6 := h.b.trans ⟨hg.os.trans rfl, hg.tape.trans rfl, hg.output.trans rfl, Nat.le_trans (by simp) hg.size, fun g hgl => blk g (by omega) (nb g (by omega))⟩
  refine ⟨?_, ?_, heap_setCell_same _ _ 1 _ _ _ hN, ?_, hB.setCell (p := ⟨N, 1, none⟩) (by simp; omega) _, ?_, ?_, ?_, hl⟩
  · rw [Below.heap_setCell _ _ _ _ (by simp; omega)]; exact (blk _ (by omega) (nb _ (by omega))).trans h.c
  · rw [Below.heap_setCell _ _ _ _ (by simp; omega)]; exact (blk _ (by omega) (nb _ (by omega))).trans h.r
  · rw [Below.heap_setCell _ _ _ _ (by simp)]; exact (blk _ hs (nb _ (by omega))).trans h.j
  · have := own_blk (w' := w6.setCell ⟨N, 1, none⟩ v') ho fun g hgo => Below.heap_setCell _ _ _ _ (by have := (World.ownsRow.lt ho g hgo).1; simp; omega)
    rw [List.length_append]
    exact this
  · refine own_blk (w := q) h.oj fun g hgo => ?_
    have h2 := World.ownsRow.lt h.oj g hgo
    rw [Below.heap_setCell _ _ _ _ (by simp; omega)]
    exact blk g h2.2 fun e => h.dj g e hgo
  · intro g e1 e2
    have h2 := World.ownsRow.lt h.oj g e2
    rcases hat with e | e
    · exact h.dj g (e ▸ e1) e2
    · rw [e] at e1
      cases e1
      omega
/-- An option more in the second row. -/
theorem RpS.appR {w : World} {N : Nat} {C : Array Value} {vn vr v' : Value} {Fn Fr : List Op.Opt} {q w6 : World} {kd : Int} {dt : ByteArray} (h : RpS w N C vn vr Fn Fr q) (ho : w6.ownsRow (N + 1 + 1) 54 2 v' (Fr.length + 1) (ocells (Fr ++ [⟨kd, dt⟩])))
    (hg : (q.alloc (.cells #[.int .i64 kd, .string dt] 54)).grownBy w6 vr.ownBlock) (hat : v'.ownBlock = vr.ownBlock ∨ v'.ownBlock = some (q.heap.size + 1)) : RpS w N C vn v' Fn (Fr ++ [⟨kd, dt⟩]) (w6.setCell ⟨N + 1, 1, none⟩ v') := by
  have hs := h.size
  have hl := h.lt
  have blk : ∀ g, g < q.heap.size → vr.ownBlock ≠ some g → w6.heap[g]? = q.heap[g]? := fun g hgl hne => (hg.block g (by simp; omega) (fun e => hne e.symm)).trans (Below.heap_alloc _ _ _ hgl)
  have nb : ∀ g, g ≤ N + 1 → vr.ownBlock ≠ some g := fun g hgl e => by have := (World.ownsRow.lt h.oj g e).1; omega
  have hN := (blk (N + 1) (by omega) (nb (N + 1) (by omega))).trans h.j
  have hB : Below w.heap.size w w6 := h.b.trans ⟨hg.os.trans rfl, hg.tape.trans rfl, hg.output.trans rfl, Nat.le_trans (by simp) hg.size, fun g hgl => blk g (by omega) (nb g (by omega))⟩
  refine ⟨?_, ?_, ?_, heap_setCell_same _ _ 1 _ _ _ hN, hB.setCell (p := ⟨N + 1, 1, none⟩) (by simp; omega) _, ?_, ?_, ?_, hl⟩
  · rw [Below.heap_setCell _ _ _ _ (by simp; omega)]; exact (blk _ (by omega) (nb _ (by omega))).trans h.c
  · rw [Below.heap_setCell _ _ _ _ (by simp; omega)]; exact (blk _ (by omega) (nb _ (by omega))).trans h.r
  · rw [Below.heap_setCell _ _ _ _ (by simp)]; exact (blk _ (by omega) (nb _ (by omega))).trans h.n
  · refine own_blk (w := q) h.on fun g hgo => ?_
    have h2 := World.ownsRow.lt h.on g hgo
    rw [Below.heap_setCell _ _ _ _ (by simp; omega)]
    exact blk g h2.2 fun e => h.dj g hgo e
  · have := own_blk (w' := w6.setCell ⟨N + 1, 1, none⟩ v') ho fun g hgo => Below.heap_setCell _ _ _ _ (by have := (World.ownsRow.lt ho g hgo).1; simp; omega)
    rw [List.length_append]
    exact this
  · intro g e1 e2
    have h2 := World.ownsRow.lt h.on g e1
    rcases hat with e | e
    · exact h.dj g e1 (e ▸ e2)
    · rw [e] at e2
      cases e2
      omega
/-- What stands, and an option in a place of its own. -/
structure RpX (w : World) (N : Nat) (C : Array Value) (vn vr : Value) (Fn Fr : List Op.Opt) (kd : Int) (t : ByteArray) (X : Nat) (q : World) : Prop where
  s : RpS w N C vn vr Fn Fr q
  x : q.heap[X]? = some (.cells #[.int .i64 kd, .string t] 54)
  l : N + 1 < X
  n1 : ∀ g, vn.ownBlock = some g → g ≠ X
  n2 : ∀ g, vr.ownBlock = some g → g ≠ X
theorem RpX.step {w : World} {N : Nat} {C : Array Value} {vn vr : Value} {Fn Fr : List Op.Opt} {kd : Int} {t : ByteArray} {X : Nat} {q q' : World} (h : RpX w N C vn vr Fn Fr kd t X q) (hb : Below q.heap.size q q') : RpX w N C vn vr Fn Fr kd t X q' :=
  ⟨h.s.step hb, (hb.block _ (Array.getElem?_eq_some_iff.1 h.x).1).trans h.x, h.l, h.n1, h.n2⟩
theorem RpX.drewN {w : World} {N : Nat} {C : Array Value} {vn vr : Value} {Fn Fr : List Op.Opt} {kd : Int} {t : ByteArray} {X : Nat} {q : World} (h : RpX w N C vn vr Fn Fr kd t X q) (k : Nat) : RpX w N C vn vr Fn Fr kd t X (q.drewN k) :=
  h.step ⟨rfl, rfl, rfl, Nat.le_refl _, fun _ _ => rfl⟩
theorem RpX.new1 {w : World} {N : Nat} {C : Array Value} {vn vr : Value} {Fn Fr : List Op.Opt} {q q' : World} (h : RpS w N C vn vr Fn Fr q) (hb : Below q.heap.size q q') (kd : Int) (t : ByteArray) :
    RpX w N C vn vr Fn Fr kd t q'.heap.size (q'.alloc (.cells #[.int .i64 kd, .string t] 54)) := by
  have hs := h.size
  have h2 := hb.size
  refine ⟨(h.step hb).step ((Below.refl _ _).alloc (Nat.le_refl _) _), heap_alloc_new q' _, by omega, fun g hg => ?_, fun g hg => ?_⟩
  · have := (World.ownsRow.lt h.on g hg).2; omega
  · have := (World.ownsRow.lt h.oj g hg).2; omega
theorem RpX.put {w : World} {N : Nat} {C : Array Value} {vn vr : Value} {Fn Fr : List Op.Opt} {kd : Int} {t : ByteArray} {X : Nat} {q : World} (h : RpX w N C vn vr Fn Fr kd t X q) (kd' : Int) (t' : ByteArray) :
    RpX w N C vn vr Fn Fr kd' t' X ((q.setCell ⟨X, 0, none⟩ (.int .i64 kd')).setCell ⟨X, 1, none⟩ (.string t')) :=
  ⟨(h.s.putX X 0 _ h.l h.n1 h.n2).putX X 1 _ h.l h.n1 h.n2, set2_at h.x _ _, h.l, h.n1, h.n2⟩
theorem RpX.new2 {w : World} {N : Nat} {C : Array Value} {vn vr : Value} {Fn Fr : List Op.Opt} {q q' : World} (h : RpS w N C vn vr Fn Fr q) (k0 : Int) (t0 : ByteArray) (hb : Below (q.alloc (.cells #[.int .i64 k0, .string t0] 54)).heap.size (q.alloc (.cells #[.int .i64 k0, .string t0] 54)) q') (kd : Int) (t : ByteArray) :
    RpX w N C vn vr Fn Fr kd t q.heap.size ((q'.setCell ⟨q.heap.size, 0, none⟩ (.int .i64 kd)).setCell ⟨q.heap.size, 1, none⟩ (.string t)) :=
  ((RpX.new1 h (Below.refl _ _) k0 t0).step hb).put kd t
end Go.Proofs.Ytkadbghglmlpkaa
