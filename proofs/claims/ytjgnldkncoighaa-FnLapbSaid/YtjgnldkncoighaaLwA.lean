/- A numbered line's end at work, laid in memory: its cells, its map, its rows; no condition but those named. -/
import Derived.Test.YtjgnldkncoighaaLwM
import Derived.Test.YtjgnldkncoighaaNbC
import Derived.Test.YtjgnldkncoighaaLpN
import Derived.Deep.DeepCutAuto
namespace Go.Proofs.Ytjgnldkncoighaa
open Go.RowKit
/-- A row of texts that the call made, at whatever place of its block: it holds these. -/
def HoldsQ (w : World) (base : Nat) (v : Value) (L : List ByteArray) : Prop :=
  (v = .slice none 0 0 ∧ L = []) ∨ ∃ g o cp cur, v = .slice (some ⟨g, o, none⟩) L.length cp ∧ w.heap[g]? = some (.cells cur 9) ∧ base ≤ g ∧ L.length ≤ cp ∧ o + cp ≤ cur.size ∧ ∀ j (hj : j < L.length), cur[o + j]? = some (.string L[j])
theorem HoldsQ.form {w : World} {base : Nat} {v : Value} {L : List ByteArray} (h : HoldsQ w base v L) : ∃ ad cp, v = .slice ad L.length cp := by
  rcases h with ⟨h1, h2⟩ | ⟨g, o, cp, cur, h1, _⟩
  · exact ⟨_, _, by rw [h1, h2]; rfl⟩
  · exact ⟨_, _, h1⟩
theorem HoldsQ.own {w : World} {base : Nat} {v : Value} {L : List ByteArray} (h : w.ownsRow base 9 1 v L.length (scells L)) : HoldsQ w base v L := by
  rcases h.2 with ⟨h1, h2⟩ | ⟨g, cap, cur, h1, h2, h3, h4, h5, h6, h7⟩
  · exact Or.inl ⟨h1, List.eq_nil_of_length_eq_zero h2⟩
  · refine Or.inr ⟨g, 0, cap, cur, h1, h3, h2, by omega, by omega, fun j hj => ?_⟩
    have e : (cur.toList.take (L.length * 1))[j]? = (scells L)[j]? := by rw [h7]
    rw [List.getElem?_take, if_pos (by omega), Array.getElem?_toList] at e
    rw [Nat.zero_add, e]
    exact scells_get L j _ (List.getElem?_eq_getElem hj)
theorem HoldsQ.other {w w' : World} {base : Nat} {v : Value} {L : List ByteArray} (h : HoldsQ w base v L) (hw : ∀ g cur, v.ownBlock = some g → w.heap[g]? = some (.cells cur 9) → w'.heap[g]? = w.heap[g]?) : HoldsQ w' base v L := by
  rcases h with ⟨h1, h2⟩ | ⟨g, o, cp, cur, h1, h2, h3⟩
  · exact Or.inl ⟨h1, h2⟩
  · exact Or.inr ⟨g, o, cp, cur, h1, (hw g cur (by rw [h1]; rfl) h2).trans h2, h3⟩
theorem HoldsQ.below {w w' : World} {base : Nat} {v : Value} {L : List ByteArray} (h : HoldsQ w base v L) (hb : Below w.heap.size w w') : HoldsQ w' base v L :=
  h.other fun g _ _ h2 => hb.block g (Array.getElem?_eq_some_iff.1 h2).1
/-- The first of a row that has one, and the rest. -/
theorem HoldsQ.first {w : World} {base : Nat} {v : Value} {t : ByteArray} {L : List ByteArray} (h : HoldsQ w base v (t :: L)) : ∃ g o cp, v = .slice (some ⟨g, o, none⟩) (L.length + 1) cp ∧ w.cell? ⟨g, o, none⟩ = some (.string t) ∧ L.length + 1 ≤ cp ∧ (L.length = 0 → cp = 1 → HoldsQ w base (.slice (some ⟨g, o, none⟩) L.length 0) L) ∧ HoldsQ w base (.slice (some ⟨g, o + 1, none⟩) L.length (cp - 1)) L := by
  rcases h with ⟨h1, h2⟩ | ⟨g, o, cp, cur, h1, h2, h3, h4, h5, h6⟩
  · cases h2
  · rw [List.length_cons] at h4
    refine ⟨g, o, cp, h1, ?_, h4, fun e0 e1 => ?_, Or.inr ⟨g, o + 1, cp - 1, cur, rfl, h2, h3, by omega, by omega, fun j hj => ?_⟩⟩
    · have := h6 0 (by simp)
      rw [cell_of_row _ _ _ _ _ _ h2]
      exact this
    · have e2 := List.eq_nil_of_length_eq_zero e0
      subst e2
      exact Or.inr ⟨g, o, 0, cur, rfl, h2, h3, Nat.le_refl _, by omega, fun j hj => absurd hj (Nat.not_lt_zero _)⟩
    · have := h6 (j + 1) (by simp; omega)
      rw [show o + 1 + j = o + (j + 1) by omega, this]
      simp
def lwC (p : Lp) (M : Nat) (vq vf vg : Value) : Array Value := #[.int .i64 p.wi, .int .i64 p.vs, .int .i64 p.va, .int .i64 p.vr, vq, .bool p.ak, .map (some M), vf, vg]
/-- An end at work, laid in memory: S was sent, Q waits, F goes out, G was got. -/
structure Lw (w0 : World) (B M : Nat) (p : Lp) (S Q : List ByteArray) (F : List Nb) (G : List ByteArray) (vq vf vg : Value) (q : World) : Prop where
  row : q.heap[B]? = some (.cells (lwC p M vq vf vg) 59)
  mp : MapH q M p.va S
  hq : HoldsQ q w0.heap.size vq Q
  of : q.ownsRow w0.heap.size 30 4 vf F.length (nbcells F)
  og : q.ownsRow w0.heap.size 9 1 vg G.length (scells G)
  bB : w0.heap.size ≤ B
  bM : w0.heap.size ≤ M
  lo : Below w0.heap.size w0 q
theorem own_at {w w' : World} {base : Nat} {e : TypeId} {size : Nat} {v : Value} {n : Nat} {xs : List Value} (h : w.ownsRow base e size v n xs) (hb : ∀ g cur, v.ownBlock = some g → w.heap[g]? = some (.cells cur e) → w'.heap[g]? = w.heap[g]?) : w'.ownsRow base e size v n xs :=
  ⟨h.1, h.2.imp id fun ⟨g, cap, cur, h1, h2, h3, h4⟩ => ⟨g, cap, cur, h1, h2, (hb g cur (by rw [h1]; rfl) h3).trans h3, h4⟩⟩
theorem row9l {w : World} {B : Nat} {x0 x1 x2 x3 x4 x5 x6 x7 x8 : Value} {T : TypeId} (h : w.heap[B]? = some (.cells #[x0, x1, x2, x3, x4, x5, x6, x7, x8] T)) :
    w.cell? ⟨B, 0, none⟩ = some x0 ∧ w.cell? ⟨B, 1, none⟩ = some x1 ∧ w.cell? ⟨B, 2, none⟩ = some x2 ∧ w.cell? ⟨B, 3, none⟩ = some x3 ∧ w.cell? ⟨B, 4, none⟩ = some x4 ∧ w.cell? ⟨B, 5, none⟩ = some x5 ∧ w.cell? ⟨B, 6, none⟩ = some x6 ∧ w.cell? ⟨B, 7, none⟩ = some x7 ∧ w.cell? ⟨B, 8, none⟩ = some x8 :=
  ⟨by rw [cell_of_row _ _ 0 _ _ (0, 0) h]; rfl, by rw [cell_of_row _ _ 1 _ _ (0, 0) h]; rfl, by rw [cell_of_row _ _ 2 _ _ (0, 0) h]; rfl, by rw [cell_of_row _ _ 3 _ _ (0, 0) h]; rfl, by rw [cell_of_row _ _ 4 _ _ (0, 0) h]; rfl, by rw [cell_of_row _ _ 5 _ _ (0, 0) h]; rfl, by rw [cell_of_row _ _ 6 _ _ (0, 0) h]; rfl, by rw [cell_of_row _ _ 7 _ _ (0, 0) h]; rfl, by rw [cell_of_row _ _ 8 _ _ (0, 0) h]; rfl⟩
section
variable {w0 : World} {B M : Nat} {p : Lp} {S Q : List ByteArray} {F : List Nb} {G : List ByteArray} {vq vf vg : Value} {q q' : World}
/-- Where all but the end's own block stands, map and rows stand. -/
theorem Lw.frB (h : Lw w0 B M p S Q F G vq vf vg q) (hk : ∀ k, k ≠ B → q'.heap[k]? = q.heap[k]?) : MapH q' M p.va S ∧ HoldsQ q' w0.heap.size vq Q ∧ q'.ownsRow w0.heap.size 30 4 vf F.length (nbcells F) ∧ q'.ownsRow w0.heap.size 9 1 vg G.length (scells G) := by
  have nM : M ≠ B := fun e => by
    obtain ⟨es, c, h1, _⟩ := h.mp
    rw [e, h.row] at h1
    cases h1
  have nT : ∀ g cur T, T ≠ 59 → q.heap[g]? = some (.cells cur T) → g ≠ B := fun g cur T hT h1 e => by
    rw [e, h.row] at h1
    cases h1
    exact hT rfl
  exact ⟨h.mp.other (hk M nM), h.hq.other fun g cur _ h2 => hk g (nT g cur _ (by decide) h2), own_at h.of fun g cur _ h2 => hk g (nT g cur _ (by decide) h2), own_at h.og fun g cur _ h2 => hk g (nT g cur _ (by decide) h2)⟩
/-- Where all but the map's block stands, the cells and rows stand. -/
theorem Lw.frM (h : Lw w0 B M p S Q F G vq vf vg q) (hk : ∀ k, k ≠ M → q'.heap[k]? = q.heap[k]?) : q'.heap[B]? = some (.cells (lwC p M vq vf vg) 59) ∧ HoldsQ q' w0.heap.size vq Q ∧ q'.ownsRow w0.heap.size 30 4 vf F.length (nbcells F) ∧ q'.ownsRow w0.heap.size 9 1 vg G.length (scells G) := by
  have nT : ∀ g cur T, q.heap[g]? = some (.cells cur T) → g ≠ M := fun g cur T h1 e => by
    obtain ⟨es, c, h2, _⟩ := h.mp
    rw [e, h2] at h1
    cases h1
  exact ⟨(hk B (nT B _ _ h.row)).trans h.row, h.hq.other fun g cur _ h2 => hk g (nT g cur _ h2), own_at h.of fun g cur _ h2 => hk g (nT g cur _ h2), own_at h.og fun g cur _ h2 => hk g (nT g cur _ h2)⟩
theorem Lw.step (h : Lw w0 B M p S Q F G vq vf vg q) (hb : Below q.heap.size q q') : Lw w0 B M p S Q F G vq vf vg q' :=
  ⟨(hb.block B (Array.getElem?_eq_some_iff.1 h.row).1).trans h.row, h.mp.other (hb.block M h.mp.lt), h.hq.below hb, own_at h.of fun g _ _ h2 => hb.block g (Array.getElem?_eq_some_iff.1 h2).1, own_at h.og fun g _ _ h2 => hb.block g (Array.getElem?_eq_some_iff.1 h2).1, h.bB, h.bM, h.lo.trans (hb.mono h.lo.size)⟩
/-- A cell of the end set. -/
theorem Lw.set (h : Lw w0 B M p S Q F G vq vf vg q) {i : Nat} {x : Value} {p' : Lp} {vq' vf' vg' : Value} {Q' : List ByteArray} {F' : List Nb} {G' : List ByteArray} (hc : (lwC p M vq vf vg).setIfInBounds i x = lwC p' M vq' vf' vg') (hp : p'.va = p.va)
    (h1 : HoldsQ q w0.heap.size vq Q → HoldsQ (q.setCell ⟨B, i, none⟩ x) w0.heap.size vq Q → HoldsQ (q.setCell ⟨B, i, none⟩ x) w0.heap.size vq' Q')
    (h2 : (q.setCell ⟨B, i, none⟩ x).ownsRow w0.heap.size 30 4 vf F.length (nbcells F) → (q.setCell ⟨B, i, none⟩ x).ownsRow w0.heap.size 30 4 vf' F'.length (nbcells F'))
    (h3 : (q.setCell ⟨B, i, none⟩ x).ownsRow w0.heap.size 9 1 vg G.length (scells G) → (q.setCell ⟨B, i, none⟩ x).ownsRow w0.heap.size 9 1 vg' G'.length (scells G')) :
    Lw w0 B M p' S Q' F' G' vq' vf' vg' (q.setCell ⟨B, i, none⟩ x) := by
  have hk : ∀ k, k ≠ B → (q.setCell ⟨B, i, none⟩ x).heap[k]? = q.heap[k]? := fun k hk => heap_setCell_other q _ _ _ hk
  obtain ⟨k1, k2, k3, k4⟩ := h.frB hk
  exact ⟨by rw [heap_setCell_same _ _ i _ _ _ h.row, hc], by rw [hp]; exact k1, h1 h.hq k2, h2 k3, h3 k4, h.bB, h.bM, h.lo.setCell (p := ⟨B, i, none⟩) h.bB _⟩
/-- The same, and only numbers change. -/
theorem Lw.setP (h : Lw w0 B M p S Q F G vq vf vg q) {i : Nat} {x : Value} {p' : Lp} (hc : (lwC p M vq vf vg).setIfInBounds i x = lwC p' M vq vf vg) (hp : p'.va = p.va) : Lw w0 B M p' S Q F G vq vf vg (q.setCell ⟨B, i, none⟩ x) :=
  h.set hc hp (fun _ k => k) (fun k => k) (fun k => k)
theorem Lw.putM (h : Lw w0 B M p S Q F G vq vf vg q) {o : Obj} {S' : List ByteArray} (hm : MapH (putB q M o) M p.va S') : Lw w0 B M p S' Q F G vq vf vg (putB q M o) := by
  obtain ⟨k1, k2, k3, k4⟩ := h.frM (q' := putB q M o) (fun k hk => putB_other _ _ _ _ hk)
  exact ⟨k1, hm, k2, k3, k4, h.bB, h.bM, putB_below h.lo h.bM _⟩
theorem Lw.drew (h : Lw w0 B M p S Q F G vq vf vg q) : Lw w0 B M p S Q F G vq vf vg q.drew := h.step (Below.refl _ _).drew
end
end Go.Proofs.Ytjgnldkncoighaa
