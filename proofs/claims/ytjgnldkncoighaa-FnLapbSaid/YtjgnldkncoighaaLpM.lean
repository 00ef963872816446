/- The model's copy of an end, and its LapbAgain; what lay in memory stands. -/
import Derived.Test.YtjgnldkncoighaaLwP
import Derived.Test.YtjgnldkncoighaaLpS
namespace Go.Proofs.Ytjgnldkncoighaa
open Go.RowKit
/-- A row's block has room for its capacity. -/
def RoomS (w : World) (v : Value) : Prop :=
  v = .slice none 0 0 ∨ ∃ g o n cp cur, v = .slice (some ⟨g, o, none⟩) n cp ∧ w.heap[g]? = some (.cells cur 9) ∧ n ≤ cp ∧ o + cp ≤ cur.size
/-- A row of texts at any offset, with its room. -/
def HoldsR (w : World) (v : Value) (L : List ByteArray) : Prop := HoldsS w v L ∧ RoomS w v
theorem RoomS.other {w w' : World} {v : Value} (h : RoomS w v) (hw : ∀ g cur, v.ownBlock = some g → w.heap[g]? = some (.cells cur 9) → w'.heap[g]? = w.heap[g]?) : RoomS w' v := by
  rcases h with h | ⟨g, o, n, cp, cur, h1, h2, h3⟩
  · exact Or.inl h
  · exact Or.inr ⟨g, o, n, cp, cur, h1, (hw g cur (by rw [h1]; rfl) h2).trans h2, h3⟩
theorem HoldsR.other {w w' : World} {v : Value} {L : List ByteArray} (h : HoldsR w v L) (hw : ∀ g cur, v.ownBlock = some g → w.heap[g]? = some (.cells cur 9) → w'.heap[g]? = w.heap[g]?) : HoldsR w' v L := ⟨h.1.other hw, h.2.other hw⟩
theorem HoldsR.below {w w' : World} {v : Value} {L : List ByteArray} (h : HoldsR w v L) (hb : Below w.heap.size w w') : HoldsR w' v L :=
  h.other fun g _ _ e => hb.block g (Array.getElem?_eq_some_iff.1 e).1
theorem HoldsR.form {w : World} {v : Value} {L : List ByteArray} (h : HoldsR w v L) : ∃ ad cp, v = .slice ad L.length cp := h.1.form
theorem holdsR_nil (w : World) : HoldsR w (.slice none 0 0) [] := ⟨holdsS_nil _ _ _, Or.inl rfl⟩
theorem HoldsR.own {w : World} {base : Nat} {v : Value} {L : List ByteArray} (h : w.ownsRow base 9 1 v L.length (scells L)) : HoldsR w v L := by
  refine ⟨(HoldsT.own h).s, ?_⟩
  rcases h.2 with ⟨h1, _⟩ | ⟨g, cap, cur, h1, _, h3, h4, _, h6, _⟩
  · exact Or.inl h1
  · exact Or.inr ⟨g, 0, L.length, cap, cur, h1, h3, h4, by omega⟩
/-- A model's answer, laid in memory behind a world. -/
def AnsW (w0 : World) (o : LO) (e : Ending) (q : World) : Prop :=
  ∃ v vf vg, e = .returned (.agg (loC o.p v vf vg o.cd)) ∧ HoldsR q v o.Q ∧ HoldsN q vf o.sn ∧ HoldsS q vg o.gt ∧ (∀ g, v.ownBlock = some g → w0.heap.size ≤ g) ∧ (∀ g, vf.ownBlock = some g → w0.heap.size ≤ g) ∧ (∀ g, vg.ownBlock = some g → w0.heap.size ≤ g) ∧ Below w0.heap.size w0 q
theorem HoldsN.other {w w' : World} {v : Value} {L : List Nb} (h : HoldsN w v L) (hw : ∀ g cur, v.ownBlock = some g → w.heap[g]? = some (.cells cur 30) → w'.heap[g]? = w.heap[g]?) : HoldsN w' v L := by
  rcases h with ⟨ad, cp, h1, h2⟩ | ⟨g, cp, cur, h1, h2, h3⟩
  · exact Or.inl ⟨ad, cp, h1, h2⟩
  · exact Or.inr ⟨g, cp, cur, h1, (hw g cur (by rw [h1]; rfl) h2).trans h2, h3⟩
set_option maxHeartbeats 4000000 in
theorem sCopyL (p : Lp) (x : Option Addr) (y : Nat) (L : List ByteArray) (w : World) (hl : L.length ≤ 1048576) (h : HoldsS w (.slice x L.length y) L) :
    Calls Try.prog 35 #[.agg (lpC p (.slice x L.length y))] w fun e w' => ∃ ua uc, e = .returned (.agg (lpC p (.slice ua L.length uc))) ∧ w'.ownsRow w.heap.size 9 1 (.slice ua L.length uc) L.length (scells L) ∧ Below w.heap.size w w' := by
  obtain ⟨hN0, hN1, hN2, hbW, hsW⟩ := new3l w (.cells (lpC p (.slice x L.length y)) 25) (.cells #[.int .i64 0, .int .i64 0, .int .i64 0, .int .i64 0, .slice none 0 0, .bool false] 25) (.cells #[] 9)
  obtain ⟨wi, vs, va, vr, ak⟩ := p
  unfold lpC at hN0 hN1 hN2 hbW hsW ⊢
  dsimp only at *
  have hs3 := h.below hbW
  have hbw := hbW.size
  have hown : World.ownsRow _ w.heap.size 9 1 (.slice (some ⟨w.heap.size + 1 + 1, 0, none⟩) 0 0) ([] : List ByteArray).length (scells []) := ⟨rfl, Or.inr ⟨w.heap.size + 1 + 1, 0, #[], rfl, by omega, hN2, Nat.le_refl _, Nat.zero_le _, rfl, rfl⟩⟩
  generalize hn : L.length = n at *
  have H0 := hide (And.intro hN0 (And.intro hN1 (And.intro hbW (And.intro hsW (And.intro hs3 hown)))))
  clear hN0 hN1 hN2 hbW hsW hs3 h hown
  go_enter Try.func35, Try.ntmps35
  go_wp2_with (first
    | (at_builtin; refine append_ts rfl _ _ rfl w.heap.size _ _ [] L rfl rfl ?h1 ?h2 ?h3 ?h4 ?h5 ?h6))
  case h1 => exact (unhide H0).2.2.2.2.2
  case h2 => exact (unhide H0).2.2.2.2.1
  case h3 => simp
  case h4 => omega
  case h5 =>
    rw [(unhide H0).2.2.2.1]; omega
  rintro v4 w4 ho4 hg4
  obtain ⟨ua, uc, rfl⟩ := own_form ho4
  have hB4 : Below w.heap.size w w4 := (unhide H0).2.2.1.grown hg4 (by rw [(unhide H0).2.2.2.1]; omega) (fun k hk => by have e' : w.heap.size + 1 + 1 = k := Option.some.inj hk; omega)
  have kg := fun (k : Nat) (hk : k < w.heap.size + 1 + 1) => hg4.block k (by rw [(unhide H0).2.2.2.1]; omega) (fun e => by have e' : k = w.heap.size + 1 + 1 := Option.some.inj e; omega)
  have k0 := (kg w.heap.size (by omega)).trans (unhide H0).1
  have k1 := (kg (w.heap.size + 1) (by omega)).trans (unhide H0).2.1
  have hlo := fun g hg => (ho4.lt g hg).1
  have HX := hide (And.intro ho4 (And.intro hB4 (And.intro k0 k1)))
  obtain ⟨a0, a1, a2, a3, a4, a5⟩ := row6l k0
  obtain ⟨r0, r1, r2, r3, r4, r5⟩ := row6l k1
  obtain ⟨f0, f1, f2, f3, f4, f5⟩ := frz6l k1
  have p4 := frz k0 4
  have n1 : ¬ (w.heap.size = w.heap.size + 1) := by omega
  have n2 : ¬ (w.heap.size + 1 = w.heap.size) := by omega
  clear ho4 hg4 hB4 kg k0 k1 H0 hlo
  go_wp2
  obtain ⟨ho4, hB4, k0, k1⟩ := unhide HX
  refine bodyPost_ret (v := .agg #[.int .i64 wi, .int .i64 vs, .int .i64 va, .int .i64 vr, .slice ua n uc, .bool ak]) (by simp [results, Try.results35, asAddr, loadL (set6_lp ((heap_setCell_other w4 ⟨w.heap.size, 4, none⟩ (w.heap.size + 1) (.slice ua n uc) (by show w.heap.size + 1 ≠ w.heap.size; omega)).trans k1) (.int .i64 wi) (.int .i64 vs) (.int .i64 va) (.int .i64 vr) (.slice ua n uc) (.bool ak))]) rfl ?_
  refine ⟨ua, uc, rfl, own_at ho4 (fun g cur _ h2 => ?_), set6_lb (hB4.setCell (p := ⟨w.heap.size, 4, none⟩) (Nat.le_refl _) _) (by omega) _ _ _ _ _ _⟩
  have g0 : g ≠ w.heap.size := fun e => by rw [e, k0] at h2; cases h2
  have g1 : g ≠ w.heap.size + 1 := fun e => by rw [e, k1] at h2; cases h2
  have f : ∀ (V : World) (i : Nat) (x : Value), (V.setCell ⟨w.heap.size + 1, i, none⟩ x).heap[g]? = V.heap[g]? := fun V i x => heap_setCell_other _ _ _ _ g1
  rw [f, f, f, f, f, f]
  exact heap_setCell_other _ _ _ _ g0
end Go.Proofs.Ytjgnldkncoighaa
