/- The marks that the law lays in an answer's rows, and whether they are held; what else lay in memory stands. -/
import Derived.Test.YtckebgalfomonaaLpO
namespace Go.Proofs.Ytckebgalfomonaa
open Go.RowKit
theorem But.bk {w w' : World} {v : Value} {n : Nat} (h : But v.ownBlock w w') (h0 : n = 0 → Below w.heap.size w w') : But (bk n v) w w' := by
  by_cases hn : n = 0
  · subst hn
    rw [bk_none]
    exact But.of_below (h0 rfl)
  · rw [bk_some hn]
    exact h
theorem HoldsT.keepB {w w' : World} {v : Value} {F : List ByteArray} {o : Option Nat} (h : HoldsT w v F) (hb : But o w w') (hd : ∀ g cur, Go.Proofs.Ytckebgalfomonaa.bk F.length v = some g → w.heap[g]? = some (.cells cur 9) → o ≠ some g) : HoldsT w' v F := by
  rcases h with ⟨ad, cp, e, e0⟩ | ⟨g, cp, cur, e, q1, q2⟩
  · exact Or.inl ⟨ad, cp, e, e0⟩
  · by_cases hn : F.length = 0
    · have : F = [] := List.eq_nil_of_length_eq_zero hn
      subst this
      exact Or.inl ⟨_, _, e, rfl⟩
    · exact Or.inr ⟨g, cp, cur, e, (hb.block g (Array.getElem?_eq_some_iff.1 q1).1 (hd g cur (by rw [bk_some hn, e]; rfl) q1)).trans q1, q2⟩
theorem HoldsN.keepB {w w' : World} {v : Value} {F : List Nb} {o : Option Nat} (h : HoldsN w v F) (hb : But o w w') (hd : ∀ g cur, Go.Proofs.Ytckebgalfomonaa.bk F.length v = some g → w.heap[g]? = some (.cells cur 59) → o ≠ some g) : HoldsN w' v F := by
  rcases h with ⟨ad, cp, e, e0⟩ | ⟨g, cp, cur, e, q1, q2⟩
  · exact Or.inl ⟨ad, cp, e, e0⟩
  · by_cases hn : F.length = 0
    · have : F = [] := List.eq_nil_of_length_eq_zero hn
      subst this
      exact Or.inl ⟨_, _, e, rfl⟩
    · exact Or.inr ⟨g, cp, cur, e, (hb.block g (Array.getElem?_eq_some_iff.1 q1).1 (hd g cur (by rw [bk_some hn, e]; rfl) q1)).trans q1, q2⟩
/-- The block of a row that has cells is of its type. -/
theorem HoldsT.ty {w : World} {v : Value} {F : List ByteArray} (h : HoldsT w v F) {g : Nat} (hg : bk F.length v = some g) : ∃ cur, w.heap[g]? = some (.cells cur 9) := by
  rcases h with ⟨ad, cp, e, e0⟩ | ⟨g', cp, cur, e, q1, q2⟩
  · rw [e0] at hg
    rw [List.length_nil, bk_none] at hg
    cases hg
  · have := bk_own hg
    rw [e] at this
    cases this
    exact ⟨cur, q1⟩
theorem HoldsN.ty {w : World} {v : Value} {F : List Nb} (h : HoldsN w v F) {g : Nat} (hg : bk F.length v = some g) : ∃ cur, w.heap[g]? = some (.cells cur 59) := by
  rcases h with ⟨ad, cp, e, e0⟩ | ⟨g', cp, cur, e, q1, q2⟩
  · rw [e0] at hg
    rw [List.length_nil, bk_none] at hg
    cases hg
  · have := bk_own hg
    rw [e] at this
    cases this
    exact ⟨cur, q1⟩
/-- All stands but for three rows. -/
structure But3 (o1 o2 o3 : Option Nat) (w w' : World) : Prop where
  os : w'.os = w.os
  tape : w'.tape = w.tape
  output : w'.output = w.output
  size : w.heap.size ≤ w'.heap.size
  block : ∀ b, b < w.heap.size → o1 ≠ some b → o2 ≠ some b → o3 ≠ some b → w'.heap[b]? = w.heap[b]?
set_option maxHeartbeats 4000000 in
theorem heldLo (p : Lp) (cd : Int) (x1 x2 x3 : Option Addr) (n1 n2 n3 y1 y2 y3 k : Nat) (w : World) (hk : 0 < k) (hl : k + n1 + 4 * n2 + n3 < 9000000)
    (h1 : HoldsT w (.slice x1 n1 y1) (mtl k n1)) (h2 : HoldsN w (.slice x2 n2 y2) (mnb (k + n1) n2)) (h3 : HoldsT w (.slice x3 n3 y3) (mtl (k + n1 + 4 * n2) n3)) :
    Calls Try.prog 21 #[.agg (loC p (.slice x1 n1 y1) (.slice x2 n2 y2) (.slice x3 n3 y3) cd), .int .i64 k] w fun r w' => r = .returned (.int .i64 ((k + n1 + 4 * n2 + n3 : Nat) : Int)) ∧ Below w.heap.size w w' := by
  have C1 := hide fun W (hb : Below w.heap.size w W) => heldLp p x1 y1 n1 k W hk (by omega) (h1.below hb rfl)
  have C2 := hide fun W (hb : Below w.heap.size w W) => heldNbK _ n2 (k + n1) W (by omega) (by omega) (h2.below hb rfl)
  have C3 := hide fun W (hb : Below w.heap.size w W) => heldTF _ n3 (k + n1 + 4 * n2) W (by omega) (by omega) (h3.below hb rfl)
  have hA := heap_alloc_new w (.cells (loC p (.slice x1 n1 y1) (.slice x2 n2 y2) (.slice x3 n3 y3) cd) 36)
  have hbA : Below w.heap.size w (w.alloc (.cells (loC p (.slice x1 n1 y1) (.slice x2 n2 y2) (.slice x3 n3 y3) cd) 36)) := (Below.refl _ _).alloc (Nat.le_refl _) _
  obtain ⟨wi, vs, va, vr, ak⟩ := p
  have ng1 : ¬ (((k + n1 : Nat) : Int) < 0) := by omega
  have ng2 : ¬ (((k + n1 + 4 * n2 : Nat) : Int) < 0) := by omega
  have ng3 : ¬ (((k + n1 + 4 * n2 + n3 : Nat) : Int) < 0) := by omega
  unfold loC at hA hbA ⊢
  unfold lpC at C1
  dsimp only at *
  have H0 := hide (And.intro hA hbA)
  clear hA hbA h1 h2 h3 hl
  generalize k + n1 = K1 at *
  generalize K1 + 4 * n2 = K2 at *
  generalize K2 + n3 = K3 at *
  go_enter Try.func21, Try.ntmps21
  go_wp2_with fail
  refine (unhide C1 _ (unhide H0).2).mono ?_
  rintro r w1 ⟨rfl, hb1⟩
  have H1 := hide (And.intro ((hb1.block _ (Array.getElem?_eq_some_iff.1 (unhide H0).1).1).trans (unhide H0).1) ((unhide H0).2.trans (hb1.mono (unhide H0).2.size)))
  obtain ⟨_, _, _, _, _, _, a6, a7, _⟩ := row9l (unhide H1).1
  clear hb1 H0 C1
  go_wp2_with fail
  refine (unhide C2 _ (unhide H1).2).mono ?_
  rintro r w2 ⟨rfl, hb1⟩
  have H2 := hide (And.intro ((hb1.block _ (Array.getElem?_eq_some_iff.1 (unhide H1).1).1).trans (unhide H1).1) ((unhide H1).2.trans (hb1.mono (unhide H1).2.size)))
  clear a6 a7
  obtain ⟨_, _, _, _, _, _, a6, a7, _⟩ := row9l (unhide H2).1
  clear hb1 H1 C2
  go_wp2_with fail
  refine (unhide C3 _ (unhide H2).2).mono ?_
  rintro r w3 ⟨rfl, hb1⟩
  have H3 := hide ((unhide H2).2.trans (hb1.mono (unhide H2).2.size))
  clear a6 a7 hb1 H2 C3
  go_wp2
  go_ret
  exact ⟨rfl, unhide H3⟩
set_option maxHeartbeats 4000000 in
theorem markLo (p : Lp) (cd : Int) (x1 x2 x3 : Option Addr) (y1 y2 y3 : Nat) (Q : List ByteArray) (F : List Nb) (G : List ByteArray) (k : Nat) (w : World) (hk : 0 < k) (hl : k + Q.length + 4 * F.length + G.length < 9000000)
    (h1 : HoldsT w (.slice x1 Q.length y1) Q) (h2 : HoldsN w (.slice x2 F.length y2) F) (h3 : HoldsT w (.slice x3 G.length y3) G) (hd : ∀ g, bk Q.length (.slice x1 Q.length y1) = some g → bk G.length (.slice x3 G.length y3) ≠ some g) :
    Calls Try.prog 20 #[.agg (loC p (.slice x1 Q.length y1) (.slice x2 F.length y2) (.slice x3 G.length y3) cd), .int .i64 k] w fun r w' => r = .returned (.int .i64 ((k + Q.length + 4 * F.length + G.length : Nat) : Int)) ∧ HoldsT w' (.slice x1 Q.length y1) (mtl k Q.length) ∧ HoldsN w' (.slice x2 F.length y2) (mnb (k + Q.length) F.length) ∧ HoldsT w' (.slice x3 G.length y3) (mtl (k + Q.length + 4 * F.length) G.length) ∧
      But3 (bk Q.length (.slice x1 Q.length y1)) (bk F.length (.slice x2 F.length y2)) (bk G.length (.slice x3 G.length y3)) w w' := by
  have hA := heap_alloc_new w (.cells (loC p (.slice x1 Q.length y1) (.slice x2 F.length y2) (.slice x3 G.length y3) cd) 36)
  have hbA : Below w.heap.size w (w.alloc (.cells (loC p (.slice x1 Q.length y1) (.slice x2 F.length y2) (.slice x3 G.length y3) cd) 36)) := (Below.refl _ _).alloc (Nat.le_refl _) _
  have hl1 : ∀ g, bk Q.length (.slice x1 Q.length y1) = some g → g < w.heap.size := fun g hg => h1.bk_lt g hg
  have hl2 : ∀ g, bk F.length (.slice x2 F.length y2) = some g → g < w.heap.size := fun g hg => by obtain ⟨cur, e⟩ := h2.ty hg; exact (Array.getElem?_eq_some_iff.1 e).1
  have hl3 : ∀ g, bk G.length (.slice x3 G.length y3) = some g → g < w.heap.size := fun g hg => h3.bk_lt g hg
  have h12 : ∀ g, bk Q.length (.slice x1 Q.length y1) = some g → bk F.length (.slice x2 F.length y2) ≠ some g := fun g e1 e2 => by
    obtain ⟨_, a⟩ := h1.ty e1
    obtain ⟨_, b⟩ := h2.ty e2
    rw [a] at b
    cases b
  have h32 : ∀ g, bk G.length (.slice x3 G.length y3) = some g → bk F.length (.slice x2 F.length y2) ≠ some g := fun g e1 e2 => by
    obtain ⟨_, a⟩ := h3.ty e1
    obtain ⟨_, b⟩ := h2.ty e2
    rw [a] at b
    cases b
  have C1 := hide fun W (hb : Below w.heap.size w W) => markLp p x1 y1 Q k W hk (by omega) (h1.below hb rfl)
  have C2 := hide fun W (hW : HoldsN W (.slice x2 F.length y2) F) => markNbK _ F (k + Q.length) W (by omega) (by omega) hW
  have C3 := hide fun W (hW : HoldsT W (.slice x3 G.length y3) G) => markTF _ G (k + Q.length + 4 * F.length) W (by omega) (by omega) hW
  have HB2 := hide (h2.below hbA rfl)
  have HB3 := hide (h3.below hbA rfl)
  obtain ⟨wi, vs, va, vr, ak⟩ := p
  unfold loC at hA hbA HB2 HB3 ⊢
  unfold lpC at C1
  dsimp only at *
  have H0 := hide (And.intro hA hbA)
  clear hA hbA h1 h2 h3 hl
  go_enter Try.func20, Try.ntmps20
  go_wp2_with fail
  refine (unhide C1 _ (unhide H0).2).mono ?_
  rintro r w1 ⟨rfl, m1, b1, b1'⟩
  have B1 := b1.bk (n := Q.length) (fun e => b1' (List.eq_nil_of_length_eq_zero e))
  have kA1 := (B1.block w.heap.size (Array.getElem?_eq_some_iff.1 (unhide H0).1).1 (fun e => by have := hl1 _ e; omega)).trans (unhide H0).1
  have kN1 := (unhide HB2).keepB B1 (fun g cur e1 _ e2 => h12 g e2 e1)
  have kT1 := (unhide HB3).keepB B1 (fun g cur e1 _ e2 => hd g e2 e1)
  obtain ⟨_, _, _, _, _, _, a6, a7, _⟩ := row9l kA1
  have H1 := hide (And.intro kA1 (And.intro kN1 (And.intro kT1 (And.intro m1 B1))))
  clear m1 b1 b1' B1 kA1 kN1 kT1 HB2 HB3 C1
  go_wp2_with fail
  refine (unhide C2 _ (unhide H1).2.1).mono ?_
  rintro r w2 ⟨rfl, m2, b2, b2'⟩
  have B2 := b2.bk (n := F.length) (fun e => by rw [b2' (List.eq_nil_of_length_eq_zero e)]; exact Below.refl _ _)
  obtain ⟨kA1, kN1, kT1, m1, B1⟩ := unhide H1
  have kA2 := (B2.block w.heap.size (Array.getElem?_eq_some_iff.1 kA1).1 (fun e => by have := hl2 _ e; omega)).trans kA1
  have kT2 := kT1.keepB B2 (fun g cur e1 _ e2 => h32 g e1 e2)
  have m12 : HoldsT w2 (.slice x1 Q.length y1) (mtl k Q.length) := m1.keepB B2 (fun g cur e1 _ e2 => h12 g (by rw [mtl_len] at e1; exact e1) e2)
  clear a6 a7
  obtain ⟨_, _, _, _, _, _, a6, a7, _⟩ := row9l kA2
  have H2 := hide (And.intro kA2 (And.intro kT2 (And.intro m12 (And.intro m2 (And.intro B1 B2)))))
  clear m1 m2 b2 b2' B1 B2 kA1 kN1 kT1 kA2 kT2 m12 C2 H1
  go_wp2_with fail
  refine (unhide C3 _ (unhide H2).2.1).mono ?_
  rintro r w3 ⟨rfl, m3, b3, b3'⟩
  have B3 := b3.bk (n := G.length) (fun e => b3' (List.eq_nil_of_length_eq_zero e))
  obtain ⟨kA2, kT2, m12, m2, B1, B2⟩ := unhide H2
  have m13 := m12.keepB B3 (fun g cur e1 _ e2 => hd g (by rw [mtl_len] at e1; exact e1) e2)
  have m23 := m2.keepB B3 (fun g cur e1 _ e2 => h32 g e2 (by rw [mnb_len] at e1; exact e1))
  have hbA := (unhide H0).2
  have hfr : But3 (bk Q.length (.slice x1 Q.length y1)) (bk F.length (.slice x2 F.length y2)) (bk G.length (.slice x3 G.length y3)) w w3 := by
    refine ⟨B3.os.trans (B2.os.trans (B1.os.trans hbA.os)), B3.tape.trans (B2.tape.trans (B1.tape.trans hbA.tape)), B3.output.trans (B2.output.trans (B1.output.trans hbA.output)), Nat.le_trans hbA.size (Nat.le_trans B1.size (Nat.le_trans B2.size B3.size)), fun b hb e1 e2 e3 => ?_⟩
    have hb1 := Nat.lt_of_lt_of_le hb hbA.size
    have hb2 := Nat.lt_of_lt_of_le hb1 B1.size
    have hb3 := Nat.lt_of_lt_of_le hb2 B2.size
    exact (B3.block b hb3 e3).trans ((B2.block b hb2 e2).trans ((B1.block b hb1 e1).trans (hbA.block b hb)))
  have H3 := hide (And.intro m13 (And.intro m23 (And.intro m3 hfr)))
  clear a6 a7 m3 b3 b3' B3 kA2 kT2 m12 m2 B1 B2 m13 m23 hbA hfr H2 H0 C3
  go_wp2
  go_ret
  exact ⟨rfl, (unhide H3).1, (unhide H3).2.1, (unhide H3).2.2.1, (unhide H3).2.2.2⟩
end Go.Proofs.Ytckebgalfomonaa
