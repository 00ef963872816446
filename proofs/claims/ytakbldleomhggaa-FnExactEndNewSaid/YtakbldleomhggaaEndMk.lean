/- The marks that the law lays in an End's rows, and whether they are held; its size; what else lay in memory stands. -/
import Derived.Test.YtakbldleomhggaaEndTo
import Derived.Test.YtakbldleomhggaaOptMarks
namespace Go.Proofs.Ytakbldleomhggaa
open Go.RowKit
theorem markOptK (v : Value) (F : List Op.Opt) (k : Nat) (w : World) (hk : 0 < k) (hF : k + 2 * F.length < 9000000) (h : HoldsO w v F) :
    Calls Try.prog 21 #[v, .int .i64 k] w fun e w' => e = .returned (.int .i64 ((k + 2 * F.length : Nat) : Int)) ∧ HoldsO w' v (mfd k F.length) ∧ But v.ownBlock w w' ∧ (F = [] → w' = w) := by
  by_cases hFe : F = []
  · subst hFe
    obtain ⟨ad, cp, rfl⟩ := h.form
    exact (markS0 ad cp k w).mono fun e w' ⟨p1, p2⟩ => ⟨p1, holdsO_nil _ _ _, p2 ▸ But.of_below (Below.refl _ _), fun _ => p2⟩
  · rcases h with ⟨ad, cp, rfl, e0⟩ | ⟨g, cp, cur, rfl, h2, h3, h4⟩
    · exact absurd e0 hFe
    · refine (markS g cp F.length k cur w hk hF h3 h2).mono fun e w' ⟨p1, ⟨cur', q1, q2, q3⟩, p3⟩ => ⟨p1, Or.inr ⟨g, cp, cur', by rw [mfd_len], q1, by rw [mfd_len]; omega, by rw [mfd_len]; exact q3⟩, ⟨p3.os, p3.tape, p3.output, p3.size, fun b hb hne => p3.block b hb fun e => hne (by rw [e]; rfl)⟩, fun h => absurd h hFe⟩
theorem heldOptK (v : Value) (n k : Nat) (w : World) (hk : 0 < k) (hn : k + 2 * n < 9000000) (h : HoldsO w v (mfd k n)) :
    Calls Try.prog 48 #[v, .int .i64 k] w fun e w' => e = .returned (.int .i64 ((k + 2 * n : Nat) : Int)) ∧ Below w.heap.size w w' := by
  rcases h with ⟨ad, cp, rfl, e0⟩ | ⟨g, cp, cur, rfl, h2, h3, h4⟩
  · have hn0 : n = 0 := by rw [← mfd_len k n, e0]; rfl
    subst hn0
    exact (heldS0 ad cp k w).mono fun e w' ⟨p1, p2⟩ => ⟨p1, p2 ▸ Below.refl _ _⟩
  · rw [mfd_len] at h4 ⊢
    exact heldS g cp n k cur w hk hn h2 h4
theorem heldOpt_form {w : World} {x : Option Addr} {n y : Nat} {k : Nat} (h : HoldsO w (.slice x n y) (mfd k n)) : HoldsO w (.slice x (mfd k n).length y) (mfd k n) := by rw [mfd_len]; exact h
/-- A row's own block, where it has cells. -/
def nb (n : Nat) (v : Value) : Option Nat := if n = 0 then none else v.ownBlock
theorem nb_none (v : Value) : nb 0 v = none := if_pos rfl
theorem nb_some {n : Nat} (h : n ≠ 0) (v : Value) : nb n v = v.ownBlock := if_neg h
/-- All stands but for two rows. -/
structure But2 (o1 o2 : Option Nat) (w w' : World) : Prop where
  os : w'.os = w.os
  tape : w'.tape = w.tape
  output : w'.output = w.output
  size : w.heap.size ≤ w'.heap.size
  block : ∀ b, b < w.heap.size → o1 ≠ some b → o2 ≠ some b → w'.heap[b]? = w.heap[b]?
set_option maxHeartbeats 2000000 in
set_option maxRecDepth 100000 in
theorem markEndE (e : En) (x1 x2 : Option Addr) (y1 y2 : Nat) (F1 F2 : List Op.Opt) (k : Nat) (w : World) (hk : 0 < k) (hl : k + 2 * F1.length + 2 * F2.length < 9000000)
    (h1 : HoldsO w (.slice x1 F1.length y1) F1) (h2 : HoldsO w (.slice x2 F2.length y2) F2)
    (hd : F1 ≠ [] → F2 ≠ [] → (Value.slice x1 F1.length y1).ownBlock ≠ (Value.slice x2 F2.length y2).ownBlock) :
    Calls Try.prog 27 #[.agg (enC e (.slice x1 F1.length y1) (.slice x2 F2.length y2)), .int .i64 k] w fun r w' => r = .returned (.int .i64 ((k + 2 * F1.length + 2 * F2.length : Nat) : Int)) ∧
      HoldsO w' (.slice x1 F1.length y1) (mfd k F1.length) ∧ HoldsO w' (.slice x2 F2.length y2) (mfd (k + 2 * F1.length) F2.length) ∧ But2 (nb F1.length (.slice x1 F1.length y1)) (nb F2.length (.slice x2 F2.length y2)) w w' := by
  have hA : (w.alloc (.cells (enC e (.slice x1 F1.length y1) (.slice x2 F2.length y2)) 50)).heap[w.heap.size]? = some (.cells (enC e (.slice x1 F1.length y1) (.slice x2 F2.length y2)) 50) := heap_alloc_new w _
  have hbA : Below w.heap.size w (w.alloc (.cells (enC e (.slice x1 F1.length y1) (.slice x2 F2.length y2)) 50)) := (Below.refl _ _).alloc (Nat.le_refl _) _
  have C1 := hide (markOptK _ F1 k (w.alloc (.cells (enC e (.slice x1 F1.length y1) (.slice x2 F2.length y2)) 50)) hk (by omega) (h1.below hbA rfl))
  have hl1 := fun hF g hg => h1.lt hF g hg
  have h2A := h2.below hbA rfl
  have HK := hide (And.intro h1 (And.intro h2 (And.intro hd (And.intro hA (And.intro hbA (And.intro hl1 h2A))))))
  clear h1 h2 hd hA hbA hl1 h2A
  obtain ⟨m1, a1, g1, p1, c1, d1, m2, a2, g2, p2, c2, d2, st, tr, du, id, fl, up, i1, i2, i3, i4, i5, o1, o2, o3, o4, o5⟩ := e
  unfold enC at C1 HK ⊢
  dsimp only at C1 HK ⊢
  obtain ⟨n1, hn1⟩ : ∃ n1, F1.length = n1 := ⟨_, rfl⟩
  obtain ⟨n2, hn2⟩ : ∃ n2, F2.length = n2 := ⟨_, rfl⟩
  rw [hn1] at C1 HK hl ⊢
  rw [hn2] at C1 HK hl ⊢
  go_enter Try.func27, Try.ntmps27
  go_wp2_with fail
  refine (unhide C1).mono ?_
  rintro r w1 ⟨rfl, hh1, hb1, hs1⟩
  obtain ⟨h1, h2, hd, hA, hbA, hl1, h2A⟩ := unhide HK
  have hr1 : w1.heap[w.heap.size]? = some (.cells #[.int .i64 m1, .int .i64 a1, .int .i64 g1, .bool p1, .bool c1, .bool d1, .int .i64 m2, .int .i64 a2, .int .i64 g2, .bool p2, .bool c2, .bool d2, .int .i64 st, .int .i64 tr, .int .i64 du, .int .i64 id, .int .i64 fl, .slice x1 n1 y1, .slice x2 n2 y2, .bool up, .int .i64 i1, .int .i64 i2, .bool i3, .bool i4, .bool i5, .int .i64 o1, .int .i64 o2, .bool o3, .bool o4, .bool o5] 50) := by
    by_cases hF : F1 = []
    · rw [hs1 hF]; exact hA
    · exact (hb1.block _ (by simp) fun e => by have := hl1 hF _ e; omega).trans hA
  have h21 : HoldsO w1 (.slice x2 n2 y2) F2 := by
    by_cases hF : F1 = []
    · rw [hs1 hF]; exact h2A
    · by_cases hF2 : F2 = []
      · subst hF2
        have : n2 = 0 := hn2.symm
        subst this
        exact holdsO_nil _ _ _
      · refine h2A.other fun g hg => ?_
        have hlt := h2.lt hF2 g hg
        exact hb1.block g (by simp; omega) fun e => hd hF hF2 (e.trans hg.symm)
  have C2 := hide (markOptK _ F2 (k + 2 * n1) w1 (by omega) (by omega) h21)
  have c18 : w1.cell? ⟨w.heap.size, 18, none⟩ = some (.slice x2 n2 y2) := by rw [cell_of_row _ _ _ _ _ _ hr1]; rfl
  rw [hn2] at C2
  have HK1 := hide (And.intro hh1 (And.intro hb1 (And.intro hs1 h21)))
  clear hh1 hb1 hs1 h21 hr1 h1 h2 hd hA hbA hl1 h2A C1
  go_wp2_with fail
  refine (unhide C2).mono ?_
  rintro r w2 ⟨rfl, hh2, hb2, hs2⟩
  have HK2 := hide (And.intro hh2 (And.intro hb2 hs2))
  clear hh2 hb2 hs2 C2 c18
  go_wp2
  go_ret
  obtain ⟨h1, h2, hd, hA, hbA, hl1, h2A⟩ := unhide HK
  obtain ⟨hh1, hb1, hs1, h21⟩ := unhide HK1
  obtain ⟨hh2, hb2, hs2⟩ := unhide HK2
  refine ⟨rfl, ?_, hh2, ⟨hb2.os.trans hb1.os, hb2.tape.trans hb1.tape, hb2.output.trans hb1.output, Nat.le_trans (Nat.le_trans (by simp) hb1.size) hb2.size, fun b hb e1 e2 => ?_⟩⟩
  · by_cases hF2 : F2 = []
    · rw [hs2 hF2]; exact hh1
    · by_cases hF : F1 = []
      · subst hF
        have : n1 = 0 := hn1.symm
        subst this
        exact holdsO_nil _ _ _
      · refine hh1.other fun g hg => ?_
        have hlt := hl1 hF g hg
        have hz := hb1.size
        exact hb2.block g (by simp at hz; omega) fun e => hd hF hF2 (hg.trans e.symm)
  · have hz := hb1.size
    have q2 : w2.heap[b]? = w1.heap[b]? := by
      by_cases h0 : n2 = 0
      · rw [hs2 (List.eq_nil_of_length_eq_zero (hn2.trans h0))]
      · rw [nb_some h0] at e2
        exact hb2.block b (by simp at hz; omega) e2
    have q1 : w1.heap[b]? = (w.alloc (.cells #[.int .i64 m1, .int .i64 a1, .int .i64 g1, .bool p1, .bool c1, .bool d1, .int .i64 m2, .int .i64 a2, .int .i64 g2, .bool p2, .bool c2, .bool d2, .int .i64 st, .int .i64 tr, .int .i64 du, .int .i64 id, .int .i64 fl, .slice x1 n1 y1, .slice x2 n2 y2, .bool up, .int .i64 i1, .int .i64 i2, .bool i3, .bool i4, .bool i5, .int .i64 o1, .int .i64 o2, .bool o3, .bool o4, .bool o5] 50)).heap[b]? := by
      by_cases h0 : n1 = 0
      · rw [hs1 (List.eq_nil_of_length_eq_zero (hn1.trans h0))]
      · rw [nb_some h0] at e1
        exact hb1.block b (by simp; omega) e1
    exact (q2.trans q1).trans (Below.heap_alloc _ _ _ hb)
set_option maxHeartbeats 2000000 in
set_option maxRecDepth 100000 in
theorem heldEndE (e : En) (x1 x2 : Option Addr) (n1 n2 y1 y2 : Nat) (k : Nat) (w : World) (hk : 0 < k) (hl : k + 2 * n1 + 2 * n2 < 9000000)
    (h1 : HoldsO w (.slice x1 n1 y1) (mfd k n1)) (h2 : HoldsO w (.slice x2 n2 y2) (mfd (k + 2 * n1) n2)) :
    Calls Try.prog 28 #[.agg (enC e (.slice x1 n1 y1) (.slice x2 n2 y2)), .int .i64 k] w fun r w' => r = .returned (.int .i64 ((k + 2 * n1 + 2 * n2 : Nat) : Int)) ∧ Below w.heap.size w w' := by
  obtain ⟨m1, a1, g1, p1, c1, d1, m2, a2, g2, p2, c2, d2, st, tr, du, id, fl, up, i1, i2, i3, i4, i5, o1, o2, o3, o4, o5⟩ := e
  have hA := heap_alloc_new w (.cells (enC ⟨m1, a1, g1, p1, c1, d1, m2, a2, g2, p2, c2, d2, st, tr, du, id, fl, up, i1, i2, i3, i4, i5, o1, o2, o3, o4, o5⟩ (.slice x1 n1 y1) (.slice x2 n2 y2)) 50)
  have hbA : Below w.heap.size w (w.alloc (.cells (enC ⟨m1, a1, g1, p1, c1, d1, m2, a2, g2, p2, c2, d2, st, tr, du, id, fl, up, i1, i2, i3, i4, i5, o1, o2, o3, o4, o5⟩ (.slice x1 n1 y1) (.slice x2 n2 y2)) 50)) := (Below.refl _ _).alloc (Nat.le_refl _) _
  have C1 := hide fun W (hb : Below w.heap.size w W) => heldOptK _ n1 k W hk (by omega) (h1.below hb rfl)
  have C2 := hide fun W (hb : Below w.heap.size w W) => heldOptK _ n2 (k + 2 * n1) W (by omega) (by omega) (h2.below hb rfl)
  have d1 : ¬ (((k + 2 * n1 : Nat) : Int) < 0) := by omega
  have d2 : ¬ (((k + 2 * n1 + 2 * n2 : Nat) : Int) < 0) := by omega
  unfold enC at hA hbA ⊢
  dsimp only at hA hbA ⊢
  have HA := hide (And.intro hA hbA)
  clear hA hbA h1 h2
  generalize k + 2 * n1 = K1 at *
  generalize K1 + 2 * n2 = K2 at *
  go_enter Try.func28, Try.ntmps28
  go_wp2_with fail
  refine (unhide C1 _ (unhide HA).2).mono ?_
  rintro r w1 ⟨rfl, hb1⟩
  have hr1 := (hb1.block w.heap.size (by simp)).trans (unhide HA).1
  have hB1 := (unhide HA).2.trans (hb1.mono (unhide HA).2.size)
  have c18 : w1.cell? ⟨w.heap.size, 18, none⟩ = some (.slice x2 n2 y2) := by rw [cell_of_row _ _ _ _ _ _ hr1]; rfl
  have H1 := hide hB1
  clear hr1 hB1 hb1 HA C1
  go_wp2_with fail
  refine (unhide C2 _ (unhide H1)).mono ?_
  rintro r w2 ⟨rfl, hb2⟩
  have H2 := hide ((unhide H1).trans (hb2.mono (unhide H1).size))
  clear hb2 H1 C2 c18
  go_wp2
  go_ret
  exact ⟨rfl, unhide H2⟩
end Go.Proofs.Ytakbldleomhggaa
