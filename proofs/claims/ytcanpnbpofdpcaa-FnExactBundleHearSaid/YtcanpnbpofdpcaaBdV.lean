/- A bundle of lines: its two rows; the law's words on it: copied, counted, compared, marked, held; what lay in memory stands but for the marked rows. -/
import Derived.Test.YtcanpnbpofdpcaaIvA
import Derived.Test.YtcanpnbpofdpcaaIvM
import Derived.Test.YtcanpnbpofdpcaaFgAr
import Derived.Test.YtcanpnbpofdpcaaFgM
namespace Go.Proofs.Ytcanpnbpofdpcaa
open Go.RowKit
theorem row2b {w : World} {B : Nat} {x0 x1 : Value} {T : TypeId} (h : w.heap[B]? = some (.cells #[x0, x1] T)) : w.cell? ⟨B, 0, none⟩ = some x0 ∧ w.cell? ⟨B, 1, none⟩ = some x1 :=
  ⟨by rw [cell_of_row _ _ 0 _ _ (0, 0) h]; rfl, by rw [cell_of_row _ _ 1 _ _ (0, 0) h]; rfl⟩
theorem new2b (w : World) (a b : Obj) : ((w.alloc a).alloc b).heap[w.heap.size]? = some a ∧ ((w.alloc a).alloc b).heap[w.heap.size + 1]? = some b ∧ Below w.heap.size w ((w.alloc a).alloc b) ∧ ((w.alloc a).alloc b).heap.size = w.heap.size + 2 := by
  have hs : (w.alloc a).heap.size = w.heap.size + 1 := by simp
  refine ⟨(Below.heap_alloc _ _ _ (by rw [hs]; omega)).trans (heap_alloc_new w a), by rw [← hs]; exact heap_alloc_new _ _, ((Below.refl _ _).alloc (Nat.le_refl _) _).alloc (by rw [hs]; omega) _, by simp⟩
theorem new3b (w : World) (a b c : Obj) : (((w.alloc a).alloc b).alloc c).heap[w.heap.size]? = some a ∧ (((w.alloc a).alloc b).alloc c).heap[w.heap.size + 1]? = some b ∧ (((w.alloc a).alloc b).alloc c).heap[w.heap.size + 1 + 1]? = some c ∧ Below w.heap.size w (((w.alloc a).alloc b).alloc c) ∧ (((w.alloc a).alloc b).alloc c).heap.size = w.heap.size + 3 := by
  obtain ⟨h1, h2, h3, h4⟩ := new2b w a b
  refine ⟨(Below.heap_alloc _ _ _ (by rw [h4]; omega)).trans h1, (Below.heap_alloc _ _ _ (by rw [h4]; omega)).trans h2, by rw [show w.heap.size + 1 + 1 = ((w.alloc a).alloc b).heap.size by rw [h4]]; exact heap_alloc_new _ _, h3.alloc (by rw [h4]; omega) _, by simp⟩
/-- Rows of two kinds share no block. -/
theorem kinds_ne {w : World} {v1 v2 : Value} {L : List Int} {F : List Fg} (h1 : HoldsI w v1 L) (h2 : HoldsG w v2 F) (l0 : L ≠ []) (f0 : F ≠ []) : ∀ g, v2.ownBlock = some g → v1.ownBlock ≠ some g := by
  intro g hg e
  rcases h1 with ⟨_, _, _, q⟩ | ⟨g1, _, _, e1, q1, _⟩
  · exact l0 q
  · rcases h2 with ⟨_, _, _, q⟩ | ⟨g2, _, _, e2, q2, _⟩
    · exact f0 q
    · rw [e1] at e
      rw [e2] at hg
      have a1 : g1 = g := by injection e
      have a2 : g2 = g := by injection hg
      rw [a1] at q1
      rw [a2] at q2
      rw [q1] at q2
      simp only [Option.some.injEq, Obj.cells.injEq] at q2
      exact absurd q2.2.1 (by decide)
theorem holdsG_but {u v : Value} {F : List Fg} {W W' : World} (h : HoldsG W v F) (hb : But u.ownBlock W W') (n : F ≠ [] → ∀ g, v.ownBlock = some g → u.ownBlock ≠ some g) : HoldsG W' v F := by
  by_cases hF : F = []
  · subst hF
    obtain ⟨ad, cp, e⟩ := h.form
    exact Or.inl ⟨ad, cp, e, rfl⟩
  · exact h.imp id fun ⟨g, cp, cur, e1, e2, e3⟩ => ⟨g, cp, cur, e1, (hb.block g (Array.getElem?_eq_some_iff.1 e2).1 (n hF g (by rw [e1]; rfl))).trans e2, e3⟩
theorem holdsI_but2 {u v : Value} {F : List Int} {W W' : World} (h : HoldsI W v F) (hb : But u.ownBlock W W') (n : F ≠ [] → ∀ g, v.ownBlock = some g → u.ownBlock ≠ some g) : HoldsI W' v F := by
  by_cases hF : F = []
  · subst hF
    obtain ⟨ad, cp, e⟩ := h.form
    exact Or.inl ⟨ad, cp, e, rfl⟩
  · exact h.imp id fun ⟨g, cp, cur, e1, e2, e3⟩ => ⟨g, cp, cur, e1, (hb.block g (Array.getElem?_eq_some_iff.1 e2).1 (n hF g (by rw [e1]; rfl))).trans e2, e3⟩
theorem box_b {w w1 : World} {o : Obj} (hb : Below (w.alloc o).heap.size (w.alloc o) w1) : w1.heap[w.heap.size]? = some o ∧ Below w.heap.size w w1 := by
  have hs0 : (w.alloc o).heap.size = w.heap.size + 1 := by simp
  exact ⟨(hb.block w.heap.size (by rw [hs0]; omega)).trans (heap_alloc_new w _), ((Below.refl _ _).alloc (Nat.le_refl _) _).trans (hb.mono (by rw [hs0]; omega))⟩
set_option maxHeartbeats 2000000 in
theorem eqBd (a1 a2 b1 b2 : Option Addr) (c1 c2 d1 d2 : Nat) (L : List Int) (F : List Fg) (w : World) (hL : L.length ≤ 2000000) (hF : F.length ≤ 2000000)
    (h1 : HoldsI w (.slice a1 L.length c1) L) (h2 : HoldsI w (.slice a2 L.length c2) L) (k1 : HoldsG w (.slice b1 F.length d1) F) (k2 : HoldsG w (.slice b2 F.length d2) F) :
    Calls Try.prog 9 #[.agg #[.slice a1 L.length c1, .slice b1 F.length d1], .agg #[.slice a2 L.length c2, .slice b2 F.length d2]] w fun e w' => e = .returned (.bool true) ∧ Below w.heap.size w w' := by
  have C := hide fun W (hb : Below w.heap.size w W) => eqIs _ _ L W hL (h1.below hb rfl) (h2.below hb rfl)
  have C2 := hide fun W (hb : Below w.heap.size w W) => eqFgS _ _ F W hF (k1.below hb rfl) (k2.below hb rfl)
  generalize L.length = n at *
  generalize F.length = m at *
  have hq := hide (new2b w (.cells #[.slice a1 n c1, .slice b1 m d1] 30) (.cells #[.slice a2 n c2, .slice b2 m d2] 30))
  clear h1 h2 k1 k2
  go_enter Try.func9, Try.ntmps9
  go_wp2_with fail
  refine (unhide C _ (unhide hq).2.2.1).mono ?_
  rintro e w1 ⟨rfl, hb1⟩
  have q0 := (hb1.block w.heap.size (Array.getElem?_eq_some_iff.1 (unhide hq).1).1).trans (unhide hq).1
  have q1 := (hb1.block (w.heap.size + 1) (Array.getElem?_eq_some_iff.1 (unhide hq).2.1).1).trans (unhide hq).2.1
  obtain ⟨e0, e1⟩ := row2b q0
  obtain ⟨f0, f1⟩ := row2b q1
  have HB := hide ((unhide hq).2.2.1.trans (hb1.mono (unhide hq).2.2.1.size))
  clear q0 q1 hb1 hq C
  go_wp2_with fail
  refine (unhide C2 _ (unhide HB)).mono ?_
  rintro e w2 ⟨rfl, hb2⟩
  have HB2 := hide ((unhide HB).trans (hb2.mono (unhide HB).size))
  clear hb2 e0 e1 f0 f1
  go_wp2
  go_ret
  exact ⟨rfl, unhide HB2⟩
/-- All but two rows stands. -/
structure But2 (u v : Option Nat) (w w' : World) : Prop where
  os : w'.os = w.os
  tape : w'.tape = w.tape
  output : w'.output = w.output
  size : w.heap.size ≤ w'.heap.size
  block : ∀ b, b < w.heap.size → u ≠ some b → v ≠ some b → w'.heap[b]? = w.heap[b]?
/-- A row's block, if it has cells. -/
def bkb (n : Nat) (v : Value) : Option Nat := if n = 0 then none else v.ownBlock
theorem bkb_some {n : Nat} (h : n ≠ 0) (v : Value) : bkb n v = v.ownBlock := if_neg h
theorem bkb_own {n : Nat} {v : Value} {g : Nat} (h : bkb n v = some g) : v.ownBlock = some g := by
  unfold bkb at h
  split at h
  · cases h
  · exact h
theorem but_bk {n : Nat} {v : Value} {w w' : World} (hb : But v.ownBlock w w') (h0 : n = 0 → Below w.heap.size w w') : ∀ b, b < w.heap.size → bkb n v ≠ some b → w'.heap[b]? = w.heap[b]? := by
  intro b hlt hne
  by_cases hz : n = 0
  · exact (h0 hz).block b hlt
  · rw [bkb_some hz] at hne
    exact hb.block b hlt hne
/-- All but a block stands. -/
def Keep (u : Option Nat) (W w1 : World) : Prop := ∀ b, b < W.heap.size → u ≠ some b → w1.heap[b]? = W.heap[b]?
theorem HoldsG.keep {W w1 : World} {v : Value} {F : List Fg} {u : Option Nat} (h : HoldsG W v F) (k : Keep u W w1) (n : ∀ g, bkb F.length v = some g → u ≠ some g) : HoldsG w1 v F := by
  by_cases hF : F = []
  · subst hF
    obtain ⟨ad, cp, e⟩ := h.form
    exact Or.inl ⟨ad, cp, e, rfl⟩
  · exact h.imp id fun ⟨g, cp, cur, e1, e2, e3⟩ => ⟨g, cp, cur, e1, (k g (Array.getElem?_eq_some_iff.1 e2).1 (n g (by rw [bkb_some (fun e => hF (List.eq_nil_of_length_eq_zero e)), e1]; rfl))).trans e2, e3⟩
theorem HoldsI.keep {W w1 : World} {v : Value} {F : List Int} {u : Option Nat} (h : HoldsI W v F) (k : Keep u W w1) (n : ∀ g, bkb F.length v = some g → u ≠ some g) : HoldsI w1 v F := by
  by_cases hF : F = []
  · subst hF
    obtain ⟨ad, cp, e⟩ := h.form
    exact Or.inl ⟨ad, cp, e, rfl⟩
  · exact h.imp id fun ⟨g, cp, cur, e1, e2, e3⟩ => ⟨g, cp, cur, e1, (k g (Array.getElem?_eq_some_iff.1 e2).1 (n g (by rw [bkb_some (fun e => hF (List.eq_nil_of_length_eq_zero e)), e1]; rfl))).trans e2, e3⟩
theorem kinds_bk {w : World} {v1 v2 : Value} {L : List Int} {F : List Fg} (h1 : HoldsI w v1 L) (h2 : HoldsG w v2 F) : ∀ g, bkb F.length v2 = some g → bkb L.length v1 ≠ some g := by
  intro g hg e
  have l0 : L ≠ [] := fun q => by rw [q] at e; cases e
  have f0 : F ≠ [] := fun q => by rw [q] at hg; cases hg
  exact kinds_ne h1 h2 l0 f0 g (bkb_own hg) (bkb_own e)
theorem HoldsI.bk_lt {w : World} {v : Value} {F : List Int} (h : HoldsI w v F) (g : Nat) (hg : bkb F.length v = some g) : g < w.heap.size := by
  rcases h with ⟨ad, cp, e, e0⟩ | ⟨g', cp, cur, e, q1, _⟩
  · rw [e0] at hg
    cases hg
  · have := bkb_own hg
    rw [e] at this
    have a1 : g' = g := by injection this
    rw [← a1]
    exact (Array.getElem?_eq_some_iff.1 q1).1
theorem HoldsG.bk_lt {w : World} {v : Value} {F : List Fg} (h : HoldsG w v F) (g : Nat) (hg : bkb F.length v = some g) : g < w.heap.size := by
  rcases h with ⟨ad, cp, e, e0⟩ | ⟨g', cp, cur, e, q1, _⟩
  · rw [e0] at hg
    cases hg
  · have := bkb_own hg
    rw [e] at this
    have a1 : g' = g := by injection this
    rw [← a1]
    exact (Array.getElem?_eq_some_iff.1 q1).1
/-- What is left of the world by a mark. -/
structure Mk (u : Option Nat) (W w1 : World) : Prop where
  os : w1.os = W.os
  tape : w1.tape = W.tape
  output : w1.output = W.output
  size : W.heap.size ≤ w1.heap.size
  keep : Keep u W w1
theorem markI_k (v : Value) (L : List Int) (k : Nat) (w : World) (hk : 0 < k) (hL : k + L.length < 9000000) (h : HoldsI w v L) :
    Calls Try.prog 40 #[v, .int .i64 k] w fun e w' => e = .returned (.int .i64 ((k + L.length : Nat) : Int)) ∧ HoldsI w' v (mil k L.length) ∧ Mk (bkb L.length v) w w' :=
  (markIF v L k w hk hL h).mono fun _ _ ⟨h1, h2, h3, h4⟩ => ⟨h1, h2, h3.os, h3.tape, h3.output, h3.size, but_bk h3 fun e => h4 (List.eq_nil_of_length_eq_zero e)⟩
theorem markG_k (v : Value) (F : List Fg) (k : Nat) (w : World) (hk : 0 < k) (hF : k + 4 * F.length < 9000000) (h : HoldsG w v F) :
    Calls Try.prog 41 #[v, .int .i64 k] w fun e w' => e = .returned (.int .i64 ((k + 4 * F.length : Nat) : Int)) ∧ HoldsG w' v (mfg k F.length) ∧ Mk (bkb F.length v) w w' :=
  (markFgK v F k w hk hF h).mono fun _ _ ⟨h1, h2, h3, h4⟩ => ⟨h1, h2, h3.os, h3.tape, h3.output, h3.size, but_bk h3 fun e => (by rw [h4 (List.eq_nil_of_length_eq_zero e)]; exact Below.refl _ _)⟩
theorem mark_mid {w w1 : World} {o : Obj} {v1 v2 : Value} {L : List Int} {F : List Fg} (h1 : HoldsI w v1 L) (h2 : HoldsG w v2 F) (mk : Mk (bkb L.length v1) (w.alloc o) w1) :
    w1.heap[w.heap.size]? = some o ∧ HoldsG w1 v2 F := by
  have hs : (w.alloc o).heap.size = w.heap.size + 1 := by simp
  refine ⟨(mk.keep w.heap.size (by rw [hs]; omega) (fun e => ?_)).trans (heap_alloc_new w o), ?_⟩
  · have := h1.bk_lt _ e
    omega
  · exact HoldsG.keep (h2.below ((Below.refl _ _).alloc (Nat.le_refl _) o) rfl) mk.keep (kinds_bk h1 h2)
theorem mark_end {w w1 w2 : World} {o : Obj} {v1 v2 : Value} {L : List Int} {F : List Fg} (h1 : HoldsI w v1 L) (h2 : HoldsG w v2 F) (mk : Mk (bkb L.length v1) (w.alloc o) w1) (mk2 : Mk (bkb F.length v2) w1 w2) {k : Nat} (p1 : HoldsI w1 v1 (mil k L.length)) :
    HoldsI w2 v1 (mil k L.length) ∧ But2 (bkb L.length v1) (bkb F.length v2) w w2 := by
  have hs : (w.alloc o).heap.size = w.heap.size + 1 := by simp
  have hs1 := mk.size
  refine ⟨HoldsI.keep p1 mk2.keep (fun g hg e => ?_), mk2.os.trans mk.os, mk2.tape.trans mk.tape, mk2.output.trans mk.output, by have := mk2.size; omega, fun b hb n1 n2 => ?_⟩
  · rw [mil_len] at hg
    exact kinds_bk h1 h2 g e hg
  · exact (mk2.keep b (by omega) n2).trans ((mk.keep b (by omega) n1).trans (Below.heap_alloc _ _ _ hb))
set_option maxHeartbeats 2000000 in
theorem markBd (a1 b1 : Option Addr) (c1 d1 : Nat) (L : List Int) (F : List Fg) (k : Nat) (w : World) (hk : 0 < k) (hL : k + L.length + 4 * F.length < 9000000)
    (h1 : HoldsI w (.slice a1 L.length c1) L) (k1 : HoldsG w (.slice b1 F.length d1) F) :
    Calls Try.prog 15 #[.agg #[.slice a1 L.length c1, .slice b1 F.length d1], .int .i64 k] w fun e w' => e = .returned (.int .i64 ((k + L.length + 4 * F.length : Nat) : Int)) ∧ HoldsI w' (.slice a1 L.length c1) (mil k L.length) ∧ HoldsG w' (.slice b1 F.length d1) (mfg (k + L.length) F.length) ∧ But2 (bkb L.length (.slice a1 L.length c1)) (bkb F.length (.slice b1 F.length d1)) w w' := by
  have C := hide fun o => markI_k (.slice a1 L.length c1) L k (w.alloc o) hk (by omega) (h1.below ((Below.refl _ _).alloc (Nat.le_refl _) o) rfl)
  have C2 := hide fun W (h : HoldsG W (.slice b1 F.length d1) F) => markG_k (.slice b1 F.length d1) F (k + L.length) W (by omega) (by omega) h
  have HM := hide fun o w1 mk => mark_mid (o := o) (w1 := w1) h1 k1 mk
  have HE := hide fun o w1 w2 mk mk2 p1 => mark_end (o := o) (w1 := w1) (w2 := w2) h1 k1 mk mk2 (k := k) p1
  generalize L.length = n at *
  generalize F.length = m at *
  clear h1 k1
  go_enter Try.func15, Try.ntmps15
  go_wp2_with fail
  refine (unhide C _).mono ?_
  rintro e w1 ⟨rfl, p1, mk1⟩
  obtain ⟨q0, hg1⟩ := unhide HM _ _ mk1
  obtain ⟨e0, e1⟩ := row2b q0
  have HX := hide (And.intro p1 (And.intro mk1 hg1))
  clear p1 mk1 hg1 q0
  go_wp2_with fail
  refine (unhide C2 _ (unhide HX).2.2).mono ?_
  rintro e w2 ⟨rfl, p2, mk2⟩
  have hz := unhide HE _ _ _ (unhide HX).2.1 mk2 (unhide HX).1
  have HZ := hide (And.intro hz.1 (And.intro p2 hz.2))
  clear hz p2 mk2 e0 e1
  go_wp2
  go_ret
  exact ⟨rfl, unhide HZ⟩
set_option maxHeartbeats 2000000 in
theorem heldBd (a1 b1 : Option Addr) (c1 d1 n m k : Nat) (w : World) (hk : 0 < k) (hL : k + n + 4 * m < 9000000) (h1 : HoldsI w (.slice a1 n c1) (mil k n)) (k1 : HoldsG w (.slice b1 m d1) (mfg (k + n) m)) :
    Calls Try.prog 43 #[.agg #[.slice a1 n c1, .slice b1 m d1], .int .i64 k] w fun e w' => e = .returned (.int .i64 ((k + n + 4 * m : Nat) : Int)) ∧ Below w.heap.size w w' := by
  have C := hide fun W (hb : Below w.heap.size w W) => heldIF _ n k W hk (by omega) (h1.below hb rfl)
  have C2 := hide fun W (hb : Below w.heap.size w W) => heldFgK _ m (k + n) W (by omega) (by omega) (k1.below hb rfl)
  have hA := hide ((Below.refl w.heap.size w).alloc (Nat.le_refl _) (.cells #[.slice a1 n c1, .slice b1 m d1] 30))
  have d2 : ¬ (((k + n : Nat) : Int) < 0) := by omega
  have d3 : ¬ (((k + n + 4 * m : Nat) : Int) < 0) := by omega
  clear h1 k1
  generalize k + n + 4 * m = K2 at *
  generalize k + n = K1 at *
  go_enter Try.func43, Try.ntmps43
  go_wp2_with fail
  refine (unhide C _ (unhide hA)).mono ?_
  rintro e w1 ⟨rfl, hb1⟩
  obtain ⟨q0, hb1'⟩ := box_b hb1
  obtain ⟨e0, e1⟩ := row2b q0
  have HB := hide hb1'
  clear q0 hb1 hb1' hA C
  go_wp2_with fail
  refine (unhide C2 _ (unhide HB)).mono ?_
  rintro e w2 ⟨rfl, hb2⟩
  have HB2 := hide ((unhide HB).trans (hb2.mono (unhide HB).size))
  clear hb2 e0 e1 HB
  go_wp2
  go_ret
  exact ⟨rfl, unhide HB2⟩
set_option maxHeartbeats 2000000 in
theorem szBd (a1 b1 : Option Addr) (c1 d1 : Nat) (L : List Int) (F : List Fg) (w : World) (l1 : L.length ≤ maxLen) (l2 : F.length ≤ maxLen) (k1 : ArgG w (.slice b1 F.length d1) F) :
    Calls Try.prog 5 #[.agg #[.slice a1 L.length c1, .slice b1 F.length d1], .int .i64 1048576] w fun r w' => ∃ z : Int, r = .returned (.int .i64 z) ∧ (z = -1 ∨ (L.length ≤ 1048576 ∧ F.length ≤ 1048576 ∧ ∃ m : Nat, z = (m : Int) ∧ m ≤ 1048576)) ∧ Below w.heap.size w w' := by
  have C := hide fun W => szIs a1 c1 L 1048576 W (Nat.le_refl _) l1
  have C2 := hide fun k W hk (hb : Below w.heap.size w W) => szFgS _ F k W hk l2 (k1.below hb)
  have hA := hide ((Below.refl w.heap.size w).alloc (Nat.le_refl _) (.cells #[.slice a1 L.length c1, .slice b1 F.length d1] 25))
  clear k1 l1 l2
  generalize L.length = n at *
  generalize F.length = m at *
  go_enter Try.func5, Try.ntmps5
  go_wp2_with fail
  refine (unhide C _).mono ?_
  rintro e w1 ⟨z, rfl, hz, hb1⟩
  obtain ⟨q0, hb1'⟩ := box_b hb1
  obtain ⟨e0, e1⟩ := row2b q0
  have HB := hide hb1'
  clear q0 hb1 hb1' hA C
  rcases hz with rfl | ⟨hz1, k, rfl, hk⟩
  · have e2 : (-1 : Int) < 0 := by decide
    go_wp2
    go_ret
    exact ⟨-1, rfl, Or.inl rfl, unhide HB⟩
  · have e2 : ¬ ((k : Int) < 0) := by omega
    go_wp2_with fail
    refine (unhide C2 k _ hk (unhide HB)).mono ?_
    rintro e w2 ⟨z, rfl, hz, hb2⟩
    have HB2 := hide ((unhide HB).trans (hb2.mono (unhide HB).size))
    clear hb2 HB e0 e1
    rcases hz with rfl | ⟨hz2, k2, rfl, hk2⟩
    · have e3 : (-1 : Int) < 0 := by decide
      go_wp2
      go_ret
      exact ⟨-1, rfl, Or.inl rfl, unhide HB2⟩
    · have e3 : ¬ ((k2 : Int) < 0) := by omega
      go_wp2
      go_ret
      exact ⟨_, rfl, Or.inr ⟨hz1, hz2, k2, rfl, hk2⟩, unhide HB2⟩
end Go.Proofs.Ytcanpnbpofdpcaa
