/- The draw of a bundle (the model's l09Bundle): a bundle whose rows lie in memory of their own, of one to four lines; what lay in memory stands but for the drawer; no condition. The draw of a bundle, a line's number and a part (the model's DrawBundleHear); what lay in memory stands; no condition. -/
import Derived.Test.YtfkeokfmancgiaaBpR
import Derived.Test.YtfkeokfmancgiaaBdSh
import Derived.Test.YtfkeokfmancgiaaGD
import Derived.Test.YtfkeokfmancgiaaDrawFgM
import Derived.Deep.DeepCutAuto
import Derived.Test.YtfkeokfmancgiaaGE
namespace Go.Proofs.Ytfkeokfmancgiaa
open Go.RowKit
/-- What the drawer has laid. -/
structure Bst (w W : World) (B : Nat) (sl : Value) (n rb bb : Nat) (la pa : Option Addr) (lc pc : Nat) (L : List Int) (P : List Fg) : Prop where
  r : W.heap[rb]? = some (.cells #[.slice none 0 0, .slice none 0 0] 29)
  b : W.heap[bb]? = some (.cells #[.slice la L.length lc, .slice pa P.length pc] 29)
  hl : HoldsI W (.slice la L.length lc) L
  hp : HoldsP W w.heap.size (.slice pa P.length pc) P
  ol : ∀ g, (Value.slice la L.length lc).ownBlock = some g → w.heap.size ≤ g
  l1 : 1 ≤ L.length
  l8 : L.length ≤ 8
  s : Src W B sl n
  g : Nigh B w W
variable {w W W' : World} {B n rb bb : Nat} {sl : Value} {la pa la' pa' : Option Addr} {lc pc lc' pc' : Nat} {L L' : List Int} {P P' : List Fg}
theorem HoldsI.same9 {v : Value} {L : List Int} (h : HoldsI W v L) (k : ∀ g, v.ownBlock = some g → g < W.heap.size → W'.heap[g]? = W.heap[g]?) : HoldsI W' v L :=
  h.imp id fun ⟨g, cp, cur, h1, h2, h3⟩ => ⟨g, cp, cur, h1, (k g (by rw [h1]; rfl) (Array.getElem?_eq_some_iff.1 h2).1).trans h2, h3⟩
theorem Bst.nigh (h : Bst w W B sl n rb bb la pa lc pc L P) (hn : Nigh B W W') (hs : Src W' B sl n) (hB : B < w.heap.size) (h1 : rb ≠ B) (h2 : bb ≠ B) : Bst w W' B sl n rb bb la pa lc pc L P :=
  ⟨(hn.block rb (Array.getElem?_eq_some_iff.1 h.r).1 h1).trans h.r, (hn.block bb (Array.getElem?_eq_some_iff.1 h.b).1 h2).trans h.b,
    h.hl.same9 fun g hg hl => hn.block g hl (by have := h.ol g hg; omega), h.hp.keep fun g hg hl _ _ => hn.block g hl (by omega), h.ol, h.l1, h.l8, hs, h.g.trans hn⟩
theorem Bst.below (h : Bst w W B sl n rb bb la pa lc pc L P) (hb : Below W.heap.size W W') (hB : B < w.heap.size) (h1 : rb ≠ B) (h2 : bb ≠ B) : Bst w W' B sl n rb bb la pa lc pc L P :=
  h.nigh (Nigh.of_below hb) (h.s.same (hb.block _ h.s.lt)) hB h1 h2
/-- A cell of a block of another kind set. -/
theorem Bst.far (h : Bst w W B sl n rb bb la pa lc pc L P) {x o : Nat} {v : Value} {cs : Array Value} {T : TypeId} (hx : W.heap[x]? = some (.cells cs T)) (e1 : T ≠ 29) (e2 : T ≠ 2) (e4 : T ≠ 83) (hw : w.heap.size ≤ x) (hp : ∀ g, (Value.slice pa P.length pc).ownBlock = some g → g ≠ x) : Bst w (W.setCell ⟨x, o, none⟩ v) B sl n rb bb la pa lc pc L P := by
  have ne : ∀ {g : Nat} {c : Array Value} {S : TypeId}, W.heap[g]? = some (.cells c S) → T ≠ S → g ≠ x := fun hg hS e => by
    subst e
    rw [hx] at hg
    injection hg with hg
    injection hg with _ hg
    exact hS hg
  have k : ∀ g, g ≠ x → (W.setCell ⟨x, o, none⟩ v).heap[g]? = W.heap[g]? := fun g hg => Below.heap_setCell _ _ _ _ hg
  refine ⟨(k _ (ne h.r e1)).trans h.r, (k _ (ne h.b e1)).trans h.b, ?_, ?_, h.ol, h.l1, h.l8, h.s.same (k _ ?_), h.g.setCell ⟨x, o, none⟩ _ hw⟩
  · rcases h.hl with h' | ⟨g, cp, cur, q1, q2, q3⟩
    · exact Or.inl h'
    · exact Or.inr ⟨g, cp, cur, q1, (k _ (ne q2 e2)).trans q2, q3⟩
  · rcases h.hp with h' | ⟨g, o', cp, cur, q1, q2, q3⟩
    · exact Or.inl h'
    · exact Or.inr ⟨g, o', cp, cur, q1, (k _ (hp g (by rw [q1]; rfl))).trans q2, q3⟩
  · obtain ⟨p, m, z, _, _, _, hB⟩ := h.s
    exact ne hB e4
/-- The bundle's rows changed for others. -/
theorem Bst.put (h : Bst w W B sl n rb bb la pa lc pc L P) (hne : rb ≠ bb) (hl : HoldsI W (.slice la' L'.length lc') L') (hp : HoldsP W w.heap.size (.slice pa' P'.length pc') P') (ol : ∀ g, (Value.slice la' L'.length lc').ownBlock = some g → w.heap.size ≤ g) (l1 : 1 ≤ L'.length) (l8 : L'.length ≤ 8) (hw : w.heap.size ≤ bb) :
    Bst w ((W.setCell ⟨bb, 0, none⟩ (.slice la' L'.length lc')).setCell ⟨bb, 1, none⟩ (.slice pa' P'.length pc')) B sl n rb bb la' pa' lc' pc' L' P' := by
  have ne : ∀ {g : Nat} {c : Array Value} {S : TypeId}, W.heap[g]? = some (.cells c S) → 29 ≠ S → g ≠ bb := fun hg hS e => by
    subst e
    rw [h.b] at hg
    injection hg with hg
    injection hg with _ hg
    exact hS hg
  have e1 := heap_setCell_same W bb 0 _ _ (.slice la' L'.length lc') h.b
  have e2 := heap_setCell_same _ bb 1 _ _ (.slice pa' P'.length pc') e1
  have k : ∀ g, g ≠ bb → ((W.setCell ⟨bb, 0, none⟩ (.slice la' L'.length lc')).setCell ⟨bb, 1, none⟩ (.slice pa' P'.length pc')).heap[g]? = W.heap[g]? := fun g hg => (Below.heap_setCell _ ⟨bb, 1, none⟩ _ _ hg).trans (Below.heap_setCell _ ⟨bb, 0, none⟩ _ _ hg)
  refine ⟨(k _ hne).trans h.r, e2, ?_, ?_, ol, l1, l8, h.s.same (k _ ?_), (h.g.setCell ⟨bb, 0, none⟩ _ hw).setCell ⟨bb, 1, none⟩ _ hw⟩
  · rcases hl with h' | ⟨g, cp, cur, q1, q2, q3⟩
    · exact Or.inl h'
    · exact Or.inr ⟨g, cp, cur, q1, (k _ (ne q2 (by decide))).trans q2, q3⟩
  · rcases hp with h' | ⟨g, o', cp, cur, q1, q2, q3⟩
    · exact Or.inl h'
    · exact Or.inr ⟨g, o', cp, cur, q1, (k _ (ne q2 (by decide))).trans q2, q3⟩
  · obtain ⟨p, m, z, _, _, _, hB⟩ := h.s
    exact ne hB (by decide)
theorem HoldsP.lt {W : World} {base : Nat} {v : Value} {P : List Fg} (h : HoldsP W base v P) (g : Nat) (hg : v.ownBlock = some g) : g < W.heap.size := by
  rcases h with ⟨rfl, _⟩ | ⟨g', o, cp, cur, rfl, h2, _⟩
  · cases hg
  · cases hg
    exact (Array.getElem?_eq_some_iff.1 h2).1
/-- An answer laid in a variable. -/
theorem Bst.far5 (h : Bst w W B sl n rb bb la pa lc pc L P) {x : Nat} {z0 z1 z2 z3 z4 : Value} (x0 x1 x2 x3 x4 : Value) (hx : W.heap[x]? = some (.cells #[z0, z1, z2, z3, z4] 37)) (hw : w.heap.size ≤ x) :
    Bst w (((((W.setCell ⟨x, 0, none⟩ x0).setCell ⟨x, 1, none⟩ x1).setCell ⟨x, 2, none⟩ x2).setCell ⟨x, 3, none⟩ x3).setCell ⟨x, 4, none⟩ x4) B sl n rb bb la pa lc pc L P := by
  have hp : ∀ g, (Value.slice pa P.length pc).ownBlock = some g → g ≠ x := fun g hg e => by
    rcases h.hp with ⟨e1, _⟩ | ⟨g', o', cp, cur, q1, q2, q3⟩
    · rw [e1] at hg; cases hg
    · rw [q1] at hg
      cases hg
      have e' : g' = x := e
      rw [e', hx] at q2
      injection q2 with q2
      injection q2 with _ q2
      exact absurd q2 (by decide)
  have k0 := heap_setCell_same _ _ 0 _ _ x0 hx
  have k1 := heap_setCell_same _ _ 1 _ _ x1 k0
  have k2 := heap_setCell_same _ _ 2 _ _ x2 k1
  have k3 := heap_setCell_same _ _ 3 _ _ x3 k2
  exact ((((h.far hx (by decide) (by decide) (by decide) hw hp).far k0 (by decide) (by decide) (by decide) hw hp).far k1 (by decide) (by decide) (by decide) hw hp).far k2 (by decide) (by decide) (by decide) hw hp).far k3 (by decide) (by decide) (by decide) hw hp
theorem HoldsP.far5 {W : World} {base x : Nat} {v : Value} {P : List Fg} {z : Array Value} (h : HoldsP W base v P) (hx : W.heap[x]? = some (.cells z 37)) (x0 x1 x2 x3 x4 : Value) :
    HoldsP (((((W.setCell ⟨x, 0, none⟩ x0).setCell ⟨x, 1, none⟩ x1).setCell ⟨x, 2, none⟩ x2).setCell ⟨x, 3, none⟩ x3).setCell ⟨x, 4, none⟩ x4) base v P :=
  h.keep fun g _ _ cur hg => set5_ot (fun e => by
    rw [e, hx] at hg
    injection hg with hg
    injection hg with _ hg
    exact absurd hg (by decide)) _ _ _ _ _
theorem HoldsI.far5 {W : World} {x : Nat} {v : Value} {L : List Int} {z : Array Value} (h : HoldsI W v L) (hx : W.heap[x]? = some (.cells z 37)) (x0 x1 x2 x3 x4 : Value) :
    HoldsI (((((W.setCell ⟨x, 0, none⟩ x0).setCell ⟨x, 1, none⟩ x1).setCell ⟨x, 2, none⟩ x2).setCell ⟨x, 3, none⟩ x3).setCell ⟨x, 4, none⟩ x4) v L := by
  rcases h with h' | ⟨g, cp, cur, q1, q2, q3⟩
  · exact Or.inl h'
  · refine Or.inr ⟨g, cp, cur, q1, (set5_ot (fun e => ?_) _ _ _ _ _).trans q2, q3⟩
    rw [e, hx] at q2
    injection q2 with q2
    injection q2 with _ q2
    exact absurd q2 (by decide)
/-- The bundle, and the part drawn. -/
def Bf (w W : World) (B : Nat) (sl : Value) (n rb bb : Nat) (la pa : Option Addr) (lc pc : Nat) (L : List Int) (P : List Fg) (fb : Nat) (f : Fg) : Prop := Bst w W B sl n rb bb la pa lc pc L P ∧ W.heap[fb]? = some (.cells #[.int .i64 f.seq, .bool f.beg, .bool f.fin, .string f.text] 33)
theorem Bf.nigh {fb : Nat} {f : Fg} (h : Bf w W B sl n rb bb la pa lc pc L P fb f) (hn : Nigh B W W') (hs : Src W' B sl n) (hB : B < w.heap.size) (h1 : rb ≠ B) (h2 : bb ≠ B) (h3 : fb ≠ B) : Bf w W' B sl n rb bb la pa lc pc L P fb f :=
  ⟨h.1.nigh hn hs hB h1 h2, (hn.block fb (Array.getElem?_eq_some_iff.1 h.2).1 h3).trans h.2⟩
theorem Bf.below {fb : Nat} {f : Fg} (h : Bf w W B sl n rb bb la pa lc pc L P fb f) (hb : Below W.heap.size W W') (hB : B < w.heap.size) (h1 : rb ≠ B) (h2 : bb ≠ B) : Bf w W' B sl n rb bb la pa lc pc L P fb f :=
  ⟨h.1.below hb hB h1 h2, (hb.block fb (Array.getElem?_eq_some_iff.1 h.2).1).trans h.2⟩
theorem Bf.far5 {fb : Nat} {f : Fg} (h : Bf w W B sl n rb bb la pa lc pc L P fb f) {x : Nat} {z0 z1 z2 z3 z4 : Value} (x0 x1 x2 x3 x4 : Value) (hx : W.heap[x]? = some (.cells #[z0, z1, z2, z3, z4] 37)) (hw : w.heap.size ≤ x) :
    Bf w (((((W.setCell ⟨x, 0, none⟩ x0).setCell ⟨x, 1, none⟩ x1).setCell ⟨x, 2, none⟩ x2).setCell ⟨x, 3, none⟩ x3).setCell ⟨x, 4, none⟩ x4) B sl n rb bb la pa lc pc L P fb f := by
  refine ⟨h.1.far5 x0 x1 x2 x3 x4 hx hw, (set5_ot (fun e => ?_) _ _ _ _ _).trans h.2⟩
  have h2 := h.2
  rw [e, hx] at h2
  injection h2 with h2
  injection h2 with _ h2
  exact absurd h2 (by decide)
/-- What the model's BundleHear answers, the good ones of as many lines and at most 40 parts. -/
theorem sHear9 (la pa : Option Addr) (lc pc : Nat) (L : List Int) (P : List Fg) (link : Int) (f : Fg) (z : World) (base : Nat) (hb0 : base ≤ z.heap.size) (hL : L.length ≤ 8) (hP : P.length ≤ 100) (h1 : HoldsI z (.slice la L.length lc) L) (h2 : HoldsP z base (.slice pa P.length pc) P) :
    Calls Try.prog 21 #[.agg #[.slice la L.length lc, .slice pa P.length pc], .int .i64 link, fgV f] z fun e q => ∃ (oL : List Int) (oF : List Fg) (oG : List ByteArray) (ol : Nat) (oc : Int) (b1 b2 ga : Option Addr) (d1 d2 gc : Nat), e = .returned (.agg #[.slice b1 oL.length d1, .slice b2 oF.length d2, .slice ga oG.length gc, .int .i64 (ol : Int), .int .i64 oc]) ∧ HoldsI q (.slice b1 oL.length d1) oL ∧ HoldsP q base (.slice b2 oF.length d2) oF ∧ (∀ g, (Value.slice b1 oL.length d1).ownBlock = some g → base ≤ g) ∧ (oc = 0 → oL.length = L.length ∧ oF.length ≤ 40) ∧ Below z.heap.size z q := by
  refine (sHearB la pa lc pc L P link f z (by omega) (by omega) h1 h2.f h2.cap.1).mono fun e q hh => ?_
  have hgood : (hearB L P link f).cd = 0 → (hearB L P link f).L.length = L.length ∧ (hearB L P link f).F.length ≤ 40 := by
    unfold hearB
    split
    · split
      · intro h; exact absurd h (by decide)
      · intro _
        refine ⟨?_, ?_⟩
        · show (L.set _ _).length = _
          rw [List.length_set]
        · show (List.drop _ _).length ≤ 40
          rw [List.length_drop]
          omega
    · intro h; exact absurd h (by decide)
  generalize hearB L P link f = o at *
  obtain ⟨b1, d1, b2, d2, ga, gc, rfl, k1, k2, ⟨k3, k4⟩, k5, k6, k7, k8, k9⟩ := hh
  exact ⟨o.L, o.F, o.G, o.lost, o.cd, b1, b2, ga, d1, d2, gc, rfl, k1, HoldsP.of rfl k2 k3 k4 (fun g hg => Nat.le_trans hb0 (k7 g hg)), fun g hg => Nat.le_trans hb0 (k6 g hg), hgood, k9⟩
/-- The first line's number set. -/
theorem Bst.setL {g : Nat} (h : Bst w W B sl n rb bb (some ⟨g, 0, none⟩) pa lc pc L P) (x : Int) : Bst w (W.setCell ⟨g, 0, none⟩ (.int .i64 x)) B sl n rb bb (some ⟨g, 0, none⟩) pa lc pc (L.set 0 x) P := by
  rcases h.hl with ⟨ad, cp, e, e0⟩ | ⟨g', cp, cur, e, q1, q2, q3⟩
  · have := h.l1
    rw [e0] at this
    exact absurd this (by decide)
  · cases e
    have ne : ∀ {k : Nat} {c : Array Value} {S : TypeId}, W.heap[k]? = some (.cells c S) → 2 ≠ S → k ≠ g := fun hg hS e => by
      subst e
      rw [q1] at hg
      injection hg with hg
      injection hg with _ hg
      exact hS hg
    have k : ∀ m, m ≠ g → (W.setCell ⟨g, 0, none⟩ (.int .i64 x)).heap[m]? = W.heap[m]? := fun m hm => Below.heap_setCell _ ⟨g, 0, none⟩ _ _ hm
    refine ⟨(k _ (ne h.r (by decide))).trans h.r, ?_, ?_, ?_, ?_, ?_, ?_, h.s.same (k _ ?_), h.g.setCell ⟨g, 0, none⟩ _ (h.ol g rfl)⟩
    · rw [List.length_set]
      exact (k _ (ne h.b (by decide))).trans h.b
    · refine Or.inr ⟨g, lc, _, by rw [List.length_set], heap_setCell_same _ _ 0 _ _ _ q1, by rw [List.length_set, Array.size_setIfInBounds]; exact q2, fun j hj => ?_⟩
      rw [List.length_set] at hj
      rw [Array.getElem?_setIfInBounds]
      unfold icells at q3 ⊢
      rw [List.getElem?_map, List.getElem?_set]
      have q3j := q3 j hj
      rw [List.getElem?_map] at q3j
      by_cases ej : 0 = j
      · rw [if_pos ej, if_pos ej, if_pos (by omega), if_pos (by omega)]
        rfl
      · rw [if_neg ej, if_neg ej]
        exact q3j
    · rcases h.hp with h' | ⟨m, o', cp, cu, p1, p2, p3⟩
      · exact Or.inl h'
      · exact Or.inr ⟨m, o', cp, cu, p1, (k _ (ne p2 (by decide))).trans p2, p3⟩
    · rw [List.length_set]
      exact h.ol
    · rw [List.length_set]
      exact h.l1
    · rw [List.length_set]
      exact h.l8
    · obtain ⟨p, m, z, _, _, _, hB⟩ := h.s
      exact ne hB (by decide)
/-- The row of parts grown. -/
theorem Bst.app (h : Bst w W B sl n rb bb la pa lc pc L P) (hg : W.grownBy W' (Value.slice pa P.length pc).ownBlock) (hp : HoldsP W' w.heap.size (.slice pa' P'.length pc') P') (hne : rb ≠ bb) (hw : w.heap.size ≤ bb) :
    W'.heap[bb]? = some (.cells #[.slice la L.length lc, .slice pa P.length pc] 29) ∧ Bst w (W'.setCell ⟨bb, 1, none⟩ (.slice pa' P'.length pc')) B sl n rb bb la pa' lc pc' L P' := by
  have kp : ∀ {k : Nat} {c : Array Value} {S : TypeId}, W.heap[k]? = some (.cells c S) → 33 ≠ S → W'.heap[k]? = some (.cells c S) := fun hk hS => by
    refine (hg.block _ (Array.getElem?_eq_some_iff.1 hk).1 (fun e => ?_)).trans hk
    rcases h.hp with ⟨e1, _⟩ | ⟨m, o', cp, cu, p1, p2, p3⟩
    · rw [e1] at e; cases e
    · rw [p1] at e
      cases e
      have hk' : W.heap[m]? = _ := hk
      rw [p2] at hk'
      injection hk' with hk'
      injection hk' with _ hk'
      exact hS hk'
  have hb' := kp h.b (by decide)
  refine ⟨hb', ?_⟩
  have ne : ∀ {k : Nat} {c : Array Value} {S : TypeId}, W'.heap[k]? = some (.cells c S) → 29 ≠ S → k ≠ bb := fun hk hS e => by
    subst e
    rw [hb'] at hk
    injection hk with hk
    injection hk with _ hk
    exact hS hk
  have k : ∀ m, m ≠ bb → (W'.setCell ⟨bb, 1, none⟩ (.slice pa' P'.length pc')).heap[m]? = W'.heap[m]? := fun m hm => Below.heap_setCell _ ⟨bb, 1, none⟩ _ _ hm
  obtain ⟨p, m, z, s1, s2, s3, hB⟩ := h.s
  have hB' := kp hB (by decide)
  refine ⟨(k _ hne).trans (kp h.r (by decide)), ?_, ?_, ?_, h.ol, h.l1, h.l8, ⟨p, m, z, s1, s2, s3, (k _ (ne hB' (by decide))).trans hB'⟩, (h.g.grown hg ?_).setCell ⟨bb, 1, none⟩ _ hw⟩
  · rw [heap_setCell_same _ _ 1 _ _ _ hb']
    rfl
  · rcases h.hl with h' | ⟨g, cp, cur, q1, q2, q3⟩
    · exact Or.inl h'
    · have q2' := kp q2 (by decide)
      exact Or.inr ⟨g, cp, cur, q1, (k _ (ne q2' (by decide))).trans q2', q3⟩
  · rcases hp with h' | ⟨g, o', cp, cur, q1, q2, q3⟩
    · exact Or.inl h'
    · exact Or.inr ⟨g, o', cp, cur, q1, (k _ (ne q2 (by decide))).trans q2, q3⟩
  · intro q hq
    rcases h.hp with ⟨e1, _⟩ | ⟨m, o', cp, cu, p1, p2, p3, _⟩
    · rw [e1] at hq; cases hq
    · rw [p1] at hq
      cases hq
      exact p3
/-- The bundle handed back. -/
theorem Bst.done (h : Bst w W B sl n rb bb la pa lc pc L P) (hw : w.heap.size ≤ rb) (hP : P.length ≤ 100) :
    HoldsI ((W.setCell ⟨rb, 0, none⟩ (.slice la L.length lc)).setCell ⟨rb, 1, none⟩ (.slice pa P.length pc)) (.slice la L.length lc) L ∧ HoldsP ((W.setCell ⟨rb, 0, none⟩ (.slice la L.length lc)).setCell ⟨rb, 1, none⟩ (.slice pa P.length pc)) w.heap.size (.slice pa P.length pc) P ∧ P.length ≤ pc ∧ L.length ≤ 8 ∧ P.length ≤ 100 ∧ Src ((W.setCell ⟨rb, 0, none⟩ (.slice la L.length lc)).setCell ⟨rb, 1, none⟩ (.slice pa P.length pc)) B sl n ∧ Nigh B w ((W.setCell ⟨rb, 0, none⟩ (.slice la L.length lc)).setCell ⟨rb, 1, none⟩ (.slice pa P.length pc)) := by
  have ne : ∀ {g : Nat} {c : Array Value} {S : TypeId}, W.heap[g]? = some (.cells c S) → 29 ≠ S → g ≠ rb := fun hg hS e => by
    subst e
    rw [h.r] at hg
    injection hg with hg
    injection hg with _ hg
    exact hS hg
  have k : ∀ g, g ≠ rb → ((W.setCell ⟨rb, 0, none⟩ (.slice la L.length lc)).setCell ⟨rb, 1, none⟩ (.slice pa P.length pc)).heap[g]? = W.heap[g]? := fun g hg => (Below.heap_setCell _ ⟨rb, 1, none⟩ _ _ hg).trans (Below.heap_setCell _ ⟨rb, 0, none⟩ _ _ hg)
  have hp' : HoldsP ((W.setCell ⟨rb, 0, none⟩ (.slice la L.length lc)).setCell ⟨rb, 1, none⟩ (.slice pa P.length pc)) w.heap.size (.slice pa P.length pc) P := h.hp.keep fun g _ _ cur hg => k _ (ne hg (by decide))
  refine ⟨?_, hp', h.hp.cap.1, h.l8, hP, h.s.same (k _ ?_), (h.g.setCell ⟨rb, 0, none⟩ _ hw).setCell ⟨rb, 1, none⟩ _ hw⟩
  · rcases h.hl with h' | ⟨g, cp, cur, q1, q2, q3⟩
    · exact Or.inl h'
    · exact Or.inr ⟨g, cp, cur, q1, (k _ (ne q2 (by decide))).trans q2, q3⟩
  · obtain ⟨p, m, z, _, _, _, hB⟩ := h.s
    exact ne hB (by decide)
theorem bnL_len {r : Nat} (h : r < 3 ∨ r = 0) : 1 ≤ (bnL (1 + (r : Int))).length ∧ (bnL (1 + (r : Int))).length ≤ 8 := by
  unfold bnL
  rw [if_pos (by omega), List.length_replicate]
  omega
set_option linter.unusedSimpArgs false in
set_option maxHeartbeats 64000000 in
set_option maxRecDepth 100000 in
theorem src_bundle (w : World) (B : Nat) (sl : Value) (n : Nat) (hn : n ≤ maxLen) (hS : Src w B sl n) (hD : Dat w B sl n) :
    Calls Try.prog 52 #[.pointer (some ⟨B, 0, none⟩)] w fun e w' => ∃ la pa lc pc L P, e = .returned (.agg #[.slice la L.length lc, .slice pa P.length pc]) ∧ HoldsI w' (.slice la L.length lc) L ∧ HoldsP w' w.heap.size (.slice pa P.length pc) P ∧ P.length ≤ pc ∧ L.length ≤ 8 ∧ P.length ≤ 100 ∧ Src w' B sl n ∧ Nigh B w w' := by
  have hBw := hS.lt
  have HS := hide hS
  have HD := hide hD
  clear hS hD
  have DB : Hid (∀ W, Nigh B w W → Dat W B sl n) := hide fun W h => (unhide HD).below (h.below (by omega))
  go_enter Try.func52, Try.ntmps52
  go_wp2_with fail
  have hn0 : Nigh B w (w.alloc (.cells #[.slice none 0 0, .slice none 0 0] 29)) := (Nigh.refl _ _).alloc _
  have hS0 : Src (w.alloc (.cells #[.slice none 0 0, .slice none 0 0] 29)) B sl n := (unhide HS).same (Below.heap_alloc _ _ _ hBw)
  refine (src_n _ B sl n 3 (by decide) hn hS0 (unhide DB _ hn0)).mono ?_
  rintro e w1 ⟨r1, rfl, hr1, hS1, ht1⟩
  have H1 := hide (And.intro ((ht1.block w.heap.size (by omega)).trans (heap_alloc_new w _)) (And.intro hS1 (hn0.trans (Nigh.of_touch ht1))))
  have CN := hide fun z => sBnew (1 + (r1 : Int)) z
  have hbl := bnL_len hr1
  have hr1' : r1 ≤ 2 := by omega
  generalize bnL (1 + (r1 : Int)) = L0 at *
  have HR1 := hide hr1'
  clear hn0 hS0 hS1 ht1 HS hr1
  go_wp2_with fail
  refine (unhide CN _).mono ?_
  rintro e w2 ⟨u1, z1, rfl, hi1, ho1, hb2⟩
  have hl1 := (Array.getElem?_eq_some_iff.1 (unhide H1).1).1
  have hk2 := (hb2.block _ hl1).trans (unhide H1).1
  have hl2 := (Array.getElem?_eq_some_iff.1 hk2).1
  have hS2 := (unhide H1).2.1.same (hb2.block _ (unhide H1).2.1.lt)
  have H2 := hide (And.intro hk2 (And.intro hi1 (And.intro (fun g hg => Nat.le_trans (Nat.le_of_lt hl1) (ho1 g hg)) (And.intro hS2 ((unhide H1).2.2.trans (Nigh.of_below hb2))))))
  clear hk2 hi1 ho1 hb2 hS2 H1 CN hl1
  go_upto_region 3 with fail
  have hBl := (unhide H2).2.2.2.1.lt
  refine gen_world (fun q => Bst w q B sl n w.heap.size w2.heap.size u1 none z1 0 L0 []) ?_ ?_
  · obtain ⟨g1, g2, g3, g4, g5⟩ := unhide H2
    have hbA := (Below.refl w2.heap.size w2).alloc (Nat.le_refl _) (.cells #[.slice u1 L0.length z1, .slice none 0 0] 29)
    exact ⟨(hbA.block _ hl2).trans g1, heap_alloc_new w2 _, g2.below hbA rfl, Or.inl ⟨rfl, rfl⟩, g3, hbl.1, hbl.2, g4.same (hbA.block _ hBl), g5.alloc _⟩
  intro q1 hq1
  have HQ := hide hq1
  have hrb : w.heap.size < w2.heap.size := hl2
  generalize w2.heap.size = bb at *
  clear hq1 H2 hl2 hbl
  go_wp2_with fail
  refine (src_n _ B sl n 14 (by decide) hn (unhide HQ).s (unhide DB _ (unhide HQ).g)).mono ?_
  rintro e w3 ⟨r3, rfl, hr3, hS3, ht3⟩
  have hr3' : r3 ≤ 13 := by omega
  have H3 := hide ((unhide HQ).nigh (Nigh.of_touch ht3) hS3 hBw (by omega) (by omega))
  clear hS3 ht3 HQ hr3
  have CNN : Hid (∀ z, Src z B sl n → Dat z B sl n → Calls Try.prog 29 #[.pointer (some ⟨B, 0, none⟩), .int .i64 (1 + (r1 : Int))] z fun e w' => ∃ r : Nat, e = .returned (.int .i64 r) ∧ (r < 1 + r1 ∨ r = 0) ∧ Src w' B sl n ∧ Touch B z w') := hide fun z h1 h2 => by
    have h := src_n z B sl n (1 + r1) (by omega) hn h1 h2
    rwa [show (((1 + r1 : Nat)) : Int) = 1 + (r1 : Int) by omega] at h
  go_wp2_with fail
  go_loopw [5, 6] (fun sv kv wr => ∃ (z k : Nat) (la pa : Option Addr) (lc pc : Nat) (L : List Int) (P : List Fg), sv = .int .i64 z ∧ kv = .int .i64 k ∧ z + 2 * k ≤ 28 ∧ P.length ≤ 40 ∧ Bst w wr B sl n w.heap.size bb la pa lc pc L P) (fun _ kv _ => (intOf kv).toNat)
  case atStart => exact ⟨0, r3, u1, none, z1, 0, L0, [], rfl, rfl, by omega, Nat.zero_le _, unhide H3⟩
  case round =>
    obtain ⟨z, k, la, pa, lc, pc, L, P, rfl, rfl, hzk, hP40, hbs⟩ := hrel
    have E0 := hide hbs
    clear hbs H3
    by_cases hk0 : 0 < k
    · have dk : (0 : Int) < (k : Int) := by omega
      have hz28 : (z : Int) ≤ 28 := by omega
      go_wp2_with fail
      refine (src_n _ B sl n 3 (by decide) hn (unhide E0).s (unhide DB _ (unhide E0).g)).mono ?_
      rintro e w7 ⟨r7, rfl, hr7, hS7, ht7⟩
      have hr7' : r7 ≤ 2 := by omega
      have hz7 : 0 ≤ (z : Int) + (r7 : Int) ∧ (z : Int) + (r7 : Int) ≤ 30 := by omega
      have E1 := hide ((unhide E0).nigh (Nigh.of_touch ht7) hS7 hBw (by omega) (by omega))
      clear hS7 ht7 E0 hr7
      go_wp2_with fail
      refine (src_frag _ B sl n hn (unhide E1).s (unhide DB _ (unhide E1).g)).mono ?_
      rintro e w8 ⟨f, rfl, hft, hS8, hn8⟩
      obtain ⟨f1, bx, bf, tx⟩ := f
      unfold fgV
      dsimp only at hft ⊢
      have E11 := hide ((unhide E1).nigh hn8 hS8 hBw (by omega) (by omega))
      clear hS8 hn8 E1
      go_upto_region 9 with fail
      refine gen_world (fun q => Bf w q B sl n w.heap.size bb la pa lc pc L P w8.heap.size ⟨f1, bx, bf, tx⟩) ?_ ?_
      · have hbA := (Below.refl w8.heap.size w8).alloc (Nat.le_refl _) (.cells #[.int .i64 f1, .bool bx, .bool bf, .string tx] 33)
        exact ⟨(unhide E11).below hbA hBw (by omega) (by omega), heap_alloc_new w8 _⟩
      intro q2 hq2
      have E12 := hide hq2
      have HPF : Hid (∀ g, (Value.slice pa P.length pc).ownBlock = some g → g ≠ w8.heap.size) := hide fun g hg e => by
        have := (unhide E11).hp.lt g hg
        omega
      have hfb := (unhide E11).g.size
      generalize w8.heap.size = fb at *
      clear hq2 E11
      have kf := (row4g (unhide E12).2).1
      have ff := frz (unhide E12).2 0
      go_upto_region 10 with fail
      refine gen_world (fun q => Bf w q B sl n w.heap.size bb la pa lc pc L P fb ⟨(z : Int) + (r7 : Int), bx, bf, tx⟩) ?_ ?_
      · refine ⟨(unhide E12).1.far (unhide E12).2 (by decide) (by decide) (by decide) hfb (unhide HPF), ?_⟩
        rw [heap_setCell_same _ _ 0 _ _ _ (unhide E12).2]
        rfl
      clear kf ff
      intro q3 hq3
      have E2 := hide hq3
      clear hq3 E12
      have SY : Hid (∀ y9, Bf w y9 B sl n w.heap.size bb la pa lc pc L P fb ⟨(z : Int) + (r7 : Int), bx, bf, tx⟩ → (y9.cell? ⟨bb, 0, none⟩ = some (.slice la L.length lc) ∧ y9.cell? ⟨bb, 1, none⟩ = some (.slice pa P.length pc) ∧ y9.cell? ⟨fb, 0, none⟩ = some (.int .i64 ((z : Int) + (r7 : Int))) ∧ y9.cell? ⟨fb, 1, none⟩ = some (.bool bx) ∧ y9.cell? ⟨fb, 2, none⟩ = some (.bool bf) ∧ y9.cell? ⟨fb, 3, none⟩ = some (.string tx))) := hide fun y9 hz => by
        obtain ⟨m0, m1⟩ := row2b hz.1.b
        obtain ⟨k0, k1, k2, k3⟩ := row4g hz.2
        exact ⟨m0, m1, k0, k1, k2, k3⟩
      have CH := hide fun (lk : Int) z' hz h1 h2 => sHear9 la pa lc pc L P lk ⟨(z : Int) + (r7 : Int), bx, bf, tx⟩ z' w.heap.size hz (by have := (unhide E2).1.l8; omega) (by omega) h1 h2
      unfold fgV at CH
      dsimp only at CH
      go_upto_region 10 with fail
      go_cut [8] (fun v wx => ∃ (M : Nat) (oL : List Int) (oF : List Fg) (oG : List ByteArray) (ol : Nat) (oc : Int) (b1 b2 ga : Option Addr) (d1 d2 gc : Nat), v = .pointer (some ⟨M, 0, none⟩) ∧ Bst w wx B sl n w.heap.size bb la pa lc pc L P ∧ wx.heap[M]? = some (.cells #[.slice b1 oL.length d1, .slice b2 oF.length d2, .slice ga oG.length gc, .int .i64 (ol : Int), .int .i64 oc] 37) ∧ HoldsI wx (.slice b1 oL.length d1) oL ∧ HoldsP wx w.heap.size (.slice b2 oF.length d2) oF ∧ (∀ g, (Value.slice b1 oL.length d1).ownBlock = some g → w.heap.size ≤ g) ∧ (oc = 0 → oL.length = L.length ∧ oF.length ≤ 40))
      case first =>
        have E3 := hide ((unhide E2).below ((Below.refl _ _).drew) hBw (by omega) (by omega))
        refine wp_region_held_drew (S := fun y9 => y9.cell? ⟨bb, 0, none⟩ = some (.slice la L.length lc) ∧ y9.cell? ⟨bb, 1, none⟩ = some (.slice pa P.length pc) ∧ y9.cell? ⟨fb, 0, none⟩ = some (.int .i64 ((z : Int) + (r7 : Int))) ∧ y9.cell? ⟨fb, 1, none⟩ = some (.bool bx) ∧ y9.cell? ⟨fb, 2, none⟩ = some (.bool bf) ∧ y9.cell? ⟨fb, 3, none⟩ = some (.string tx)) (by kernel_rfl) (unhide SY _ (unhide E3)) (fun hHeld => ?_)
        generalize q3.drew = yy at E3 hHeld ⊢
        refine wpAnyH_take (i := 0) (v := ?vb1_0) rfl (by kernel_rfl) (by kernel_rfl) (by kernel_rfl) (fun _ _ _ h => h) (Or.inl ⟨by rfl, ?hyb1_0⟩) (by assumption) ?_
        case hyb1_0 =>
          intro w hSw
          try dsimp only at hSw
          go_simp
          try with_reducible rfl
        try simp only [Act.put, List.setIfInBounds_toArray, List.set_cons_zero, List.set_cons_succ, List.getElem_toArray, List.getElem_cons_zero]
        refine wpAnyH_take (i := 1) (v := ?vb2_1) rfl (by kernel_rfl) (by kernel_rfl) (by kernel_rfl) (fun _ _ _ h => h) (Or.inl ⟨by rfl, ?hyb2_1⟩) (by assumption) ?_
        case hyb2_1 =>
          intro w hSw
          try dsimp only at hSw
          go_simp
          try with_reducible rfl
        try simp only [Act.put, List.setIfInBounds_toArray, List.set_cons_zero, List.set_cons_succ, List.getElem_toArray, List.getElem_cons_zero, List.getElem_cons_succ]
        refine wpAnyH_take (i := 2) (v := ?vb3_2) rfl (by kernel_rfl) (by kernel_rfl) (by kernel_rfl) (fun _ _ _ h => h) (Or.inl ⟨by rfl, ?hyb3_2⟩) (by assumption) ?_
        case hyb3_2 =>
          intro w hSw
          try dsimp only at hSw
          go_simp
          try with_reducible rfl
        try simp only [Act.put, List.setIfInBounds_toArray, List.set_cons_zero, List.set_cons_succ, List.getElem_toArray, List.getElem_cons_zero, List.getElem_cons_succ]
        refine wpAnyH_take (i := 4) (v := ?vb4_4) rfl (by kernel_rfl) (by kernel_rfl) (by kernel_rfl) (fun _ _ _ h => h) (Or.inl ⟨by rfl, ?hyb4_4⟩) (by assumption) ?_
        case hyb4_4 =>
          intro w hSw
          try dsimp only at hSw
          go_simp
          try with_reducible rfl
        try simp only [Act.put, List.setIfInBounds_toArray, List.set_cons_zero, List.set_cons_succ, List.getElem_toArray, List.getElem_cons_zero, List.getElem_cons_succ]
        refine wpAnyH_ready (rs := [3, 6]) (by kernel_rfl) (by simp) ?_
        refine AllReadyH.cons rfl (fun K hK => ?_) (AllReadyH.cons rfl (fun K hK => ?_) (AllReadyH.nil))
        · go_simp
          refine (unhide CNN _ (unhide E3).1.s (unhide DB _ (unhide E3).1.g)).mono ?_
          rintro e z31 ⟨lk, rfl, _, hs31, ht31⟩
          have E31 := hide ((unhide E3).nigh (Nigh.of_touch ht31) hs31 hBw (by omega) (by omega) (by omega))
          clear hs31 ht31
          go_wp2_with fail
          refine hK.out _ _ (unhide SY _ (unhide E31)) (fun _ => ?_)
          clear hK K
          try simp only [Act.put, List.setIfInBounds_toArray, List.set_cons_zero, List.set_cons_succ, List.getElem_toArray, List.getElem_cons_zero, List.getElem_cons_succ]
          refine wpAnyH_ready (rs := [5, 6]) (by kernel_rfl) (by simp) ?_
          refine AllReadyH.cons rfl (fun K hK => ?_) (AllReadyH.cons rfl (fun K hK => ?_) (AllReadyH.nil))
          · go_simp
            refine (unhide CH _ _ (unhide E31).1.g.size (unhide E31).1.hl (unhide E31).1.hp).mono ?_
            rintro e z32 ⟨oL, oF, oG, ol, oc, b1, b2, ga, d1, d2, gc, rfl, k1, k2, k3, k4, hb32⟩
            have E32 := hide ((unhide E31).below hb32 hBw (by omega) (by omega))
            have A32 := hide (And.intro k1 (And.intro k2 (And.intro k3 k4)))
            clear hb32 k1 k2 k3 k4
            go_wp2_with fail
            refine hK.out _ _ (unhide SY _ (unhide E32)) (fun _ => ?_)
            clear hK K
            try simp only [Act.put, List.setIfInBounds_toArray, List.set_cons_zero, List.set_cons_succ, List.getElem_toArray, List.getElem_cons_zero, List.getElem_cons_succ]
            refine wpAnyH_ready (rs := [6]) (by kernel_rfl) (by simp) ?_
            refine AllReadyH.cons rfl (fun K hK => ?_) (AllReadyH.nil)
            have hb33 : Below z32.heap.size z32 (z32.alloc (.cells #[.slice none 0 0, .slice none 0 0, .slice none 0 0, .int .i64 0, .int .i64 0] 37)) := (Below.refl _ _).alloc (Nat.le_refl _) _
            have E33 := hide ((unhide E32).below hb33 hBw (by omega) (by omega))
            have M33 := hide (heap_alloc_new z32 (.cells #[.slice none 0 0, .slice none 0 0, .slice none 0 0, .int .i64 0, .int .i64 0] 37))
            have L33 : Hid (w.heap.size ≤ z32.heap.size) := hide (unhide E32).1.g.size
            have A33 := hide (And.intro ((unhide A32).1.below hb33 rfl) (And.intro ((unhide A32).2.1.keep fun g _ hg _ _ => hb33.block g hg) (unhide A32).2.2))
            clear hb33
            go_simp
            refine hK.out _ _ (unhide SY _ (unhide E33)) (fun _ => ?_)
            clear hK K
            try simp only [Act.put, List.setIfInBounds_toArray, List.set_cons_zero, List.set_cons_succ, List.getElem_toArray, List.getElem_cons_zero, List.getElem_cons_succ]
            generalize z32.heap.size = N33 at A33 M33 L33 ⊢
            generalize (z32.alloc (.cells #[.slice none 0 0, .slice none 0 0, .slice none 0 0, .int .i64 0, .int .i64 0] 37)) = q33 at E33 A33 M33 ⊢
            have hS33 := unhide SY _ (unhide E33)
            refine wpAnyH_ready (rs := [7]) (by kernel_rfl) (by simp) ?_
            refine AllReadyH.cons rfl (fun K hK => ?_) (AllReadyH.nil)
            obtain ⟨r0, r1', r2, r3', r4⟩ := row5b (unhide M33)
            have f0 := frz (unhide M33) 0
            have f1 := frz (unhide M33) 1
            have f2 := frz (unhide M33) 2
            have f3 := frz (unhide M33) 3
            have f4 := frz (unhide M33) 4
            have ZF := hide (And.intro ((unhide E33).far5 (.slice b1 oL.length d1) (.slice b2 oF.length d2) (.slice ga oG.length gc) (.int .i64 (ol : Int)) (.int .i64 oc) (unhide M33) (unhide L33)) (And.intro (set5_bo (unhide M33) (.slice b1 oL.length d1) (.slice b2 oF.length d2) (.slice ga oG.length gc) (.int .i64 (ol : Int)) (.int .i64 oc)) (And.intro ((unhide A33).1.far5 (unhide M33) (.slice b1 oL.length d1) (.slice b2 oF.length d2) (.slice ga oG.length gc) (.int .i64 (ol : Int)) (.int .i64 oc)) (And.intro ((unhide A33).2.1.far5 (unhide M33) (.slice b1 oL.length d1) (.slice b2 oF.length d2) (.slice ga oG.length gc) (.int .i64 (ol : Int)) (.int .i64 oc)) (unhide A33).2.2))))
            go_simp
            clear r0 r1' r2 r3' r4 f0 f1 f2 f3 f4
            refine hK.out _ _ (unhide SY _ (unhide ZF).1) (fun _ => ?_)
            clear hK K
            try simp only [Act.put, List.setIfInBounds_toArray, List.set_cons_zero, List.set_cons_succ, List.getElem_toArray, List.getElem_cons_zero, List.getElem_cons_succ]
            refine wpAnyH_done (by kernel_rfl) ?_ _
            go_wp2_with fail
            go_meet
            exact ⟨_, oL, oF, oG, ol, oc, b1, b2, ga, d1, d2, gc, rfl, (unhide ZF).1.1, (unhide ZF).2⟩
          · have hb32 : Below z31.heap.size z31 (z31.alloc (.cells #[.slice none 0 0, .slice none 0 0, .slice none 0 0, .int .i64 0, .int .i64 0] 37)) := (Below.refl _ _).alloc (Nat.le_refl _) _
            have E32 := hide ((unhide E31).below hb32 hBw (by omega) (by omega))
            have M32 := hide (heap_alloc_new z31 (.cells #[.slice none 0 0, .slice none 0 0, .slice none 0 0, .int .i64 0, .int .i64 0] 37))
            have L32 : Hid (w.heap.size ≤ z31.heap.size) := hide (unhide E31).1.g.size
            clear hb32
            go_simp
            refine hK.out _ _ (unhide SY _ (unhide E32)) (fun _ => ?_)
            clear hK K
            try simp only [Act.put, List.setIfInBounds_toArray, List.set_cons_zero, List.set_cons_succ, List.getElem_toArray, List.getElem_cons_zero, List.getElem_cons_succ]
            generalize z31.heap.size = N32 at M32 L32 ⊢
            generalize (z31.alloc (.cells #[.slice none 0 0, .slice none 0 0, .slice none 0 0, .int .i64 0, .int .i64 0] 37)) = q32 at E32 M32 ⊢
            have hS32 := unhide SY _ (unhide E32)
            refine wpAnyH_ready (rs := [5]) (by kernel_rfl) (by simp) ?_
            refine AllReadyH.cons rfl (fun K hK => ?_) (AllReadyH.nil)
            go_simp
            refine (unhide CH _ _ (unhide E32).1.g.size (unhide E32).1.hl (unhide E32).1.hp).mono ?_
            rintro e z33 ⟨oL, oF, oG, ol, oc, b1, b2, ga, d1, d2, gc, rfl, k1, k2, k3, k4, hb33⟩
            have E33 := hide ((unhide E32).below hb33 hBw (by omega) (by omega))
            have A33 := hide (And.intro k1 (And.intro k2 (And.intro k3 k4)))
            have M33 := hide ((hb33.block _ (Array.getElem?_eq_some_iff.1 (unhide M32)).1).trans (unhide M32))
            clear hb33 k1 k2 k3 k4
            go_wp2_with fail
            refine hK.out _ _ (unhide SY _ (unhide E33)) (fun _ => ?_)
            clear hK K
            try simp only [Act.put, List.setIfInBounds_toArray, List.set_cons_zero, List.set_cons_succ, List.getElem_toArray, List.getElem_cons_zero, List.getElem_cons_succ]
            refine wpAnyH_ready (rs := [7]) (by kernel_rfl) (by simp) ?_
            refine AllReadyH.cons rfl (fun K hK => ?_) (AllReadyH.nil)
            obtain ⟨r0, r1', r2, r3', r4⟩ := row5b (unhide M33)
            have f0 := frz (unhide M33) 0
            have f1 := frz (unhide M33) 1
            have f2 := frz (unhide M33) 2
            have f3 := frz (unhide M33) 3
            have f4 := frz (unhide M33) 4
            have ZF := hide (And.intro ((unhide E33).far5 (.slice b1 oL.length d1) (.slice b2 oF.length d2) (.slice ga oG.length gc) (.int .i64 (ol : Int)) (.int .i64 oc) (unhide M33) (unhide L32)) (And.intro (set5_bo (unhide M33) (.slice b1 oL.length d1) (.slice b2 oF.length d2) (.slice ga oG.length gc) (.int .i64 (ol : Int)) (.int .i64 oc)) (And.intro ((unhide A33).1.far5 (unhide M33) (.slice b1 oL.length d1) (.slice b2 oF.length d2) (.slice ga oG.length gc) (.int .i64 (ol : Int)) (.int .i64 oc)) (And.intro ((unhide A33).2.1.far5 (unhide M33) (.slice b1 oL.length d1) (.slice b2 oF.length d2) (.slice ga oG.length gc) (.int .i64 (ol : Int)) (.int .i64 oc)) (unhide A33).2.2))))
            go_simp
            clear r0 r1' r2 r3' r4 f0 f1 f2 f3 f4
            refine hK.out _ _ (unhide SY _ (unhide ZF).1) (fun _ => ?_)
            clear hK K
            try simp only [Act.put, List.setIfInBounds_toArray, List.set_cons_zero, List.set_cons_succ, List.getElem_toArray, List.getElem_cons_zero, List.getElem_cons_succ]
            refine wpAnyH_done (by kernel_rfl) ?_ _
            go_wp2_with fail
            go_meet
            exact ⟨_, oL, oF, oG, ol, oc, b1, b2, ga, d1, d2, gc, rfl, (unhide ZF).1.1, (unhide ZF).2⟩
        · have hb31 : Below yy.heap.size yy (yy.alloc (.cells #[.slice none 0 0, .slice none 0 0, .slice none 0 0, .int .i64 0, .int .i64 0] 37)) := (Below.refl _ _).alloc (Nat.le_refl _) _
          have E31 := hide ((unhide E3).below hb31 hBw (by omega) (by omega))
          have M31 := hide (heap_alloc_new yy (.cells #[.slice none 0 0, .slice none 0 0, .slice none 0 0, .int .i64 0, .int .i64 0] 37))
          have L31 : Hid (w.heap.size ≤ yy.heap.size) := hide (unhide E3).1.g.size
          clear hb31
          go_simp
          refine hK.out _ _ (unhide SY _ (unhide E31)) (fun _ => ?_)
          clear hK K
          try simp only [Act.put, List.setIfInBounds_toArray, List.set_cons_zero, List.set_cons_succ, List.getElem_toArray, List.getElem_cons_zero, List.getElem_cons_succ]
          generalize yy.heap.size = N31 at M31 L31 ⊢
          generalize (yy.alloc (.cells #[.slice none 0 0, .slice none 0 0, .slice none 0 0, .int .i64 0, .int .i64 0] 37)) = q31 at E31 M31 ⊢
          have hS31 := unhide SY _ (unhide E31)
          refine wpAnyH_ready (rs := [3]) (by kernel_rfl) (by simp) ?_
          refine AllReadyH.cons rfl (fun K hK => ?_) (AllReadyH.nil)
          go_simp
          refine (unhide CNN _ (unhide E31).1.s (unhide DB _ (unhide E31).1.g)).mono ?_
          rintro e z32 ⟨lk, rfl, _, hs32, ht32⟩
          have E32 := hide ((unhide E31).nigh (Nigh.of_touch ht32) hs32 hBw (by omega) (by omega) (by omega))
          have M32 := hide ((ht32.block _ (by have := unhide L31; omega)).trans (unhide M31))
          clear hs32 ht32
          go_wp2_with fail
          refine hK.out _ _ (unhide SY _ (unhide E32)) (fun _ => ?_)
          clear hK K
          try simp only [Act.put, List.setIfInBounds_toArray, List.set_cons_zero, List.set_cons_succ, List.getElem_toArray, List.getElem_cons_zero, List.getElem_cons_succ]
          refine wpAnyH_ready (rs := [5]) (by kernel_rfl) (by simp) ?_
          refine AllReadyH.cons rfl (fun K hK => ?_) (AllReadyH.nil)
          go_simp
          refine (unhide CH _ _ (unhide E32).1.g.size (unhide E32).1.hl (unhide E32).1.hp).mono ?_
          rintro e z33 ⟨oL, oF, oG, ol, oc, b1, b2, ga, d1, d2, gc, rfl, k1, k2, k3, k4, hb33⟩
          have E33 := hide ((unhide E32).below hb33 hBw (by omega) (by omega))
          have A33 := hide (And.intro k1 (And.intro k2 (And.intro k3 k4)))
          have M33 := hide ((hb33.block _ (Array.getElem?_eq_some_iff.1 (unhide M32)).1).trans (unhide M32))
          clear hb33 k1 k2 k3 k4
          go_wp2_with fail
          refine hK.out _ _ (unhide SY _ (unhide E33)) (fun _ => ?_)
          clear hK K
          try simp only [Act.put, List.setIfInBounds_toArray, List.set_cons_zero, List.set_cons_succ, List.getElem_toArray, List.getElem_cons_zero, List.getElem_cons_succ]
          refine wpAnyH_ready (rs := [7]) (by kernel_rfl) (by simp) ?_
          refine AllReadyH.cons rfl (fun K hK => ?_) (AllReadyH.nil)
          obtain ⟨r0, r1', r2, r3', r4⟩ := row5b (unhide M33)
          have f0 := frz (unhide M33) 0
          have f1 := frz (unhide M33) 1
          have f2 := frz (unhide M33) 2
          have f3 := frz (unhide M33) 3
          have f4 := frz (unhide M33) 4
          have ZF := hide (And.intro ((unhide E33).far5 (.slice b1 oL.length d1) (.slice b2 oF.length d2) (.slice ga oG.length gc) (.int .i64 (ol : Int)) (.int .i64 oc) (unhide M33) (unhide L31)) (And.intro (set5_bo (unhide M33) (.slice b1 oL.length d1) (.slice b2 oF.length d2) (.slice ga oG.length gc) (.int .i64 (ol : Int)) (.int .i64 oc)) (And.intro ((unhide A33).1.far5 (unhide M33) (.slice b1 oL.length d1) (.slice b2 oF.length d2) (.slice ga oG.length gc) (.int .i64 (ol : Int)) (.int .i64 oc)) (And.intro ((unhide A33).2.1.far5 (unhide M33) (.slice b1 oL.length d1) (.slice b2 oF.length d2) (.slice ga oG.length gc) (.int .i64 (ol : Int)) (.int .i64 oc)) (unhide A33).2.2))))
          go_simp
          clear r0 r1' r2 r3' r4 f0 f1 f2 f3 f4
          refine hK.out _ _ (unhide SY _ (unhide ZF).1) (fun _ => ?_)
          clear hK K
          try simp only [Act.put, List.setIfInBounds_toArray, List.set_cons_zero, List.set_cons_succ, List.getElem_toArray, List.getElem_cons_zero, List.getElem_cons_succ]
          refine wpAnyH_done (by kernel_rfl) ?_ _
          go_wp2_with fail
          go_meet
          exact ⟨_, oL, oF, oG, ol, oc, b1, b2, ga, d1, d2, gc, rfl, (unhide ZF).1.1, (unhide ZF).2⟩
      case rest =>
        obtain ⟨M, oL, oF, oG, ol, oc, b1, b2, ga, d1, d2, gc, hv, hF⟩ := hcut
        subst hv
        obtain ⟨t0, t1, t2, t3, t4⟩ := row5b hF.2.1
        obtain ⟨m0, m1⟩ := row2b hF.1.b
        have f0 := frz hF.1.b 0
        have f1 := frz hF.1.b 1
        have E4 := hide hF
        clear hF E2 CH SY
        by_cases hoc : oc = 0
        · subst hoc
          have HGD := hide ((unhide E4).2.2.2.2.2 rfl)
          go_wp2_with fail
          go_roundw
          case rel =>
            refine ⟨z + r7, k - 1, b1, b2, d1, d2, oL, oF, by first | rfl | go_num, by go_num, by omega, (unhide HGD).2, ?_⟩
            exact (unhide E4).1.put (by omega) (unhide E4).2.2.1 (unhide E4).2.2.2.1 (unhide E4).2.2.2.2.1 (by have := (unhide E4).1.l1; have := (unhide HGD).1; omega) (by have := (unhide E4).1.l8; have := (unhide HGD).1; omega) (by omega)
          case measure => simp [intOf]; omega
        · have hoc' : (oc == 0) = false := beq_eq_false_iff_ne.2 hoc
          go_wp2_with fail
          go_roundw
          case rel =>
            exact ⟨z + r7, k - 1, la, pa, lc, pc, L, P, by first | rfl | go_num, by go_num, by omega, hP40, (unhide E4).1⟩
          case measure => simp [intOf]; omega

    · have dk : ¬ ((0 : Int) < (k : Int)) := by omega
      clear CNN
      go_wp2_with fail
      refine (src_one _ B sl n 20 (by decide) hn (unhide E0).s (unhide DB _ (unhide E0).g)).mono ?_
      rintro e w4 ⟨b4, rfl, hS4, ht4⟩
      have F1 := hide ((unhide E0).nigh (Nigh.of_touch ht4) hS4 hBw (by omega) (by omega))
      clear hS4 ht4 E0 hzk
      cases b4
      · obtain ⟨m0, m1⟩ := row2b (unhide F1).b
        obtain ⟨k0, k1⟩ := row2b (unhide F1).r
        have f0 := frz (unhide F1).r 0
        have f1 := frz (unhide F1).r 1
        go_wp2
        refine bodyPost_ret (v := .agg #[.slice la L.length lc, .slice pa P.length pc]) (by simp [results, Try.results52, asAddr, loadB (set2_bd (unhide F1).r (.slice la L.length lc) (.slice pa P.length pc))]) rfl ?_
        exact ⟨la, pa, lc, pc, L, P, rfl, (unhide F1).done (Nat.le_refl _) (by omega)⟩
      · go_wp2_with fail
        refine (src_n _ B sl n 3 (by decide) hn (unhide F1).s (unhide DB _ (unhide F1).g)).mono ?_
        rintro e w5 ⟨r5, rfl, hr5, hS5, ht5⟩
        have F2 := hide ((unhide F1).nigh (Nigh.of_touch ht5) hS5 hBw (by omega) (by omega))
        clear hS5 ht5 F1
        have h5 : r5 = 0 ∨ r5 = 1 ∨ r5 = 2 := by omega
        rcases h5 with rfl | rfl | rfl
        · obtain ⟨g, eg⟩ : ∃ g, la = some ⟨g, 0, none⟩ := by
            rcases (unhide F2).hl with ⟨ad, cp, e, e0⟩ | ⟨g, cp, cur, e, _⟩
            · have := (unhide F2).l1
              rw [e0] at this
              exact absurd this (by decide)
            · injection e with e _ _
              exact ⟨g, e⟩
          subst eg
          have hl0 : 0 < L.length := by have := (unhide F2).l1; omega
          have GI : Hid (∀ y9, Bst w y9 B sl n w.heap.size bb (some ⟨g, 0, none⟩) pa lc pc L P → ∃ cur, y9.heap[g]? = some (.cells cur 2) ∧ 0 < cur.size) := hide fun y9 hz => by
            rcases hz.hl with ⟨ad, cp, e, e0⟩ | ⟨g', cp, cur, e, q1, q2, _⟩
            · have := hz.l1
              rw [e0] at this
              exact absurd this (by decide)
            · cases e
              exact ⟨cur, q1, by have := hz.l1; omega⟩
          have SY : Hid (∀ y9, Bst w y9 B sl n w.heap.size bb (some ⟨g, 0, none⟩) pa lc pc L P → y9.cell? ⟨bb, 0, none⟩ = some (.slice (some ⟨g, 0, none⟩) L.length lc)) := hide fun y9 hz => (row2b hz.b).1
          go_upto_region 20 with fail
          have F3 := hide ((unhide F2).below ((Below.refl _ _).drew) hBw (by omega) (by omega))
          refine wp_region_held_drew (S := fun y9 => y9.cell? ⟨bb, 0, none⟩ = some (.slice (some ⟨g, 0, none⟩) L.length lc)) (by kernel_rfl) (unhide SY _ (unhide F3)) (fun hHeld => ?_)
          generalize w5.drew = yy at F3 hHeld ⊢
          refine wpAnyH_take (i := 0) (v := ?vd1_0) rfl (by kernel_rfl) (by kernel_rfl) (by kernel_rfl) (fun _ _ _ h => h) (Or.inl ⟨by rfl, ?hyd1_0⟩) (by assumption) ?_
          case hyd1_0 =>
            intro w hSw
            try dsimp only at hSw
            go_simp
            try with_reducible rfl
          try simp only [Act.put, List.setIfInBounds_toArray, List.set_cons_zero, List.set_cons_succ, List.getElem_toArray, List.getElem_cons_zero]
          refine wpAnyH_take (i := 1) (v := ?vd2_1) rfl (by kernel_rfl) (by kernel_rfl) (by kernel_rfl) (fun _ _ _ h => h) (Or.inl ⟨by rfl, ?hyd2_1⟩) (by assumption) ?_
          case hyd2_1 =>
            intro w hSw
            try dsimp only at hSw
            go_simp
            try with_reducible rfl
          try simp only [Act.put, List.setIfInBounds_toArray, List.set_cons_zero, List.set_cons_succ, List.getElem_toArray, List.getElem_cons_zero, List.getElem_cons_succ]
          refine wpAnyH_take (i := 3) (v := ?vd3_3) rfl (by kernel_rfl) (by kernel_rfl) (by kernel_rfl) (fun _ _ _ h => h) (Or.inl ⟨by rfl, ?hyd3_3⟩) (by assumption) ?_
          case hyd3_3 =>
            intro w hSw
            try dsimp only at hSw
            go_simp
            try with_reducible rfl
          try simp only [Act.put, List.setIfInBounds_toArray, List.set_cons_zero, List.set_cons_succ, List.getElem_toArray, List.getElem_cons_zero, List.getElem_cons_succ]
          refine wpAnyH_ready (rs := [2, 4]) (by kernel_rfl) (by simp) ?_
          refine AllReadyH.cons rfl (fun K hK => ?_) (AllReadyH.cons rfl (fun K hK => ?_) (AllReadyH.nil))
          · have hb71 : Below yy.heap.size yy (yy.alloc (.cells #[.int .i64 (-2), .int .i64 16777216] 2)) := (Below.refl _ _).alloc (Nat.le_refl _) _
            have E71 := hide ((unhide F3).below hb71 hBw (by omega) (by omega))
            have M71 := hide (heap_alloc_new yy (.cells #[.int .i64 (-2), .int .i64 16777216] 2))
            have L71 : Hid (w.heap.size ≤ yy.heap.size) := hide (unhide F3).g.size
            clear hb71
            go_simp
            refine hK.out _ _ (unhide SY _ (unhide E71)) (fun _ => ?_)
            clear hK K
            try simp only [Act.put, List.setIfInBounds_toArray, List.set_cons_zero, List.set_cons_succ, List.getElem_toArray, List.getElem_cons_zero, List.getElem_cons_succ]
            generalize yy.heap.size = N71 at M71 L71 ⊢
            generalize (yy.alloc (.cells #[.int .i64 (-2), .int .i64 16777216] 2)) = q71 at E71 M71 ⊢
            have hS71 := unhide SY _ (unhide E71)
            refine wpAnyH_ready (rs := [4]) (by kernel_rfl) (by simp) ?_
            refine AllReadyH.cons rfl (fun K hK => ?_) (AllReadyH.nil)
            go_simp
            refine (src_n _ B sl n 2 (by decide) hn (unhide E71).s (unhide DB _ (unhide E71).g)).mono ?_
            rintro e z72 ⟨rx, rfl, hrx, hs72, ht72⟩
            have hrx2 : rx < 2 := by omega
            have hrx3 : (rx : Int) < 2 := by omega
            have E72 := hide ((unhide E71).nigh (Nigh.of_touch ht72) hs72 hBw (by omega) (by omega))
            have M72 := hide ((ht72.block _ (by have := unhide L71; omega)).trans (unhide M71))
            clear hs72 ht72 hrx
            go_wp2_with fail
            refine hK.out _ _ (unhide SY _ (unhide E72)) (fun _ => ?_)
            clear hK K
            try simp only [Act.put, List.setIfInBounds_toArray, List.set_cons_zero, List.set_cons_succ, List.getElem_toArray, List.getElem_cons_zero, List.getElem_cons_succ]
            refine wpAnyH_take (i := 5) (v := ?vd4_5) rfl (by kernel_rfl) (by kernel_rfl) (by kernel_rfl) (fun _ _ _ h => h) (Or.inl ⟨by rfl, ?hyd4_5⟩) (by assumption) ?_
            case hyd4_5 =>
              intro w hSw
              try dsimp only at hSw
              go_simp
              try with_reducible rfl
            try simp only [Act.put, List.setIfInBounds_toArray, List.set_cons_zero, List.set_cons_succ, List.getElem_toArray, List.getElem_cons_zero, List.getElem_cons_succ]
            refine wpAnyH_ready (rs := [6]) (by kernel_rfl) (by simp) ?_
            refine AllReadyH.cons rfl (fun K hK => ?_) (AllReadyH.nil)
            obtain ⟨x9, hx9⟩ : ∃ x9 : Int, z72.cell? ⟨N71, rx, none⟩ = some (.int .i64 x9) := by
              have hc := cell_of_row _ _ rx _ _ _ (unhide M72)
              have h2 : rx = 0 ∨ rx = 1 := by omega
              rcases h2 with rfl | rfl
              · exact ⟨-2, hc.trans rfl⟩
              · exact ⟨16777216, hc.trans rfl⟩
            go_simp
            refine hK.out _ _ (unhide SY _ (unhide E72)) (fun _ => ?_)
            clear hK K hx9
            try simp only [Act.put, List.setIfInBounds_toArray, List.set_cons_zero, List.set_cons_succ, List.getElem_toArray, List.getElem_cons_zero, List.getElem_cons_succ]
            refine wpAnyH_take (i := 7) (v := ?vd5_7) rfl (by kernel_rfl) (by kernel_rfl) (by kernel_rfl) (fun _ _ _ h => h) (Or.inl ⟨by rfl, ?hyd5_7⟩) (by assumption) ?_
            case hyd5_7 =>
              intro w hSw
              try dsimp only at hSw
              go_simp
              try with_reducible rfl
            try simp only [Act.put, List.setIfInBounds_toArray, List.set_cons_zero, List.set_cons_succ, List.getElem_toArray, List.getElem_cons_zero, List.getElem_cons_succ]
            refine wpAnyH_ready (rs := [8]) (by kernel_rfl) (by simp) ?_
            refine AllReadyH.cons rfl (fun K hK => ?_) (AllReadyH.nil)
            obtain ⟨cu, hg9, hz9⟩ := unhide GI _ (unhide E72)
            have c9 : z72.cell? ⟨g, 0, none⟩ = some (cu[0]'hz9) := by rw [cell_of_row _ _ _ _ _ _ hg9]; exact Array.getElem?_eq_getElem hz9
            have fz9 := frz hg9 0
            have ZF := hide ((unhide E72).setL x9)
            go_simp
            clear c9 fz9 hg9 hz9
            refine hK.out _ _ ?_ (fun _ => ?_)
            · have hb9 := (unhide ZF).b
              rw [List.length_set] at hb9
              exact (row2b hb9).1
            clear hK K
            try simp only [Act.put, List.setIfInBounds_toArray, List.set_cons_zero, List.set_cons_succ, List.getElem_toArray, List.getElem_cons_zero, List.getElem_cons_succ]
            refine wpAnyH_done (by kernel_rfl) ?_ _
            go_upto_region 23 with fail
            obtain ⟨L9, hL9⟩ : ∃ L9, L.set 0 x9 = L9 := ⟨_, rfl⟩
            have hlen9 : L9.length = L.length := by rw [← hL9, List.length_set]
            rw [hL9] at ZF
            generalize z72.setCell ⟨g, 0, none⟩ (.int .i64 x9) = y8 at ZF ⊢
            clear hlen9 hL9
            obtain ⟨m0, m1⟩ := row2b (unhide ZF).b
            obtain ⟨k0, k1⟩ := row2b (unhide ZF).r
            have f0 := frz (unhide ZF).r 0
            have f1 := frz (unhide ZF).r 1
            go_wp2
            refine bodyPost_ret (v := .agg #[.slice (some ⟨g, 0, none⟩) L9.length lc, .slice pa P.length pc]) (by simp [results, Try.results52, asAddr, loadB (set2_bd (unhide ZF).r (.slice (some ⟨g, 0, none⟩) L9.length lc) (.slice pa P.length pc))]) rfl ?_
            exact ⟨(some ⟨g, 0, none⟩), pa, lc, pc, L9, P, rfl, (unhide ZF).done (Nat.le_refl _) (by omega)⟩
          · go_simp
            refine (src_n _ B sl n 2 (by decide) hn (unhide F3).s (unhide DB _ (unhide F3).g)).mono ?_
            rintro e z71 ⟨rx, rfl, hrx, hs71, ht71⟩
            have hrx2 : rx < 2 := by omega
            have hrx3 : (rx : Int) < 2 := by omega
            have E71 := hide ((unhide F3).nigh (Nigh.of_touch ht71) hs71 hBw (by omega) (by omega))
            clear hs71 ht71 hrx
            go_wp2_with fail
            refine hK.out _ _ (unhide SY _ (unhide E71)) (fun _ => ?_)
            clear hK K
            try simp only [Act.put, List.setIfInBounds_toArray, List.set_cons_zero, List.set_cons_succ, List.getElem_toArray, List.getElem_cons_zero, List.getElem_cons_succ]
            refine wpAnyH_ready (rs := [2]) (by kernel_rfl) (by simp) ?_
            refine AllReadyH.cons rfl (fun K hK => ?_) (AllReadyH.nil)
            have hb72 : Below z71.heap.size z71 (z71.alloc (.cells #[.int .i64 (-2), .int .i64 16777216] 2)) := (Below.refl _ _).alloc (Nat.le_refl _) _
            have E72 := hide ((unhide E71).below hb72 hBw (by omega) (by omega))
            have M72 := hide (heap_alloc_new z71 (.cells #[.int .i64 (-2), .int .i64 16777216] 2))
            have L72 : Hid (w.heap.size ≤ z71.heap.size) := hide (unhide E71).g.size
            clear hb72
            go_simp
            refine hK.out _ _ (unhide SY _ (unhide E72)) (fun _ => ?_)
            clear hK K
            try simp only [Act.put, List.setIfInBounds_toArray, List.set_cons_zero, List.set_cons_succ, List.getElem_toArray, List.getElem_cons_zero, List.getElem_cons_succ]
            generalize z71.heap.size = N72 at M72 L72 ⊢
            generalize (z71.alloc (.cells #[.int .i64 (-2), .int .i64 16777216] 2)) = q72 at E72 M72 ⊢
            have hS72 := unhide SY _ (unhide E72)
            refine wpAnyH_take (i := 5) (v := ?vd6_5) rfl (by kernel_rfl) (by kernel_rfl) (by kernel_rfl) (fun _ _ _ h => h) (Or.inl ⟨by rfl, ?hyd6_5⟩) (by assumption) ?_
            case hyd6_5 =>
              intro w hSw
              try dsimp only at hSw
              go_simp
              try with_reducible rfl
            try simp only [Act.put, List.setIfInBounds_toArray, List.set_cons_zero, List.set_cons_succ, List.getElem_toArray, List.getElem_cons_zero, List.getElem_cons_succ]
            refine wpAnyH_ready (rs := [6]) (by kernel_rfl) (by simp) ?_
            refine AllReadyH.cons rfl (fun K hK => ?_) (AllReadyH.nil)
            obtain ⟨x9, hx9⟩ : ∃ x9 : Int, q72.cell? ⟨N72, rx, none⟩ = some (.int .i64 x9) := by
              have hc := cell_of_row _ _ rx _ _ _ (unhide M72)
              have h2 : rx = 0 ∨ rx = 1 := by omega
              rcases h2 with rfl | rfl
              · exact ⟨-2, hc.trans rfl⟩
              · exact ⟨16777216, hc.trans rfl⟩
            go_simp
            refine hK.out _ _ (unhide SY _ (unhide E72)) (fun _ => ?_)
            clear hK K hx9
            try simp only [Act.put, List.setIfInBounds_toArray, List.set_cons_zero, List.set_cons_succ, List.getElem_toArray, List.getElem_cons_zero, List.getElem_cons_succ]
            refine wpAnyH_take (i := 7) (v := ?vd7_7) rfl (by kernel_rfl) (by kernel_rfl) (by kernel_rfl) (fun _ _ _ h => h) (Or.inl ⟨by rfl, ?hyd7_7⟩) (by assumption) ?_
            case hyd7_7 =>
              intro w hSw
              try dsimp only at hSw
              go_simp
              try with_reducible rfl
            try simp only [Act.put, List.setIfInBounds_toArray, List.set_cons_zero, List.set_cons_succ, List.getElem_toArray, List.getElem_cons_zero, List.getElem_cons_succ]
            refine wpAnyH_ready (rs := [8]) (by kernel_rfl) (by simp) ?_
            refine AllReadyH.cons rfl (fun K hK => ?_) (AllReadyH.nil)
            obtain ⟨cu, hg9, hz9⟩ := unhide GI _ (unhide E72)
            have c9 : q72.cell? ⟨g, 0, none⟩ = some (cu[0]'hz9) := by rw [cell_of_row _ _ _ _ _ _ hg9]; exact Array.getElem?_eq_getElem hz9
            have fz9 := frz hg9 0
            have ZF := hide ((unhide E72).setL x9)
            go_simp
            clear c9 fz9 hg9 hz9
            refine hK.out _ _ ?_ (fun _ => ?_)
            · have hb9 := (unhide ZF).b
              rw [List.length_set] at hb9
              exact (row2b hb9).1
            clear hK K
            try simp only [Act.put, List.setIfInBounds_toArray, List.set_cons_zero, List.set_cons_succ, List.getElem_toArray, List.getElem_cons_zero, List.getElem_cons_succ]
            refine wpAnyH_done (by kernel_rfl) ?_ _
            go_upto_region 23 with fail
            obtain ⟨L9, hL9⟩ : ∃ L9, L.set 0 x9 = L9 := ⟨_, rfl⟩
            have hlen9 : L9.length = L.length := by rw [← hL9, List.length_set]
            rw [hL9] at ZF
            generalize q72.setCell ⟨g, 0, none⟩ (.int .i64 x9) = y8 at ZF ⊢
            clear hlen9 hL9
            obtain ⟨m0, m1⟩ := row2b (unhide ZF).b
            obtain ⟨k0, k1⟩ := row2b (unhide ZF).r
            have f0 := frz (unhide ZF).r 0
            have f1 := frz (unhide ZF).r 1
            go_wp2
            refine bodyPost_ret (v := .agg #[.slice (some ⟨g, 0, none⟩) L9.length lc, .slice pa P.length pc]) (by simp [results, Try.results52, asAddr, loadB (set2_bd (unhide ZF).r (.slice (some ⟨g, 0, none⟩) L9.length lc) (.slice pa P.length pc))]) rfl ?_
            exact ⟨(some ⟨g, 0, none⟩), pa, lc, pc, L9, P, rfl, (unhide ZF).done (Nat.le_refl _) (by omega)⟩
        · obtain ⟨m0, m1⟩ := row2b (unhide F2).b
          go_upto_region 22 with fail
          have hwP := (unhide F2).g.size
          obtain ⟨P9, hP9⟩ : ∃ P9, P ++ P = P9 := ⟨_, rfl⟩
          have hlen9 : P9.length ≤ 80 := by rw [← hP9, List.length_append]; omega
          have HP9 := hide hP9
          clear hP9
          go_upto_region 23 with (first
            | (at_builtin; refine append_p rfl _ _ rfl w.heap.size (.slice pa P.length pc) (.slice pa P.length pc) P P rfl rfl (unhide F2).hp (unhide F2).hp.f (by omega) (by omega) hwP ?_; rw [unhide HP9]; rintro v9 w9 hp9 hg9; obtain ⟨pa9, pc9, ev9⟩ := hp9.form; subst ev9; have hap := (unhide F2).app hg9 hp9 (by omega) (by omega); have c1 := (row2b hap.1).2; have fz1 := frz hap.1 1; have F9 := hide hap.2; clear hap hp9 hg9))
          generalize w9.setCell ⟨bb, 1, none⟩ (.slice pa9 P9.length pc9) = y8 at F9 ⊢
          clear c1 fz1 m0 m1
          obtain ⟨m0, m1⟩ := row2b (unhide F9).b
          obtain ⟨k0, k1⟩ := row2b (unhide F9).r
          have f0 := frz (unhide F9).r 0
          have f1 := frz (unhide F9).r 1
          go_wp2
          refine bodyPost_ret (v := .agg #[.slice la L.length lc, .slice pa9 P9.length pc9]) (by simp [results, Try.results52, asAddr, loadB (set2_bd (unhide F9).r (.slice la L.length lc) (.slice pa9 P9.length pc9))]) rfl ?_
          exact ⟨la, pa9, lc, pc9, L, P9, rfl, (unhide F9).done (Nat.le_refl _) (by omega)⟩
        · go_upto_region 16 with fail
          go_loopw [9] (fun iv wr => ∃ (i : Nat) (pa : Option Addr) (pc : Nat) (P : List Fg), iv = .int .i64 i ∧ i ≤ 100 + 2 * P.length ∧ P.length ≤ 41 ∧ Bst w wr B sl n w.heap.size bb la pa lc pc L P) (fun iv _ => 200 - (intOf iv).toNat)
          case atStart => exact ⟨100, pa, pc, P, rfl, by omega, by omega, unhide F2⟩
          case round =>
            obtain ⟨i, pa, pc, P, rfl, hiP, hP41, hbs⟩ := hrel
            have F3 := hide hbs
            have SY : Hid (∀ y9, Bst w y9 B sl n w.heap.size bb la pa lc pc L P → y9.cell? ⟨bb, 1, none⟩ = some (.slice pa P.length pc)) := hide fun y9 hz => (row2b hz.b).2
            clear hbs F2
            have hPl3 : (P.length : Int) ≤ 41 := by omega
            go_upto_region 16 with fail
            go_cut [50] (fun v wx => ∃ ry : Nat, ry ≤ 2 ∧ v = .bool (decide ((P.length : Int) < 39 + (ry : Int))) ∧ Bst w wx B sl n w.heap.size bb la pa lc pc L P)
            case first =>
              have F4 := hide ((unhide F3).below ((Below.refl _ _).drew) hBw (by omega) (by omega))
              refine wp_region_held_drew (S := fun y9 => y9.cell? ⟨bb, 1, none⟩ = some (.slice pa P.length pc)) (by kernel_rfl) (unhide SY _ (unhide F4)) (fun hHeld => ?_)
              generalize wr.drew = yy at F4 hHeld ⊢
              refine wpAnyH_take (i := 0) (v := ?ve1_0) rfl (by kernel_rfl) (by kernel_rfl) (by kernel_rfl) (fun _ _ _ h => h) (Or.inl ⟨by rfl, ?hye1_0⟩) (by assumption) ?_
              case hye1_0 =>
                intro w hSw
                try dsimp only at hSw
                go_simp
                try with_reducible rfl
              try simp only [Act.put, List.setIfInBounds_toArray, List.set_cons_zero, List.set_cons_succ, List.getElem_toArray, List.getElem_cons_zero]
              refine wpAnyH_take (i := 1) (v := ?ve2_1) rfl (by kernel_rfl) (by kernel_rfl) (by kernel_rfl) (fun _ _ _ h => h) (Or.inl ⟨by rfl, ?hye2_1⟩) (by assumption) ?_
              case hye2_1 =>
                intro w hSw
                try dsimp only at hSw
                go_simp
                try with_reducible rfl
              try simp only [Act.put, List.setIfInBounds_toArray, List.set_cons_zero, List.set_cons_succ, List.getElem_toArray, List.getElem_cons_zero, List.getElem_cons_succ]
              refine wpAnyH_take (i := 2) (v := ?ve3_2) rfl (by kernel_rfl) (by kernel_rfl) (by kernel_rfl) (fun _ _ _ h => h) (Or.inl ⟨by rfl, ?hye3_2⟩) (by assumption) ?_
              case hye3_2 =>
                intro w hSw
                try dsimp only at hSw
                go_simp
                try with_reducible rfl
              try simp only [Act.put, List.setIfInBounds_toArray, List.set_cons_zero, List.set_cons_succ, List.getElem_toArray, List.getElem_cons_zero, List.getElem_cons_succ]
              refine wpAnyH_take (i := 3) (v := ?ve4_3) rfl (by kernel_rfl) (by kernel_rfl) (by kernel_rfl) (fun _ _ _ h => h) (Or.inl ⟨by rfl, ?hye4_3⟩) (by assumption) ?_
              case hye4_3 =>
                intro w hSw
                try dsimp only at hSw
                go_simp
                try with_reducible rfl
              try simp only [Act.put, List.setIfInBounds_toArray, List.set_cons_zero, List.set_cons_succ, List.getElem_toArray, List.getElem_cons_zero, List.getElem_cons_succ]
              refine wpAnyH_ready (rs := [4]) (by kernel_rfl) (by simp) ?_
              refine AllReadyH.cons rfl (fun K hK => ?_) (AllReadyH.nil)
              go_simp
              refine (src_n _ B sl n 3 (by decide) hn (unhide F4).s (unhide DB _ (unhide F4).g)).mono ?_
              rintro e z91 ⟨ry, rfl, hry, hs91, ht91⟩
              have hry2 : ry ≤ 2 := by omega
              have hry3 : (ry : Int) ≤ 2 := by omega
              have hwy : IntKind.i64.wrap (39 + (ry : Int)) = 39 + (ry : Int) := by rw [IntKind.wrap_i64]; omega
              have E91 := hide ((unhide F4).nigh (Nigh.of_touch ht91) hs91 hBw (by omega) (by omega))
              clear hs91 ht91 hry
              go_wp2_with fail
              refine hK.out _ _ (unhide SY _ (unhide E91)) (fun _ => ?_)
              clear hK K
              try simp only [Act.put, List.setIfInBounds_toArray, List.set_cons_zero, List.set_cons_succ, List.getElem_toArray, List.getElem_cons_zero, List.getElem_cons_succ]
              refine wpAnyH_take (i := 5) (v := ?ve5_5) rfl (by kernel_rfl) (by kernel_rfl) (by kernel_rfl) (fun _ _ _ h => h) (Or.inl ⟨by rfl, ?hye5_5⟩) (by assumption) ?_
              case hye5_5 =>
                intro w hSw
                try dsimp only at hSw
                go_simp
                try with_reducible rfl
              try simp only [Act.put, List.setIfInBounds_toArray, List.set_cons_zero, List.set_cons_succ, List.getElem_toArray, List.getElem_cons_zero, List.getElem_cons_succ]
              refine wpAnyH_take (i := 6) (v := ?ve6_6) rfl (by kernel_rfl) (by kernel_rfl) (by kernel_rfl) (fun _ _ _ h => h) (Or.inl ⟨by rfl, ?hye6_6⟩) (by assumption) ?_
              case hye6_6 =>
                intro w hSw
                try dsimp only at hSw
                go_simp
                try with_reducible rfl
              try simp only [Act.put, List.setIfInBounds_toArray, List.set_cons_zero, List.set_cons_succ, List.getElem_toArray, List.getElem_cons_zero, List.getElem_cons_succ]
              refine wpAnyH_done (by kernel_rfl) ?_ _
              go_wp2_with fail
              go_meet
              exact ⟨ry, hry2, rfl, unhide E91⟩
            case rest =>
              obtain ⟨ry, hry, hv, hF⟩ := hcut
              subst hv
              have F5 := hide hF
              clear hF F3 SY
              obtain ⟨m0, m1⟩ := row2b (unhide F5).b
              by_cases hlt : P.length < 39 + ry
              · have dl : decide ((P.length : Int) < 39 + (ry : Int)) = true := decide_eq_true (by omega)
                rw [dl]
                have hbA := (Below.refl wc.heap.size wc).alloc (Nat.le_refl _) (.cells #[.int .i64 (i : Int), .bool true, .bool false, .string ⟨#[]⟩] 33)
                have F6 := hide ((unhide F5).below hbA hBw (by omega) (by omega))
                have HN : Hid (HoldsF (wc.alloc (.cells #[.int .i64 (i : Int), .bool true, .bool false, .string ⟨#[]⟩] 33)) (.slice (some ⟨wc.heap.size, 0, none⟩) 1 1) [⟨(i : Int), true, false, ⟨#[]⟩⟩]) := hide (HoldsG.f (Or.inr ⟨wc.heap.size, 1, _, rfl, heap_alloc_new wc _, Nat.le_refl _, fun j hj => by
                  have hj4 : j = 0 ∨ j = 1 ∨ j = 2 ∨ j = 3 := by
                    have : j < 1 * 4 := hj
                    omega
                  rcases hj4 with rfl | rfl | rfl | rfl <;> rfl⟩))
                clear hbA
                obtain ⟨P9, hP9⟩ : ∃ P9, P ++ [⟨(i : Int), true, false, ⟨#[]⟩⟩] = P9 := ⟨_, rfl⟩
                have hlen9 : Hid (P9.length = P.length + 1) := hide (by rw [← hP9, List.length_append]; rfl)
                have HP9 := hide hP9
                clear hP9
                have hw6 := (unhide F6).g.size
                go_upto_region 17 with (first
                  | (at_builtin; refine append_p rfl _ _ rfl w.heap.size (.slice pa P.length pc) (.slice (some ⟨wc.heap.size, 0, none⟩) 1 1) P [⟨(i : Int), true, false, ⟨#[]⟩⟩] rfl rfl (unhide F6).hp (unhide HN) (by omega) (by show 1 ≤ 1000; decide) hw6 ?_; rw [unhide HP9]; rintro v9 w9 hp9 hg9; obtain ⟨pa9, pc9, ev9⟩ := hp9.form; subst ev9; have hap := (unhide F6).app hg9 hp9 (by omega) (by omega); have c1 := (row2b hap.1).2; have fz1 := frz hap.1 1; have F9 := hide hap.2; clear hap hp9 hg9))
                generalize w9.setCell ⟨bb, 1, none⟩ (.slice pa9 P9.length pc9) = y8 at F9 ⊢
                clear c1 fz1 m0 m1
                go_wp2_with fail
                go_roundw
                case rel => exact ⟨i + 2, pa9, pc9, P9, by go_num, by have := unhide hlen9; omega, by have := unhide hlen9; omega, unhide F9⟩
                case measure => simp [intOf]; omega
              · have dl : decide ((P.length : Int) < 39 + (ry : Int)) = false := decide_eq_false (by omega)
                rw [dl]
                clear m0 m1
                obtain ⟨m0, m1⟩ := row2b (unhide F5).b
                obtain ⟨k0, k1⟩ := row2b (unhide F5).r
                have f0 := frz (unhide F5).r 0
                have f1 := frz (unhide F5).r 1
                go_wp2
                refine bodyPost_ret (v := .agg #[.slice la L.length lc, .slice pa P.length pc]) (by simp [results, Try.results52, asAddr, loadB (set2_bd (unhide F5).r (.slice la L.length lc) (.slice pa P.length pc))]) rfl ?_
                exact ⟨la, pa, lc, pc, L, P, rfl, (unhide F5).done (Nat.le_refl _) (by omega)⟩
end Go.Proofs.Ytfkeokfmancgiaa
namespace Go.Proofs.Ytfkeokfmancgiaa
open Go.RowKit
/-- What the drawer has laid. -/
structure Hs (w W : World) (B : Nat) (sl : Value) (n hb bb : Nat) (la pa : Option Addr) (lc pc : Nat) (L : List Int) (P : List Fg) : Prop where
  r1 : W.heap[w.heap.size]? = some (.cells #[.slice none 0 0, .slice none 0 0] 29)
  r2 : W.heap[w.heap.size + 1]? = some (.cells #[.int .i64 0, .bool false, .bool false, .string ⟨#[]⟩] 33)
  b : W.heap[bb]? = some (.cells #[.slice la L.length lc, .slice pa P.length pc] 29)
  hl : HoldsI W (.slice la L.length lc) L
  hp : HoldsP W hb (.slice pa P.length pc) P
  s : Src W B sl n
  d : Dat W B sl n
  g : Below w.heap.size w W
variable {w W W' : World} {B n hb bb fb : Nat} {sl : Value} {la pa : Option Addr} {lc pc : Nat} {L : List Int} {P : List Fg}
theorem kind_n9 {W : World} {x y : Nat} {c d : Array Value} {S T : TypeId} (hx : W.heap[x]? = some (.cells c S)) (hy : W.heap[y]? = some (.cells d T)) (h : S ≠ T) : x ≠ y := fun e => by
  subst e
  rw [hx] at hy
  injection hy with hy
  injection hy with _ hy
  exact h hy
theorem Hs.nigh (h : Hs w W B sl n hb bb la pa lc pc L P) (hn : Nigh B W W') (hs : Src W' B sl n) (e1 : B = w.heap.size + 2) (e2 : B < hb) (e3 : B < bb) : Hs w W' B sl n hb bb la pa lc pc L P := by
  have hBl := h.s.lt
  refine ⟨(hn.block _ (Array.getElem?_eq_some_iff.1 h.r1).1 (by omega)).trans h.r1, (hn.block _ (Array.getElem?_eq_some_iff.1 h.r2).1 (by omega)).trans h.r2, (hn.block _ (Array.getElem?_eq_some_iff.1 h.b).1 (by omega)).trans h.b, ?_, h.hp.keep fun g hg hl _ _ => hn.block g hl (by omega), hs, h.d.below (hn.below (by omega)), h.g.trans ((hn.below (by omega)).mono (by omega))⟩
  obtain ⟨p, m, z, _, _, _, hB⟩ := h.s
  rcases h.hl with h' | ⟨g, cp, cur, q1, q2, q3⟩
  · exact Or.inl h'
  · exact Or.inr ⟨g, cp, cur, q1, (hn.block g (Array.getElem?_eq_some_iff.1 q2).1 (kind_n9 q2 hB (by decide))).trans q2, q3⟩
theorem Hs.below (h : Hs w W B sl n hb bb la pa lc pc L P) (hb' : Below W.heap.size W W') (e1 : B = w.heap.size + 2) (e2 : B < hb) (e3 : B < bb) : Hs w W' B sl n hb bb la pa lc pc L P :=
  h.nigh (Nigh.of_below hb') (h.s.same (hb'.block _ h.s.lt)) e1 e2 e3
/-- The drawn part's number set. -/
theorem Hs.setF (h : Hs w W B sl n hb bb la pa lc pc L P) {cs : Array Value} (hf : W.heap[fb]? = some (.cells cs 33)) (x : Value) (e0 : w.heap.size + 1 < fb) (eB : B ≤ fb) (hp : ∀ g, (Value.slice pa P.length pc).ownBlock = some g → g ≠ fb) : Hs w (W.setCell ⟨fb, 0, none⟩ x) B sl n hb bb la pa lc pc L P := by
  have k : ∀ g, g ≠ fb → (W.setCell ⟨fb, 0, none⟩ x).heap[g]? = W.heap[g]? := fun g hg => Below.heap_setCell _ ⟨fb, 0, none⟩ _ _ hg
  obtain ⟨p, m, z, s1, s2, s3, hB⟩ := h.s
  refine ⟨(k _ (by omega)).trans h.r1, (k _ (by omega)).trans h.r2, (k _ (kind_n9 h.b hf (by decide))).trans h.b, ?_, ?_, ⟨p, m, z, s1, s2, s3, (k _ (kind_n9 hB hf (by decide))).trans hB⟩, h.d.below ((Below.refl B W).setCell (p := ⟨fb, 0, none⟩) eB _), h.g.setCell (p := ⟨fb, 0, none⟩) (by show w.heap.size ≤ fb; omega) _⟩
  · rcases h.hl with h' | ⟨g, cp, cur, q1, q2, q3⟩
    · exact Or.inl h'
    · exact Or.inr ⟨g, cp, cur, q1, (k _ (kind_n9 q2 hf (by decide))).trans q2, q3⟩
  · rcases h.hp with h' | ⟨g, o, cp, cur, q1, q2, q3⟩
    · exact Or.inl h'
    · exact Or.inr ⟨g, o, cp, cur, q1, (k _ (hp g (by rw [q1]; rfl))).trans q2, q3⟩
/-- The bundle handed back. -/
theorem Hs.out1 (h : Hs w W B sl n hb bb la pa lc pc L P) (e0 : w.heap.size + 1 < bb) {cs : Array Value} (e4 : w.heap.size + 1 < fb) (hf : W.heap[fb]? = some (.cells cs 33)) :
    ((W.setCell ⟨w.heap.size, 0, none⟩ (.slice la L.length lc)).setCell ⟨w.heap.size, 1, none⟩ (.slice pa P.length pc)).heap[w.heap.size]? = some (.cells #[.slice la L.length lc, .slice pa P.length pc] 29) ∧ ((W.setCell ⟨w.heap.size, 0, none⟩ (.slice la L.length lc)).setCell ⟨w.heap.size, 1, none⟩ (.slice pa P.length pc)).heap[w.heap.size + 1]? = some (.cells #[.int .i64 0, .bool false, .bool false, .string ⟨#[]⟩] 33) ∧ ((W.setCell ⟨w.heap.size, 0, none⟩ (.slice la L.length lc)).setCell ⟨w.heap.size, 1, none⟩ (.slice pa P.length pc)).heap[bb]? = some (.cells #[.slice la L.length lc, .slice pa P.length pc] 29) ∧ ((W.setCell ⟨w.heap.size, 0, none⟩ (.slice la L.length lc)).setCell ⟨w.heap.size, 1, none⟩ (.slice pa P.length pc)).heap[fb]? = some (.cells cs 33) ∧ HoldsI ((W.setCell ⟨w.heap.size, 0, none⟩ (.slice la L.length lc)).setCell ⟨w.heap.size, 1, none⟩ (.slice pa P.length pc)) (.slice la L.length lc) L ∧ HoldsP ((W.setCell ⟨w.heap.size, 0, none⟩ (.slice la L.length lc)).setCell ⟨w.heap.size, 1, none⟩ (.slice pa P.length pc)) hb (.slice pa P.length pc) P ∧ Below w.heap.size w ((W.setCell ⟨w.heap.size, 0, none⟩ (.slice la L.length lc)).setCell ⟨w.heap.size, 1, none⟩ (.slice pa P.length pc)) := by
  have k : ∀ g, g ≠ w.heap.size → ((W.setCell ⟨w.heap.size, 0, none⟩ (.slice la L.length lc)).setCell ⟨w.heap.size, 1, none⟩ (.slice pa P.length pc)).heap[g]? = W.heap[g]? := fun g hg => (Below.heap_setCell _ ⟨w.heap.size, 1, none⟩ _ _ hg).trans (Below.heap_setCell _ ⟨w.heap.size, 0, none⟩ _ _ hg)
  have e1 := heap_setCell_same W w.heap.size 0 _ _ (.slice la L.length lc) h.r1
  have e2 := heap_setCell_same _ w.heap.size 1 _ _ (.slice pa P.length pc) e1
  refine ⟨e2, (k _ (by omega)).trans h.r2, (k _ (by omega)).trans h.b, (k _ (by omega)).trans hf, ?_, h.hp.keep fun g _ _ cur hg => k _ (kind_n9 hg h.r1 (by decide)), (h.g.setCell (p := ⟨w.heap.size, 0, none⟩) (Nat.le_refl _) _).setCell (p := ⟨w.heap.size, 1, none⟩) (Nat.le_refl _) _⟩
  rcases h.hl with h' | ⟨g, cp, cur, q1, q2, q3⟩
  · exact Or.inl h'
  · exact Or.inr ⟨g, cp, cur, q1, (k _ (kind_n9 q2 h.r1 (by decide))).trans q2, q3⟩
theorem h_keep {W W' : World} {base : Nat} {v : Value} {P : List Fg} (h : HoldsP W base v P) (k : ∀ g, base ≤ g → W'.heap[g]? = W.heap[g]?) : HoldsP W' base v P := h.keep fun g hg _ _ _ => k g hg
theorem out2 {V : World} {x0 x1 y0 y1 y2 y3 : Value} (v1 : V.heap[w.heap.size]? = some (.cells #[x0, x1] 29)) (v2 : V.heap[w.heap.size + 1]? = some (.cells #[.int .i64 0, .bool false, .bool false, .string ⟨#[]⟩] 33)) (hl : HoldsI V (.slice la L.length lc) L) (hp : HoldsP V hb (.slice pa P.length pc) P) (hg : Below w.heap.size w V) (e2 : w.heap.size + 1 < hb) :
    ((((V.setCell ⟨w.heap.size + 1, 0, none⟩ y0).setCell ⟨w.heap.size + 1, 1, none⟩ y1).setCell ⟨w.heap.size + 1, 2, none⟩ y2).setCell ⟨w.heap.size + 1, 3, none⟩ y3).heap[w.heap.size]? = some (.cells #[x0, x1] 29) ∧ ((((V.setCell ⟨w.heap.size + 1, 0, none⟩ y0).setCell ⟨w.heap.size + 1, 1, none⟩ y1).setCell ⟨w.heap.size + 1, 2, none⟩ y2).setCell ⟨w.heap.size + 1, 3, none⟩ y3).heap[w.heap.size + 1]? = some (.cells #[y0, y1, y2, y3] 33) ∧ HoldsI ((((V.setCell ⟨w.heap.size + 1, 0, none⟩ y0).setCell ⟨w.heap.size + 1, 1, none⟩ y1).setCell ⟨w.heap.size + 1, 2, none⟩ y2).setCell ⟨w.heap.size + 1, 3, none⟩ y3) (.slice la L.length lc) L ∧ HoldsP ((((V.setCell ⟨w.heap.size + 1, 0, none⟩ y0).setCell ⟨w.heap.size + 1, 1, none⟩ y1).setCell ⟨w.heap.size + 1, 2, none⟩ y2).setCell ⟨w.heap.size + 1, 3, none⟩ y3) hb (.slice pa P.length pc) P ∧ Below w.heap.size w ((((V.setCell ⟨w.heap.size + 1, 0, none⟩ y0).setCell ⟨w.heap.size + 1, 1, none⟩ y1).setCell ⟨w.heap.size + 1, 2, none⟩ y2).setCell ⟨w.heap.size + 1, 3, none⟩ y3) ∧ ∀ g, g ≠ w.heap.size + 1 → ((((V.setCell ⟨w.heap.size + 1, 0, none⟩ y0).setCell ⟨w.heap.size + 1, 1, none⟩ y1).setCell ⟨w.heap.size + 1, 2, none⟩ y2).setCell ⟨w.heap.size + 1, 3, none⟩ y3).heap[g]? = V.heap[g]? := by
  have k : ∀ g, g ≠ w.heap.size + 1 → ((((V.setCell ⟨w.heap.size + 1, 0, none⟩ y0).setCell ⟨w.heap.size + 1, 1, none⟩ y1).setCell ⟨w.heap.size + 1, 2, none⟩ y2).setCell ⟨w.heap.size + 1, 3, none⟩ y3).heap[g]? = V.heap[g]? := fun g hg => (Below.heap_setCell _ ⟨w.heap.size + 1, 3, none⟩ _ _ hg).trans ((Below.heap_setCell _ ⟨w.heap.size + 1, 2, none⟩ _ _ hg).trans ((Below.heap_setCell _ ⟨w.heap.size + 1, 1, none⟩ _ _ hg).trans (Below.heap_setCell _ ⟨w.heap.size + 1, 0, none⟩ _ _ hg)))
  refine ⟨(k _ (by omega)).trans v1, ?_, ?_, h_keep hp fun g hgb => k g (by omega), ?_, k⟩
  · have e0 := heap_setCell_same V (w.heap.size + 1) 0 _ _ y0 v2
    have e1 := heap_setCell_same _ (w.heap.size + 1) 1 _ _ y1 e0
    have e2 := heap_setCell_same _ (w.heap.size + 1) 2 _ _ y2 e1
    exact heap_setCell_same _ (w.heap.size + 1) 3 _ _ y3 e2
  · rcases hl with h' | ⟨g, cp, cur, q1, q2, q3⟩
    · exact Or.inl h'
    · exact Or.inr ⟨g, cp, cur, q1, (k _ (kind_n9 q2 v2 (by decide))).trans q2, q3⟩
  · have f : ∀ (V : World) (i : Nat) (x : Value), Below w.heap.size w V → Below w.heap.size w (V.setCell ⟨w.heap.size + 1, i, none⟩ x) := fun V i x hV => hV.setCell (p := ⟨w.heap.size + 1, i, none⟩) (Nat.le_succ _) _
    exact f _ _ _ (f _ _ _ (f _ _ _ (f _ _ _ hg)))
/-- A bundle, a line and a part, drawn. -/
def AnD9 (w : World) (e : Ending) (w' : World) : Prop := ∃ (la pa : Option Addr) (lc pc : Nat) (L : List Int) (P : List Fg) (link : Int) (f : Fg), e = .returned (.tuple #[.agg #[.slice la L.length lc, .slice pa P.length pc], .int .i64 link, fgV f]) ∧ HoldsI w' (.slice la L.length lc) L ∧ HoldsF w' (.slice pa P.length pc) P ∧ P.length ≤ pc ∧ L.length ≤ 8 ∧ P.length ≤ 100 ∧ Below w.heap.size w w'
set_option linter.unusedSimpArgs false in
set_option maxHeartbeats 64000000 in
set_option maxRecDepth 100000 in
theorem drawBh (w : World) (sl : Value) (n : Nat) (hn : n ≤ maxLen) (hD : Dat w w.heap.size sl n) :
    Calls Try.prog 20 #[sl] w fun e w' => AnD9 w e w' := by
  have HA := hide (new2b w (.cells #[.slice none 0 0, .slice none 0 0] 29) (.cells #[.int .i64 0, .bool false, .bool false, .string ⟨#[]⟩] 33))
  have c := src_new ((w.alloc (.cells #[.slice none 0 0, .slice none 0 0] 29)).alloc (.cells #[.int .i64 0, .bool false, .bool false, .string ⟨#[]⟩] 33)) sl n hn ((hD.below (unhide HA).2.2.1).mono (by have := (unhide HA).2.2.2; omega))
  rw [(unhide HA).2.2.2] at c
  have HD := hide ((hD.below (unhide HA).2.2.1).mono (show w.heap.size ≤ w.heap.size + 2 by omega))
  clear hD
  go_enter Try.func20, Try.ntmps20
  go_wp2_with fail
  refine c.mono ?_
  rintro e w1 ⟨rfl, hS1, hb1⟩
  have hsz := (unhide HA).2.2.2
  have H1 : Hid (w1.heap[w.heap.size]? = some (.cells #[.slice none 0 0, .slice none 0 0] 29) ∧ w1.heap[w.heap.size + 1]? = some (.cells #[.int .i64 0, .bool false, .bool false, .string ⟨#[]⟩] 33) ∧ Src w1 (w.heap.size + 2) sl n ∧ Below w.heap.size w w1 ∧ Dat w1 (w.heap.size + 2) sl n) := hide ⟨(hb1.block _ (by omega)).trans (unhide HA).1, (hb1.block _ (by omega)).trans (unhide HA).2.1, hS1, (unhide HA).2.2.1.trans (hb1.mono (by omega)), (unhide HD).below hb1⟩
  clear hS1 hb1 c hsz HA HD
  obtain ⟨B, hBe⟩ : ∃ B, B = w.heap.size + 2 := ⟨_, rfl⟩
  have HBe := hide hBe
  rw [← hBe] at H1 ⊢
  clear hBe
  have hBl := (unhide H1).2.2.1.lt
  go_wp2_with fail
  refine (src_bundle w1 B sl n hn (unhide H1).2.2.1 (unhide H1).2.2.2.2).mono ?_
  rintro e w2 ⟨la, pa, lc, pc, L, P, rfl, hi2, hp2, hpc, hL8, hP100, hS2, hn2⟩
  have HB := unhide HBe
  have hBs : B ≤ w1.heap.size := by omega
  have H2 : Hid (w2.heap[w.heap.size]? = some (.cells #[.slice none 0 0, .slice none 0 0] 29) ∧ w2.heap[w.heap.size + 1]? = some (.cells #[.int .i64 0, .bool false, .bool false, .string ⟨#[]⟩] 33) ∧ HoldsI w2 (.slice la L.length lc) L ∧ HoldsP w2 w1.heap.size (.slice pa P.length pc) P ∧ Src w2 B sl n ∧ Dat w2 B sl n ∧ Below w.heap.size w w2) := hide ⟨(hn2.block _ (by omega) (by omega)).trans (unhide H1).1, (hn2.block _ (by omega) (by omega)).trans (unhide H1).2.1, hi2, hp2, hS2, (unhide H1).2.2.2.2.below (hn2.below hBs), (unhide H1).2.2.2.1.trans ((hn2.below hBs).mono (by omega))⟩
  have hl2 := hn2.size
  have hlw : w.heap.size + 1 < w1.heap.size := by omega
  clear hi2 hp2 hS2 hn2 H1 HB
  go_upto_region 3 with fail
  refine gen_world (fun q => Hs w q B sl n w1.heap.size w2.heap.size la pa lc pc L P) ?_ ?_
  · obtain ⟨g1, g2, g3, g4, g5, g6, g7⟩ := unhide H2
    have hbA := (Below.refl w2.heap.size w2).alloc (Nat.le_refl _) (.cells #[.slice la L.length lc, .slice pa P.length pc] 29)
    exact ⟨(hbA.block _ (by omega)).trans g1, (hbA.block _ (by omega)).trans g2, heap_alloc_new w2 _, g3.below hbA rfl, g4.keep fun g _ hg _ _ => hbA.block g hg, g5.same (hbA.block _ (by omega)), g6.below (hbA.mono (by omega)), g7.trans (hbA.mono g7.size)⟩
  intro q1 hq1
  have E0 := hide hq1
  have hbb : B < w2.heap.size := by omega
  have hhb : B < w1.heap.size := hBl
  generalize w2.heap.size = bb at *
  generalize w1.heap.size = hb at *
  clear hq1 H2 hl2 hBl hBs hlw
  go_wp2_with fail
  refine (src_n _ B sl n 4 (by decide) hn (unhide E0).s (unhide E0).d).mono ?_
  rintro e w3 ⟨r3, rfl, hr3, hS3, ht3⟩
  have E1 := hide ((unhide E0).nigh (Nigh.of_touch ht3) hS3 (unhide HBe) hhb hbb)
  clear hS3 ht3 E0 hr3
  go_wp2_with fail
  refine (src_one _ B sl n 12 (by decide) hn (unhide E1).s (unhide E1).d).mono ?_
  rintro e w4 ⟨b4, rfl, hS4, ht4⟩
  have E2 := hide ((unhide E1).nigh (Nigh.of_touch ht4) hS4 (unhide HBe) hhb hbb)
  clear hS4 ht4 E1
  go_upto_if 16 with fail
  go_cut [7] (fun v wx => ∃ x : Int, v = .int .i64 x ∧ Hs w wx B sl n hb bb la pa lc pc L P)
  case first =>
    cases b4
    · go_wp2_with fail
      go_meet
      exact ⟨_, rfl, unhide E2⟩
    · go_wp2_with fail
      refine (src_edge_g _ B sl n hn (unhide E2).s (unhide E2).d).mono ?_
      rintro e w5 ⟨x5, rfl, _, _, hS5, hn5⟩
      have E3 := hide ((unhide E2).nigh hn5 hS5 (unhide HBe) hhb hbb)
      clear hS5 hn5 E2
      go_wp2_with fail
      go_meet
      exact ⟨_, rfl, unhide E3⟩
  case rest =>
    obtain ⟨x, hv, hF⟩ := hcut
    subst hv
    have E3 := hide hF
    clear hF E2
    go_wp2_with fail
    refine (src_frag _ B sl n hn (unhide E3).s (unhide E3).d).mono ?_
    rintro e w6 ⟨f, rfl, hft, hS6, hn6⟩
    obtain ⟨fq, bx, bf, tx⟩ := f
    unfold fgV
    dsimp only at hft ⊢
    have E4 := hide ((unhide E3).nigh hn6 hS6 (unhide HBe) hhb hbb)
    clear hS6 hn6 E3
    go_upto_region 7 with fail
    refine gen_world (fun q => Hs w q B sl n hb bb la pa lc pc L P ∧ q.heap[w6.heap.size]? = some (.cells #[.int .i64 fq, .bool bx, .bool bf, .string tx] 33)) ?_ ?_
    · have hbA := (Below.refl w6.heap.size w6).alloc (Nat.le_refl _) (.cells #[.int .i64 fq, .bool bx, .bool bf, .string tx] 33)
      exact ⟨(unhide E4).below hbA (unhide HBe) hhb hbb, heap_alloc_new w6 _⟩
    intro q2 hq2
    have E5 := hide hq2
    have HPF : Hid (∀ g, (Value.slice pa P.length pc).ownBlock = some g → g ≠ w6.heap.size) := hide fun g hg e => by
      have := (unhide E4).hp.lt g hg
      omega
    have hfb : B < w6.heap.size := (unhide E4).s.lt
    generalize w6.heap.size = fb at *
    clear hq2 E4
    obtain ⟨m0, m1⟩ := row2b (unhide E5).1.b
    by_cases hP0 : 0 < P.length
    · have dP : (0 : Int) < (P.length : Int) := by omega
      go_wp2_with fail
      refine (src_one _ B sl n 2 (by decide) hn (unhide E5).1.s (unhide E5).1.d).mono ?_
      rintro e w7 ⟨b7, rfl, hS7, ht7⟩
      have E6 : Hid (Hs w w7 B sl n hb bb la pa lc pc L P ∧ w7.heap[fb]? = some (.cells #[.int .i64 fq, .bool bx, .bool bf, .string tx] 33)) := hide ⟨(unhide E5).1.nigh (Nigh.of_touch ht7) hS7 (unhide HBe) hhb hbb, (ht7.block _ (by omega)).trans (unhide E5).2⟩
      clear hS7 ht7 E5 m0 m1
      cases b7
      · go_upto_region 9 with fail
        have SX : Hid (∀ y9 : World, y9.heap[bb]? = some (.cells #[.slice la L.length lc, .slice pa P.length pc] 29) → y9.heap[fb]? = some (.cells #[.int .i64 fq, .bool bx, .bool bf, .string tx] 33) → (y9.cell? ⟨bb, 0, none⟩ = some (.slice la L.length lc) ∧ y9.cell? ⟨bb, 1, none⟩ = some (.slice pa P.length pc) ∧ y9.cell? ⟨fb, 0, none⟩ = some (.int .i64 fq) ∧ y9.cell? ⟨fb, 1, none⟩ = some (.bool bx) ∧ y9.cell? ⟨fb, 2, none⟩ = some (.bool bf) ∧ y9.cell? ⟨fb, 3, none⟩ = some (.string tx))) := hide fun y9 h1 h2 => by
          obtain ⟨m0, m1⟩ := row2b h1
          obtain ⟨k0, k1, k2, k3⟩ := row4g h2
          exact ⟨m0, m1, k0, k1, k2, k3⟩
        have F9 : Hid (Hs w w7.drew B sl n hb bb la pa lc pc L P ∧ w7.drew.heap[fb]? = some (.cells #[.int .i64 fq, .bool bx, .bool bf, .string tx] 33)) := hide ⟨(unhide E6).1.below ((Below.refl _ _).drew) (unhide HBe) hhb hbb, (unhide E6).2⟩
        refine wp_region_held_drew (S := fun y9 => y9.cell? ⟨bb, 0, none⟩ = some (.slice la L.length lc) ∧ y9.cell? ⟨bb, 1, none⟩ = some (.slice pa P.length pc) ∧ y9.cell? ⟨fb, 0, none⟩ = some (.int .i64 fq) ∧ y9.cell? ⟨fb, 1, none⟩ = some (.bool bx) ∧ y9.cell? ⟨fb, 2, none⟩ = some (.bool bf) ∧ y9.cell? ⟨fb, 3, none⟩ = some (.string tx)) (by kernel_rfl) (unhide SX _ (unhide F9).1.b (unhide F9).2) (fun hHeld => ?_)
        generalize w7.drew = yy at F9 hHeld ⊢
        refine wpAnyH_take (i := 0) (v := ?vfa1_0) rfl (by kernel_rfl) (by kernel_rfl) (by kernel_rfl) (fun _ _ _ h => h) (Or.inl ⟨by rfl, ?hyfa1_0⟩) (by assumption) ?_
        case hyfa1_0 =>
          intro w hSw
          try dsimp only at hSw
          go_simp
          try with_reducible rfl
        try simp only [Act.put, List.setIfInBounds_toArray, List.set_cons_zero, List.set_cons_succ, List.getElem_toArray, List.getElem_cons_zero]
        refine wpAnyH_take (i := 1) (v := ?vfa2_1) rfl (by kernel_rfl) (by kernel_rfl) (by kernel_rfl) (fun _ _ _ h => h) (Or.inl ⟨by rfl, ?hyfa2_1⟩) (by assumption) ?_
        case hyfa2_1 =>
          intro w hSw
          try dsimp only at hSw
          go_simp
          try with_reducible rfl
        try simp only [Act.put, List.setIfInBounds_toArray, List.set_cons_zero, List.set_cons_succ, List.getElem_toArray, List.getElem_cons_zero, List.getElem_cons_succ]
        refine wpAnyH_take (i := 2) (v := ?vfa3_2) rfl (by kernel_rfl) (by kernel_rfl) (by kernel_rfl) (fun _ _ _ h => h) (Or.inl ⟨by rfl, ?hyfa3_2⟩) (by assumption) ?_
        case hyfa3_2 =>
          intro w hSw
          try dsimp only at hSw
          go_simp
          try with_reducible rfl
        try simp only [Act.put, List.setIfInBounds_toArray, List.set_cons_zero, List.set_cons_succ, List.getElem_toArray, List.getElem_cons_zero, List.getElem_cons_succ]
        refine wpAnyH_ready (rs := [3]) (by kernel_rfl) (by simp) ?_
        refine AllReadyH.cons rfl (fun K hK => ?_) (AllReadyH.nil)
        obtain ⟨r0, r1⟩ := row2b (unhide F9).1.r1
        have f0 := frz (unhide F9).1.r1 0
        have f1 := frz (unhide F9).1.r1 1
        have O1 := hide ((unhide F9).1.out1 (by have := unhide HBe; omega) (by have := unhide HBe; omega) (unhide F9).2)
        go_simp
        clear r0 r1 f0 f1
        refine hK.out _ _ (unhide SX _ (unhide O1).2.2.1 (unhide O1).2.2.2.1) (fun _ => ?_)
        clear hK K
        try simp only [Act.put, List.setIfInBounds_toArray, List.set_cons_zero, List.set_cons_succ, List.getElem_toArray, List.getElem_cons_zero, List.getElem_cons_succ]
        generalize (yy.setCell ⟨w.heap.size, 0, none⟩ (.slice la L.length lc)).setCell ⟨w.heap.size, 1, none⟩ (.slice pa P.length pc) = yV at O1 ⊢
        have hSV := unhide SX _ (unhide O1).2.2.1 (unhide O1).2.2.2.1
        refine wpAnyH_take (i := 4) (v := ?vfa4_4) rfl (by kernel_rfl) (by kernel_rfl) (by kernel_rfl) (fun _ _ _ h => h) (Or.inl ⟨by rfl, ?hyfa4_4⟩) (by assumption) ?_
        case hyfa4_4 =>
          intro w hSw
          try dsimp only at hSw
          go_simp
          try with_reducible rfl
        try simp only [Act.put, List.setIfInBounds_toArray, List.set_cons_zero, List.set_cons_succ, List.getElem_toArray, List.getElem_cons_zero, List.getElem_cons_succ]
        refine wpAnyH_ready (rs := [5]) (by kernel_rfl) (by simp) ?_
        refine AllReadyH.cons rfl (fun K hK => ?_) (AllReadyH.nil)
        obtain ⟨c0, c1, c2, c3, f0, f1, f2, f3⟩ := row4d (unhide O1).2.1
        have O2 := hide (out2 (y0 := .int .i64 fq) (y1 := .bool bx) (y2 := .bool bf) (y3 := .string tx) (unhide O1).1 (unhide O1).2.1 (unhide O1).2.2.2.2.1 (unhide O1).2.2.2.2.2.1 (unhide O1).2.2.2.2.2.2 (by have := unhide HBe; omega))
        have O3 := hide (And.intro (((unhide O2).2.2.2.2.2 bb (by have := unhide HBe; omega)).trans (unhide O1).2.2.1) (((unhide O2).2.2.2.2.2 fb (by have := unhide HBe; omega)).trans (unhide O1).2.2.2.1))
        go_simp
        clear c0 c1 c2 c3 f0 f1 f2 f3
        refine hK.out _ _ (unhide SX _ (unhide O3).1 (unhide O3).2) (fun _ => ?_)
        clear hK K
        try simp only [Act.put, List.setIfInBounds_toArray, List.set_cons_zero, List.set_cons_succ, List.getElem_toArray, List.getElem_cons_zero, List.getElem_cons_succ]
        refine wpAnyH_done (by kernel_rfl) ?_ _
        go_wp2
        refine bodyPost_ret (v := .tuple #[.agg #[.slice la L.length lc, .slice pa P.length pc], .int .i64 x, .agg #[.int .i64 fq, .bool bx, .bool bf, .string tx]]) (by simp [results, Try.results20, asAddr, loadB (unhide O2).1, loadGf (unhide O2).2.1]) rfl ?_
        exact ⟨la, pa, lc, pc, L, P, x, ⟨fq, bx, bf, tx⟩, rfl, (unhide O2).2.2.1, (unhide O2).2.2.2.1.f, hpc, hL8, hP100, (unhide O2).2.2.2.2.1⟩
      · go_upto_region 8 with fail
        obtain ⟨m, hm⟩ : ∃ m, P.length = m + 1 := ⟨P.length - 1, by omega⟩
        obtain ⟨g, o, eg⟩ : ∃ g o, pa = some ⟨g, o, none⟩ := by
          rcases (unhide E6).1.hp with ⟨e, e0⟩ | ⟨g, o, cp, cur, e, _⟩
          · rw [e0] at hP0
            exact absurd hP0 (by decide)
          · injection e with e _ _
            exact ⟨g, o, e⟩
        subst eg
        have hml : m < P.length := by omega
        obtain ⟨s9, hs9⟩ : ∃ s9, P[m].seq = s9 := ⟨_, rfl⟩
        have SY : Hid (∀ y9, Hs w y9 B sl n hb bb la (some ⟨g, o, none⟩) lc pc L P → y9.cell? ⟨bb, 1, none⟩ = some (.slice (some ⟨g, o, none⟩) P.length pc) ∧ y9.cell? ⟨g, o + m * 4, none⟩ = some (.int .i64 s9)) := hide fun y9 hz => by
          refine ⟨(row2b hz.b).2, ?_⟩
          obtain ⟨g', o', cp', e, _, c0, _⟩ := hz.hp.f.2 m hml
          cases e
          rw [hs9] at c0
          exact c0
        have HM := hide hm
        have dm : (P.length : Int) - 1 = (m : Int) := by omega
        have dml : (m : Int) < (P.length : Int) := by omega
        have dw : IntKind.i64.wrap (m : Int) = (m : Int) := by rw [IntKind.wrap_i64]; omega
        clear hm hs9
        have E7 : Hid (Hs w w7.drew B sl n hb bb la (some ⟨g, o, none⟩) lc pc L P ∧ w7.drew.heap[fb]? = some (.cells #[.int .i64 fq, .bool bx, .bool bf, .string tx] 33)) := hide ⟨(unhide E6).1.below ((Below.refl _ _).drew) (unhide HBe) hhb hbb, (unhide E6).2⟩
        refine wp_region_held_drew (S := fun y9 => y9.cell? ⟨bb, 1, none⟩ = some (.slice (some ⟨g, o, none⟩) P.length pc) ∧ y9.cell? ⟨g, o + m * 4, none⟩ = some (.int .i64 s9)) (by kernel_rfl) (unhide SY _ (unhide E7).1) (fun hHeld => ?_)
        generalize w7.drew = yy at E7 hHeld ⊢
        refine wpAnyH_take (i := 0) (v := ?vg1_0) rfl (by kernel_rfl) (by kernel_rfl) (by kernel_rfl) (fun _ _ _ h => h) (Or.inl ⟨by rfl, ?hyg1_0⟩) (by assumption) ?_
        case hyg1_0 =>
          intro w hSw
          try dsimp only at hSw
          go_simp
          try with_reducible rfl
        try simp only [Act.put, List.setIfInBounds_toArray, List.set_cons_zero, List.set_cons_succ, List.getElem_toArray, List.getElem_cons_zero]
        refine wpAnyH_take (i := 1) (v := ?vg2_1) rfl (by kernel_rfl) (by kernel_rfl) (by kernel_rfl) (fun _ _ _ h => h) (Or.inl ⟨by rfl, ?hyg2_1⟩) (by assumption) ?_
        case hyg2_1 =>
          intro w hSw
          try dsimp only at hSw
          go_simp
          try with_reducible rfl
        try simp only [Act.put, List.setIfInBounds_toArray, List.set_cons_zero, List.set_cons_succ, List.getElem_toArray, List.getElem_cons_zero, List.getElem_cons_succ]
        refine wpAnyH_take (i := 2) (v := ?vg3_2) rfl (by kernel_rfl) (by kernel_rfl) (by kernel_rfl) (fun _ _ _ h => h) (Or.inl ⟨by rfl, ?hyg3_2⟩) (by assumption) ?_
        case hyg3_2 =>
          intro w hSw
          try dsimp only at hSw
          go_simp
          try with_reducible rfl
        try simp only [Act.put, List.setIfInBounds_toArray, List.set_cons_zero, List.set_cons_succ, List.getElem_toArray, List.getElem_cons_zero, List.getElem_cons_succ]
        refine wpAnyH_take (i := 3) (v := ?vg4_3) rfl (by kernel_rfl) (by kernel_rfl) (by kernel_rfl) (fun _ _ _ h => h) (Or.inl ⟨by rfl, ?hyg4_3⟩) (by assumption) ?_
        case hyg4_3 =>
          intro w hSw
          try dsimp only at hSw
          go_simp
          try with_reducible rfl
        try simp only [Act.put, List.setIfInBounds_toArray, List.set_cons_zero, List.set_cons_succ, List.getElem_toArray, List.getElem_cons_zero, List.getElem_cons_succ]
        refine wpAnyH_take (i := 4) (v := ?vg5_4) rfl (by kernel_rfl) (by kernel_rfl) (by kernel_rfl) (fun _ _ _ h => h) (Or.inl ⟨by rfl, ?hyg5_4⟩) (by assumption) ?_
        case hyg5_4 =>
          intro w hSw
          try dsimp only at hSw
          go_simp
          try with_reducible rfl
        try simp only [Act.put, List.setIfInBounds_toArray, List.set_cons_zero, List.set_cons_succ, List.getElem_toArray, List.getElem_cons_zero, List.getElem_cons_succ]
        refine wpAnyH_take (i := 5) (v := ?vg6_5) rfl (by kernel_rfl) (by kernel_rfl) (by kernel_rfl) (fun _ _ _ h => h) (Or.inl ⟨by rfl, ?hyg6_5⟩) (by assumption) ?_
        case hyg6_5 =>
          intro w hSw
          try dsimp only at hSw
          go_simp
          try with_reducible rfl
        try simp only [Act.put, List.setIfInBounds_toArray, List.set_cons_zero, List.set_cons_succ, List.getElem_toArray, List.getElem_cons_zero, List.getElem_cons_succ]
        refine wpAnyH_take (i := 6) (v := ?vg7_6) rfl (by kernel_rfl) (by kernel_rfl) (by kernel_rfl) (fun _ _ _ h => h) (Or.inl ⟨by rfl, ?hyg7_6⟩) (by assumption) ?_
        case hyg7_6 =>
          intro w hSw
          try dsimp only at hSw
          go_simp
          try with_reducible rfl
        try simp only [Act.put, List.setIfInBounds_toArray, List.set_cons_zero, List.set_cons_succ, List.getElem_toArray, List.getElem_cons_zero, List.getElem_cons_succ]
        refine wpAnyH_take (i := 7) (v := ?vg8_7) rfl (by kernel_rfl) (by kernel_rfl) (by kernel_rfl) (fun _ _ _ h => h) (Or.inl ⟨by rfl, ?hyg8_7⟩) (by assumption) ?_
        case hyg8_7 =>
          intro w hSw
          try dsimp only at hSw
          go_simp
          try with_reducible rfl
        try simp only [Act.put, List.setIfInBounds_toArray, List.set_cons_zero, List.set_cons_succ, List.getElem_toArray, List.getElem_cons_zero, List.getElem_cons_succ]
        refine wpAnyH_take (i := 8) (v := ?vg9_8) rfl (by kernel_rfl) (by kernel_rfl) (by kernel_rfl) (fun _ _ _ h => h) (Or.inl ⟨by rfl, ?hyg9_8⟩) (by assumption) ?_
        case hyg9_8 =>
          intro w hSw
          try dsimp only at hSw
          go_simp
          try with_reducible rfl
        try simp only [Act.put, List.setIfInBounds_toArray, List.set_cons_zero, List.set_cons_succ, List.getElem_toArray, List.getElem_cons_zero, List.getElem_cons_succ]
        refine wpAnyH_take (i := 9) (v := ?vg10_9) rfl (by kernel_rfl) (by kernel_rfl) (by kernel_rfl) (fun _ _ _ h => h) (Or.inl ⟨by rfl, ?hyg10_9⟩) (by assumption) ?_
        case hyg10_9 =>
          intro w hSw
          try dsimp only at hSw
          go_simp
          try with_reducible rfl
        try simp only [Act.put, List.setIfInBounds_toArray, List.set_cons_zero, List.set_cons_succ, List.getElem_toArray, List.getElem_cons_zero, List.getElem_cons_succ]
        refine wpAnyH_ready (rs := [10]) (by kernel_rfl) (by simp) ?_
        refine AllReadyH.cons rfl (fun K hK => ?_) (AllReadyH.nil)
        go_simp
        refine (src_n _ B sl n 3 (by decide) hn (unhide E7).1.s (unhide E7).1.d).mono ?_
        rintro e z71 ⟨rx, rfl, hrx, hs71, ht71⟩
        have E71 : Hid (Hs w z71 B sl n hb bb la (some ⟨g, o, none⟩) lc pc L P ∧ z71.heap[fb]? = some (.cells #[.int .i64 fq, .bool bx, .bool bf, .string tx] 33)) := hide ⟨(unhide E7).1.nigh (Nigh.of_touch ht71) hs71 (unhide HBe) hhb hbb, (ht71.block _ (by omega)).trans (unhide E7).2⟩
        clear hs71 ht71 hrx
        go_wp2_with fail
        refine hK.out _ _ (unhide SY _ (unhide E71).1) (fun _ => ?_)
        clear hK K
        try simp only [Act.put, List.setIfInBounds_toArray, List.set_cons_zero, List.set_cons_succ, List.getElem_toArray, List.getElem_cons_zero, List.getElem_cons_succ]
        refine wpAnyH_take (i := 11) (v := ?vg11_11) rfl (by kernel_rfl) (by kernel_rfl) (by kernel_rfl) (fun _ _ _ h => h) (Or.inl ⟨by rfl, ?hyg11_11⟩) (by assumption) ?_
        case hyg11_11 =>
          intro w hSw
          try dsimp only at hSw
          go_simp
          try with_reducible rfl
        try simp only [Act.put, List.setIfInBounds_toArray, List.set_cons_zero, List.set_cons_succ, List.getElem_toArray, List.getElem_cons_zero, List.getElem_cons_succ]
        refine wpAnyH_take (i := 12) (v := ?vg12_12) rfl (by kernel_rfl) (by kernel_rfl) (by kernel_rfl) (fun _ _ _ h => h) (Or.inl ⟨by rfl, ?hyg12_12⟩) (by assumption) ?_
        case hyg12_12 =>
          intro w hSw
          try dsimp only at hSw
          go_simp
          try with_reducible rfl
        try simp only [Act.put, List.setIfInBounds_toArray, List.set_cons_zero, List.set_cons_succ, List.getElem_toArray, List.getElem_cons_zero, List.getElem_cons_succ]
        refine wpAnyH_ready (rs := [13]) (by kernel_rfl) (by simp) ?_
        refine AllReadyH.cons rfl (fun K hK => ?_) (AllReadyH.nil)
        have c9 := (row4g (unhide E71).2).1
        have fz9 := frz (unhide E71).2 0
        obtain ⟨x9, hx9⟩ : ∃ x9, IntKind.i64.wrap (s9 + (rx : Int)) = x9 := ⟨_, rfl⟩
        have ZF : Hid (Hs w (z71.setCell ⟨fb, 0, none⟩ (.int .i64 x9)) B sl n hb bb la (some ⟨g, o, none⟩) lc pc L P ∧ (z71.setCell ⟨fb, 0, none⟩ (.int .i64 x9)).heap[fb]? = some (.cells #[.int .i64 x9, .bool bx, .bool bf, .string tx] 33)) := hide ⟨(unhide E71).1.setF (unhide E71).2 _ (by have := unhide HBe; omega) (by omega) (unhide HPF), by rw [heap_setCell_same _ _ 0 _ _ _ (unhide E71).2]; rfl⟩
        rw [hx9]
        go_simp
        clear c9 fz9 hx9
        refine hK.out _ _ (unhide SY _ (unhide ZF).1) (fun _ => ?_)
        clear hK K
        try simp only [Act.put, List.setIfInBounds_toArray, List.set_cons_zero, List.set_cons_succ, List.getElem_toArray, List.getElem_cons_zero, List.getElem_cons_succ]
        refine wpAnyH_done (by kernel_rfl) ?_ _
        go_upto_region 9 with fail
        generalize z71.setCell ⟨fb, 0, none⟩ (.int .i64 x9) = y8 at ZF ⊢
        clear SY
        have SX : Hid (∀ y9 : World, y9.heap[bb]? = some (.cells #[.slice la L.length lc, .slice (some ⟨g, o, none⟩) P.length pc] 29) → y9.heap[fb]? = some (.cells #[.int .i64 x9, .bool bx, .bool bf, .string tx] 33) → (y9.cell? ⟨bb, 0, none⟩ = some (.slice la L.length lc) ∧ y9.cell? ⟨bb, 1, none⟩ = some (.slice (some ⟨g, o, none⟩) P.length pc) ∧ y9.cell? ⟨fb, 0, none⟩ = some (.int .i64 x9) ∧ y9.cell? ⟨fb, 1, none⟩ = some (.bool bx) ∧ y9.cell? ⟨fb, 2, none⟩ = some (.bool bf) ∧ y9.cell? ⟨fb, 3, none⟩ = some (.string tx))) := hide fun y9 h1 h2 => by
          obtain ⟨m0, m1⟩ := row2b h1
          obtain ⟨k0, k1, k2, k3⟩ := row4g h2
          exact ⟨m0, m1, k0, k1, k2, k3⟩
        have F9 : Hid (Hs w y8.drew B sl n hb bb la (some ⟨g, o, none⟩) lc pc L P ∧ y8.drew.heap[fb]? = some (.cells #[.int .i64 x9, .bool bx, .bool bf, .string tx] 33)) := hide ⟨(unhide ZF).1.below ((Below.refl _ _).drew) (unhide HBe) hhb hbb, (unhide ZF).2⟩
        refine wp_region_held_drew (S := fun y9 => y9.cell? ⟨bb, 0, none⟩ = some (.slice la L.length lc) ∧ y9.cell? ⟨bb, 1, none⟩ = some (.slice (some ⟨g, o, none⟩) P.length pc) ∧ y9.cell? ⟨fb, 0, none⟩ = some (.int .i64 x9) ∧ y9.cell? ⟨fb, 1, none⟩ = some (.bool bx) ∧ y9.cell? ⟨fb, 2, none⟩ = some (.bool bf) ∧ y9.cell? ⟨fb, 3, none⟩ = some (.string tx)) (by kernel_rfl) (unhide SX _ (unhide F9).1.b (unhide F9).2) (fun hHeld => ?_)
        generalize y8.drew = yy at F9 hHeld ⊢
        refine wpAnyH_take (i := 0) (v := ?vfc1_0) rfl (by kernel_rfl) (by kernel_rfl) (by kernel_rfl) (fun _ _ _ h => h) (Or.inl ⟨by rfl, ?hyfc1_0⟩) (by assumption) ?_
        case hyfc1_0 =>
          intro w hSw
          try dsimp only at hSw
          go_simp
          try with_reducible rfl
        try simp only [Act.put, List.setIfInBounds_toArray, List.set_cons_zero, List.set_cons_succ, List.getElem_toArray, List.getElem_cons_zero]
        refine wpAnyH_take (i := 1) (v := ?vfc2_1) rfl (by kernel_rfl) (by kernel_rfl) (by kernel_rfl) (fun _ _ _ h => h) (Or.inl ⟨by rfl, ?hyfc2_1⟩) (by assumption) ?_
        case hyfc2_1 =>
          intro w hSw
          try dsimp only at hSw
          go_simp
          try with_reducible rfl
        try simp only [Act.put, List.setIfInBounds_toArray, List.set_cons_zero, List.set_cons_succ, List.getElem_toArray, List.getElem_cons_zero, List.getElem_cons_succ]
        refine wpAnyH_take (i := 2) (v := ?vfc3_2) rfl (by kernel_rfl) (by kernel_rfl) (by kernel_rfl) (fun _ _ _ h => h) (Or.inl ⟨by rfl, ?hyfc3_2⟩) (by assumption) ?_
        case hyfc3_2 =>
          intro w hSw
          try dsimp only at hSw
          go_simp
          try with_reducible rfl
        try simp only [Act.put, List.setIfInBounds_toArray, List.set_cons_zero, List.set_cons_succ, List.getElem_toArray, List.getElem_cons_zero, List.getElem_cons_succ]
        refine wpAnyH_ready (rs := [3]) (by kernel_rfl) (by simp) ?_
        refine AllReadyH.cons rfl (fun K hK => ?_) (AllReadyH.nil)
        obtain ⟨r0, r1⟩ := row2b (unhide F9).1.r1
        have f0 := frz (unhide F9).1.r1 0
        have f1 := frz (unhide F9).1.r1 1
        have O1 := hide ((unhide F9).1.out1 (by have := unhide HBe; omega) (by have := unhide HBe; omega) (unhide F9).2)
        go_simp
        clear r0 r1 f0 f1
        refine hK.out _ _ (unhide SX _ (unhide O1).2.2.1 (unhide O1).2.2.2.1) (fun _ => ?_)
        clear hK K
        try simp only [Act.put, List.setIfInBounds_toArray, List.set_cons_zero, List.set_cons_succ, List.getElem_toArray, List.getElem_cons_zero, List.getElem_cons_succ]
        generalize (yy.setCell ⟨w.heap.size, 0, none⟩ (.slice la L.length lc)).setCell ⟨w.heap.size, 1, none⟩ (.slice (some ⟨g, o, none⟩) P.length pc) = yV at O1 ⊢
        have hSV := unhide SX _ (unhide O1).2.2.1 (unhide O1).2.2.2.1
        refine wpAnyH_take (i := 4) (v := ?vfc4_4) rfl (by kernel_rfl) (by kernel_rfl) (by kernel_rfl) (fun _ _ _ h => h) (Or.inl ⟨by rfl, ?hyfc4_4⟩) (by assumption) ?_
        case hyfc4_4 =>
          intro w hSw
          try dsimp only at hSw
          go_simp
          try with_reducible rfl
        try simp only [Act.put, List.setIfInBounds_toArray, List.set_cons_zero, List.set_cons_succ, List.getElem_toArray, List.getElem_cons_zero, List.getElem_cons_succ]
        refine wpAnyH_ready (rs := [5]) (by kernel_rfl) (by simp) ?_
        refine AllReadyH.cons rfl (fun K hK => ?_) (AllReadyH.nil)
        obtain ⟨c0, c1, c2, c3, f0, f1, f2, f3⟩ := row4d (unhide O1).2.1
        have O2 := hide (out2 (y0 := .int .i64 x9) (y1 := .bool bx) (y2 := .bool bf) (y3 := .string tx) (unhide O1).1 (unhide O1).2.1 (unhide O1).2.2.2.2.1 (unhide O1).2.2.2.2.2.1 (unhide O1).2.2.2.2.2.2 (by have := unhide HBe; omega))
        have O3 := hide (And.intro (((unhide O2).2.2.2.2.2 bb (by have := unhide HBe; omega)).trans (unhide O1).2.2.1) (((unhide O2).2.2.2.2.2 fb (by have := unhide HBe; omega)).trans (unhide O1).2.2.2.1))
        go_simp
        clear c0 c1 c2 c3 f0 f1 f2 f3
        refine hK.out _ _ (unhide SX _ (unhide O3).1 (unhide O3).2) (fun _ => ?_)
        clear hK K
        try simp only [Act.put, List.setIfInBounds_toArray, List.set_cons_zero, List.set_cons_succ, List.getElem_toArray, List.getElem_cons_zero, List.getElem_cons_succ]
        refine wpAnyH_done (by kernel_rfl) ?_ _
        go_wp2
        refine bodyPost_ret (v := .tuple #[.agg #[.slice la L.length lc, .slice (some ⟨g, o, none⟩) P.length pc], .int .i64 x, .agg #[.int .i64 x9, .bool bx, .bool bf, .string tx]]) (by simp [results, Try.results20, asAddr, loadB (unhide O2).1, loadGf (unhide O2).2.1]) rfl ?_
        exact ⟨la, some ⟨g, o, none⟩, lc, pc, L, P, x, ⟨x9, bx, bf, tx⟩, rfl, (unhide O2).2.2.1, (unhide O2).2.2.2.1.f, hpc, hL8, hP100, (unhide O2).2.2.2.2.1⟩
    · have dP : ¬ ((0 : Int) < (P.length : Int)) := by omega
      go_upto_region 9 with fail
      clear m0 m1
      have SX : Hid (∀ y9 : World, y9.heap[bb]? = some (.cells #[.slice la L.length lc, .slice pa P.length pc] 29) → y9.heap[fb]? = some (.cells #[.int .i64 fq, .bool bx, .bool bf, .string tx] 33) → (y9.cell? ⟨bb, 0, none⟩ = some (.slice la L.length lc) ∧ y9.cell? ⟨bb, 1, none⟩ = some (.slice pa P.length pc) ∧ y9.cell? ⟨fb, 0, none⟩ = some (.int .i64 fq) ∧ y9.cell? ⟨fb, 1, none⟩ = some (.bool bx) ∧ y9.cell? ⟨fb, 2, none⟩ = some (.bool bf) ∧ y9.cell? ⟨fb, 3, none⟩ = some (.string tx))) := hide fun y9 h1 h2 => by
        obtain ⟨m0, m1⟩ := row2b h1
        obtain ⟨k0, k1, k2, k3⟩ := row4g h2
        exact ⟨m0, m1, k0, k1, k2, k3⟩
      have F9 : Hid (Hs w q2.drew B sl n hb bb la pa lc pc L P ∧ q2.drew.heap[fb]? = some (.cells #[.int .i64 fq, .bool bx, .bool bf, .string tx] 33)) := hide ⟨(unhide E5).1.below ((Below.refl _ _).drew) (unhide HBe) hhb hbb, (unhide E5).2⟩
      refine wp_region_held_drew (S := fun y9 => y9.cell? ⟨bb, 0, none⟩ = some (.slice la L.length lc) ∧ y9.cell? ⟨bb, 1, none⟩ = some (.slice pa P.length pc) ∧ y9.cell? ⟨fb, 0, none⟩ = some (.int .i64 fq) ∧ y9.cell? ⟨fb, 1, none⟩ = some (.bool bx) ∧ y9.cell? ⟨fb, 2, none⟩ = some (.bool bf) ∧ y9.cell? ⟨fb, 3, none⟩ = some (.string tx)) (by kernel_rfl) (unhide SX _ (unhide F9).1.b (unhide F9).2) (fun hHeld => ?_)
      generalize q2.drew = yy at F9 hHeld ⊢
      refine wpAnyH_take (i := 0) (v := ?vfb_1_0) rfl (by kernel_rfl) (by kernel_rfl) (by kernel_rfl) (fun _ _ _ h => h) (Or.inl ⟨by rfl, ?hyfb_1_0⟩) (by assumption) ?_
      case hyfb_1_0 =>
        intro w hSw
        try dsimp only at hSw
        go_simp
        try with_reducible rfl
      try simp only [Act.put, List.setIfInBounds_toArray, List.set_cons_zero, List.set_cons_succ, List.getElem_toArray, List.getElem_cons_zero]
      refine wpAnyH_take (i := 1) (v := ?vfb_2_1) rfl (by kernel_rfl) (by kernel_rfl) (by kernel_rfl) (fun _ _ _ h => h) (Or.inl ⟨by rfl, ?hyfb_2_1⟩) (by assumption) ?_
      case hyfb_2_1 =>
        intro w hSw
        try dsimp only at hSw
        go_simp
        try with_reducible rfl
      try simp only [Act.put, List.setIfInBounds_toArray, List.set_cons_zero, List.set_cons_succ, List.getElem_toArray, List.getElem_cons_zero, List.getElem_cons_succ]
      refine wpAnyH_take (i := 2) (v := ?vfb_3_2) rfl (by kernel_rfl) (by kernel_rfl) (by kernel_rfl) (fun _ _ _ h => h) (Or.inl ⟨by rfl, ?hyfb_3_2⟩) (by assumption) ?_
      case hyfb_3_2 =>
        intro w hSw
        try dsimp only at hSw
        go_simp
        try with_reducible rfl
      try simp only [Act.put, List.setIfInBounds_toArray, List.set_cons_zero, List.set_cons_succ, List.getElem_toArray, List.getElem_cons_zero, List.getElem_cons_succ]
      refine wpAnyH_ready (rs := [3]) (by kernel_rfl) (by simp) ?_
      refine AllReadyH.cons rfl (fun K hK => ?_) (AllReadyH.nil)
      obtain ⟨r0, r1⟩ := row2b (unhide F9).1.r1
      have f0 := frz (unhide F9).1.r1 0
      have f1 := frz (unhide F9).1.r1 1
      have O1 := hide ((unhide F9).1.out1 (by have := unhide HBe; omega) (by have := unhide HBe; omega) (unhide F9).2)
      go_simp
      clear r0 r1 f0 f1
      refine hK.out _ _ (unhide SX _ (unhide O1).2.2.1 (unhide O1).2.2.2.1) (fun _ => ?_)
      clear hK K
      try simp only [Act.put, List.setIfInBounds_toArray, List.set_cons_zero, List.set_cons_succ, List.getElem_toArray, List.getElem_cons_zero, List.getElem_cons_succ]
      generalize (yy.setCell ⟨w.heap.size, 0, none⟩ (.slice la L.length lc)).setCell ⟨w.heap.size, 1, none⟩ (.slice pa P.length pc) = yV at O1 ⊢
      have hSV := unhide SX _ (unhide O1).2.2.1 (unhide O1).2.2.2.1
      refine wpAnyH_take (i := 4) (v := ?vfb_4_4) rfl (by kernel_rfl) (by kernel_rfl) (by kernel_rfl) (fun _ _ _ h => h) (Or.inl ⟨by rfl, ?hyfb_4_4⟩) (by assumption) ?_
      case hyfb_4_4 =>
        intro w hSw
        try dsimp only at hSw
        go_simp
        try with_reducible rfl
      try simp only [Act.put, List.setIfInBounds_toArray, List.set_cons_zero, List.set_cons_succ, List.getElem_toArray, List.getElem_cons_zero, List.getElem_cons_succ]
      refine wpAnyH_ready (rs := [5]) (by kernel_rfl) (by simp) ?_
      refine AllReadyH.cons rfl (fun K hK => ?_) (AllReadyH.nil)
      obtain ⟨c0, c1, c2, c3, f0, f1, f2, f3⟩ := row4d (unhide O1).2.1
      have O2 := hide (out2 (y0 := .int .i64 fq) (y1 := .bool bx) (y2 := .bool bf) (y3 := .string tx) (unhide O1).1 (unhide O1).2.1 (unhide O1).2.2.2.2.1 (unhide O1).2.2.2.2.2.1 (unhide O1).2.2.2.2.2.2 (by have := unhide HBe; omega))
      have O3 := hide (And.intro (((unhide O2).2.2.2.2.2 bb (by have := unhide HBe; omega)).trans (unhide O1).2.2.1) (((unhide O2).2.2.2.2.2 fb (by have := unhide HBe; omega)).trans (unhide O1).2.2.2.1))
      go_simp
      clear c0 c1 c2 c3 f0 f1 f2 f3
      refine hK.out _ _ (unhide SX _ (unhide O3).1 (unhide O3).2) (fun _ => ?_)
      clear hK K
      try simp only [Act.put, List.setIfInBounds_toArray, List.set_cons_zero, List.set_cons_succ, List.getElem_toArray, List.getElem_cons_zero, List.getElem_cons_succ]
      refine wpAnyH_done (by kernel_rfl) ?_ _
      go_wp2
      refine bodyPost_ret (v := .tuple #[.agg #[.slice la L.length lc, .slice pa P.length pc], .int .i64 x, .agg #[.int .i64 fq, .bool bx, .bool bf, .string tx]]) (by simp [results, Try.results20, asAddr, loadB (unhide O2).1, loadGf (unhide O2).2.1]) rfl ?_
      exact ⟨la, pa, lc, pc, L, P, x, ⟨fq, bx, bf, tx⟩, rfl, (unhide O2).2.2.1, (unhide O2).2.2.2.1.f, hpc, hL8, hP100, (unhide O2).2.2.2.2.1⟩
end Go.Proofs.Ytfkeokfmancgiaa
