/- The law FnExactReply walked: it returns true, and what lay in memory stands. -/
import Derived.Test.YtkadbghglmlpkaaRepAll
import Derived.Test.YtkadbghglmlpkaaOptArg
namespace Go.Proofs.Ytkadbghglmlpkaa
open Go.RowKit
/-- What the law has laid: its Config, the two answers and their rows. -/
structure InvR (w : World) (b6 b8 : Nat) (cs : Array Value) (x : Int) (v0 v1 : Value) (F F1 : List Op.Opt) (W : World) : Prop where
  c : W.heap[w.heap.size]? = some (.cells cs 23)
  r6 : W.heap[b6]? = some (.cells #[.int .i64 x, v0] 34)
  r8 : W.heap[b8]? = some (.cells #[.int .i64 x, v1] 34)
  h0 : HoldsO W v0 F
  h1 : HoldsO W v1 F1
  below : Below w.heap.size w W
theorem InvR.step {w : World} {b6 b8 : Nat} {cs : Array Value} {x : Int} {v0 v1 : Value} {F F1 : List Op.Opt} {W W' : World} (h : InvR w b6 b8 cs x v0 v1 F F1 W) (hb : Below W.heap.size W W') : InvR w b6 b8 cs x v0 v1 F F1 W' :=
  ⟨(hb.block _ (Array.getElem?_eq_some_iff.1 h.c).1).trans h.c, (hb.block b6 (Array.getElem?_eq_some_iff.1 h.r6).1).trans h.r6, (hb.block b8 (Array.getElem?_eq_some_iff.1 h.r8).1).trans h.r8, h.h0.below hb rfl, h.h1.below hb rfl, h.below.trans (hb.mono h.below.size)⟩
/-- A row that holds options stands where its block does. -/
theorem holdsO_but {u v : Value} {F : List Op.Opt} {W W' : World} (h : HoldsO W v F) (hb : But u.ownBlock W W') (n : ∀ g, v.ownBlock = some g → u.ownBlock ≠ some g) : HoldsO W' v F :=
  h.imp id fun ⟨g, cp, cur, e1, e2, e3⟩ => ⟨g, cp, cur, e1, (hb.block g (Array.getElem?_eq_some_iff.1 e2).1 (n g (by rw [e1]; rfl))).trans e2, e3⟩
theorem InvR.but {w : World} {b6 b8 : Nat} {cs : Array Value} {x : Int} {u v0 v1 : Value} {F F1 F2 : List Op.Opt} {W W' : World} (h : InvR w b6 b8 cs x v0 v1 F F1 W) (hb : But u.ownBlock W W') (h1 : HoldsO W' v1 F2)
    (n1 : u.ownBlock ≠ some w.heap.size) (n2 : u.ownBlock ≠ some b6) (n3 : u.ownBlock ≠ some b8) (n4 : ∀ g, v0.ownBlock = some g → u.ownBlock ≠ some g) (n5 : ∀ g, u.ownBlock = some g → w.heap.size ≤ g) : InvR w b6 b8 cs x v0 v1 F F2 W' := by
  refine ⟨(hb.block _ (Array.getElem?_eq_some_iff.1 h.c).1 n1).trans h.c, (hb.block b6 (Array.getElem?_eq_some_iff.1 h.r6).1 n2).trans h.r6, (hb.block b8 (Array.getElem?_eq_some_iff.1 h.r8).1 n3).trans h.r8, holdsO_but h.h0 hb n4, h1, ?_⟩
  have hs := h.below.size
  exact ⟨hb.os.trans h.below.os, hb.tape.trans h.below.tape, hb.output.trans h.below.output, Nat.le_trans hs hb.size, fun b hlt => (hb.block b (by omega) fun e => by have := n5 b e; omega).trans (h.below.block b hlt)⟩
set_option maxHeartbeats 8000000 in
set_option maxRecDepth 100000 in
theorem lawRep (m a g : Int) (p c d : Bool) (v : Value) (L : List Op.Opt) (w : World) (hn : L.length ≤ maxLen) (h : ArgO w v L) :
    Calls Try.prog 4 #[.agg #[.int .i64 m, .int .i64 a, .int .i64 g, .bool p, .bool c, .bool d], v] w fun e w' => e = .returned (.bool true) ∧ Below w.heap.size w w' := by
  obtain ⟨va, vc, rfl⟩ := h.1
  have HA := hide h
  have hr0 : (w.alloc (.cells #[.int .i64 m, .int .i64 a, .int .i64 g, .bool p, .bool c, .bool d] 23)).heap[w.heap.size]? = some (.cells #[.int .i64 m, .int .i64 a, .int .i64 g, .bool p, .bool c, .bool d] 23) := heap_alloc_last w _
  have hb0 : Below w.heap.size w (w.alloc (.cells #[.int .i64 m, .int .i64 a, .int .i64 g, .bool p, .bool c, .bool d] 23)) := (Below.refl _ _).alloc (Nat.le_refl _) _
  have HR0 := hide (And.intro hr0 hb0)
  have C0 := hide (szOs _ L (w.alloc (.cells #[.int .i64 m, .int .i64 a, .int .i64 g, .bool p, .bool c, .bool d] 23)) hn (h.below ((Below.refl _ _).alloc (Nat.le_refl _) _)))
  have CT := hide fun v => toCfg m a g p c d v
  have CM := hide fun u v (hv : HoldsO v u L) => specRepAll m a g p c d L u v hn hv
  have CI := hide fun u v (hv : HoldsO v u L) => implRepAll m a g p c d L u v hn hv
  have hF := repF_len m a g p c d L
  generalize repF m a g p c d L = R at *
  obtain ⟨x, F⟩ := R
  dsimp only at hF CM CI
  have CE := hide fun ad1 cp1 ad2 cp2 v => eqAn F x ad1 ad2 cp1 cp2 v (by omega)
  have CK := hide fun ad cp v => markAn F x ad cp v (by omega)
  have CH := hide fun ad cp v => heldAn F x ad cp v (by omega)
  obtain ⟨K, hK⟩ : ∃ K : Nat, 1 + 2 * F.length = K := ⟨_, rfl⟩
  rw [hK] at CK CH
  have d2 : ¬ ((K : Int) < 0) := by omega
  clear hK h hr0 hb0
  go_enter Try.func4, Try.ntmps4
  go_wp2_with fail
  refine (unhide C0).mono ?_
  rintro e w1 ⟨z, rfl, hz, hb1⟩
  have hr1 := (hb1.block w.heap.size (Array.getElem?_eq_some_iff.1 (unhide HR0).1).1).trans (unhide HR0).1
  have hB1 := (unhide HR0).2.trans (hb1.mono (unhide HR0).2.size)
  by_cases hz0 : z < 0
  · go_wp2
    go_ret
    exact ⟨rfl, hB1⟩
  · have hn2 : L.length ≤ 1048576 := hz.1.resolve_left hz0
    have CO := hide fun v (hv : Below w.heap.size w v) => toOs (.slice va L.length vc) L v hn2 ((unhide HA).below hv)
    have CQ := hide fun u1 u2 v (h1 : HoldsO v u1 L) (h2 : HoldsO v u2 L) => eqS u1 u2 L v (by omega) h1 h2
    have CU := hide fun u v (h1 : HoldsO v u L) => markF u L v hn2 h1
    obtain ⟨J, hJ⟩ : ∃ J : Nat, 1 + 2 * L.length = J := ⟨_, rfl⟩
    rw [hJ] at CU
    have d3 : decide ((J : Int) < 0) = false := decide_eq_false (by omega)
    clear hJ HA C0 hz hn hn2
    obtain ⟨c0, c1, c2, c3, c4, c5⟩ := row6 hr1
    have H1 := hide (And.intro hr1 hB1)
    clear hr1 hB1 hb1 HR0
    go_wp2_with fail
    refine (unhide CT _).mono ?_
    rintro e w2 ⟨rfl, hb2⟩
    have H2 := hide (And.intro ((hb2.block w.heap.size (Array.getElem?_eq_some_iff.1 (unhide H1).1).1).trans (unhide H1).1) ((unhide H1).2.trans (hb2.mono (unhide H1).2.size)))
    clear c0 c1 c2 c3 c4 c5 hb2 H1
    go_wp2_with fail
    refine (unhide CO _ (unhide H2).2).mono ?_
    rintro e w3 ⟨u3, rfl, hh3, hq3, hb3⟩
    have H3 := hide (And.intro ((hb3.block w.heap.size (Array.getElem?_eq_some_iff.1 (unhide H2).1).1).trans (unhide H2).1) (And.intro ((unhide H2).2.trans (hb3.mono (unhide H2).2.size)) hh3))
    clear hb3 hh3 hq3 H2
    go_wp2_with fail
    refine (unhide CM _ _ (unhide H3).2.2).mono ?_
    rintro e w4 ⟨ad0, cp0, rfl, ho0, hb4⟩
    have H4 := hide (And.intro ((hb4.block w.heap.size (Array.getElem?_eq_some_iff.1 (unhide H3).1).1).trans (unhide H3).1) (And.intro ((unhide H3).2.1.trans (hb4.mono (unhide H3).2.1.size)) ho0))
    clear hb4 ho0 H3 CM
    go_upto_region 6 with fail
    refine gen_world (fun q => q.heap[w.heap.size]? = some (.cells #[.int .i64 m, .int .i64 a, .int .i64 g, .bool p, .bool c, .bool d] 23) ∧ q.heap[w4.heap.size]? = some (.cells #[.int .i64 x, .slice ad0 F.length cp0] 34) ∧ HoldsO q (.slice ad0 F.length cp0) F ∧ Below w.heap.size w q ∧ w4.heap.size < q.heap.size ∧ (∀ g, (Value.slice ad0 F.length cp0).ownBlock = some g → g < w4.heap.size) ∧ w.heap.size < w4.heap.size)
      (by
        obtain ⟨e1, e2, e3⟩ := unhide H4
        have hl : w.heap.size < w4.heap.size := (Array.getElem?_eq_some_iff.1 e1).1
        exact ⟨(Below.heap_alloc _ _ _ hl).trans e1, heap_alloc_new w4 _, (HoldsO.own e3).below ((Below.refl _ _).alloc (Nat.le_refl _) _) rfl, e2.alloc e2.size _, by simp, fun g hg => (World.ownsRow.lt e3 g hg).2, hl⟩) ?_
    rintro q5 ⟨g1, g2, g3, g4, g5, g6, g7⟩
    generalize w4.heap.size = b6 at *
    have H5 := hide (And.intro g1 (And.intro g2 (And.intro g3 (And.intro g4 (And.intro g5 (And.intro g6 g7))))))
    clear g1 g2 g3 g4 g5 g6 g7 H4
    go_wp2_with fail
    refine (unhide CO _ (unhide H5).2.2.2.1).mono ?_
    rintro e w6 ⟨u1, rfl, hh6, hq6, hb6⟩
    have HU : Hid (L ≠ [] → ∃ q, u1.ownBlock = some q ∧ q5.heap.size ≤ q ∧ q < w6.heap.size) := hide fun hne => by
      rcases hh6 with ⟨_, _, _, e⟩ | ⟨q, cp', cur, e, e2, _⟩
      · exact absurd e hne
      · refine ⟨q, by rw [e]; rfl, hq6 q (by rw [e]; rfl), (Array.getElem?_eq_some_iff.1 e2).1⟩
    obtain ⟨ua, uc, rfl⟩ := hh6.form
    have hs6 := hb6.size
    obtain ⟨g1, g2, g3, g4, g5, g6, g7⟩ := unhide H5
    have hr6 := (hb6.block w.heap.size (by omega)).trans g1
    have H6 := hide (And.intro hr6 (And.intro ((hb6.block b6 g5).trans g2) (And.intro (g3.below hb6 rfl) (And.intro (g4.trans (hb6.mono g4.size)) (And.intro hh6 (And.intro g6 (And.intro g5 (And.intro g7 hs6))))))))
    obtain ⟨c0, c1, c2, c3, c4, c5⟩ := row6 hr6
    clear g1 g2 g3 g4 g5 g6 g7 hr6 hb6 hh6 hq6 H5 hs6
    go_wp2_with fail
    refine (unhide CT _).mono ?_
    rintro e w7 ⟨rfl, hb7⟩
    have HB7 := hide hb7
    clear hb7 c0 c1 c2 c3 c4 c5
    go_wp2_with fail
    refine (unhide CI _ _ ((unhide H6).2.2.2.2.1.below (unhide HB7) rfl)).mono ?_
    rintro e w8 ⟨ad1, cp1, rfl, ho1, hb8⟩
    go_upto_region 8 with fail
    have HI : Hid (InvR w b6 w8.heap.size #[.int .i64 m, .int .i64 a, .int .i64 g, .bool p, .bool c, .bool d] x (.slice ad0 F.length cp0) (.slice ad1 F.length cp1) F F (w8.alloc (.cells #[.int .i64 x, .slice ad1 F.length cp1] 34)) ∧ HoldsO (w8.alloc (.cells #[.int .i64 x, .slice ad1 F.length cp1] 34)) (.slice ua L.length uc) L) := by
      obtain ⟨e1, e2, e3, e4, e5, _⟩ := unhide H6
      have hb68 : Below w6.heap.size w6 (w8.alloc (.cells #[.int .i64 x, .slice ad1 F.length cp1] 34)) := (((unhide HB7).trans (hb8.mono (unhide HB7).size))).alloc (Nat.le_trans (unhide HB7).size hb8.size) _
      exact hide ⟨⟨(hb68.block _ (Array.getElem?_eq_some_iff.1 e1).1).trans e1, (hb68.block _ (Array.getElem?_eq_some_iff.1 e2).1).trans e2, heap_alloc_new w8 _, e3.below hb68 rfl, (HoldsO.own ho1).below ((Below.refl _ _).alloc (Nat.le_refl _) _) rfl, e4.trans (hb68.mono e4.size)⟩, e5.below hb68 rfl⟩
    have HN1 : Hid ((Value.slice ad1 F.length cp1).ownBlock ≠ some w.heap.size ∧ (Value.slice ad1 F.length cp1).ownBlock ≠ some b6 ∧ (Value.slice ad1 F.length cp1).ownBlock ≠ some w8.heap.size ∧ (∀ q, (Value.slice ad0 F.length cp0).ownBlock = some q → (Value.slice ad1 F.length cp1).ownBlock ≠ some q) ∧ ∀ q, (Value.slice ad1 F.length cp1).ownBlock = some q → w.heap.size ≤ q) := by
      obtain ⟨_, _, _, _, _, g6, g5, g7, hs6⟩ := unhide H6
      have h7 := (unhide HB7).size
      have hl := fun q hq => World.ownsRow.lt ho1 q hq
      refine hide ⟨fun e => ?_, fun e => ?_, fun e => ?_, fun q hq e => ?_, fun q hq => ?_⟩
      · have := (hl _ e).1; omega
      · have := (hl _ e).1; omega
      · have := (hl _ e).2; omega
      · have := (hl _ e).1; have := g6 q hq; omega
      · have := (hl _ hq).1; omega
    have HNU : Hid (L ≠ [] → (Value.slice ua L.length uc).ownBlock ≠ some w.heap.size ∧ (Value.slice ua L.length uc).ownBlock ≠ some b6 ∧ (Value.slice ua L.length uc).ownBlock ≠ some w8.heap.size ∧ (∀ q, (Value.slice ad0 F.length cp0).ownBlock = some q → (Value.slice ua L.length uc).ownBlock ≠ some q) ∧ (∀ q, (Value.slice ua L.length uc).ownBlock = some q → w.heap.size ≤ q) ∧ ∀ q, (Value.slice ad1 F.length cp1).ownBlock = some q → (Value.slice ua L.length uc).ownBlock ≠ some q) := hide fun hne => by
      obtain ⟨_, _, _, _, _, g6, g5, g7, hs6⟩ := unhide H6
      obtain ⟨q, hq, hq1, hq2⟩ := unhide HU hne
      have h7 := (unhide HB7).size
      have h8 := hb8.size
      have hl := fun q hq => World.ownsRow.lt ho1 q hq
      rw [hq]
      refine ⟨fun e => ?_, fun e => ?_, fun e => ?_, fun r hr e => ?_, fun r hr => ?_, fun r hr e => ?_⟩
      · have := Option.some.inj e; omega
      · have := Option.some.inj e; omega
      · have := Option.some.inj e; omega
      · have := Option.some.inj e; have := g6 r hr; omega
      · have := Option.some.inj hr; omega
      · have := Option.some.inj e; have := (hl r hr).1; omega
    refine gen_world (fun q => InvR w b6 w8.heap.size #[.int .i64 m, .int .i64 a, .int .i64 g, .bool p, .bool c, .bool d] x (.slice ad0 F.length cp0) (.slice ad1 F.length cp1) F F q ∧ HoldsO q (.slice ua L.length uc) L) (unhide HI) ?_
    rintro q9 hq9
    generalize w8.heap.size = b8 at *
    obtain ⟨i0, i1, _, _⟩ := row2x hq9.1.r6
    obtain ⟨m0, m1, _, _⟩ := row2x hq9.1.r8
    have H9 := hide hq9
    clear HI H6 HB7 ho1 hb8 HU hq9
    go_wp2_with fail
    refine (unhide CE _ _ _ _ _ (unhide H9).1.h1 (unhide H9).1.h0).mono ?_
    rintro e w10 ⟨rfl, hb10⟩
    have H10 := hide (And.intro ((unhide H9).1.step hb10) ((unhide H9).2.below hb10 rfl))
    clear hb10 H9 i0 i1 m0 m1
    go_wp2_with fail
    refine (unhide CO _ (unhide H10).1.below).mono ?_
    rintro e w11 ⟨u11, rfl, hh11, _, hb11⟩
    have H11 := hide (And.intro ((unhide H10).1.step hb11) (And.intro ((unhide H10).2.below hb11 rfl) hh11))
    obtain ⟨ub, ud, rfl⟩ := hh11.form
    clear hb11 hh11 H10
    go_wp2_with fail
    refine (unhide CQ _ _ _ (unhide H11).2.1 (unhide H11).2.2).mono ?_
    rintro e w12 ⟨rfl, hb12⟩
    have H12 := hide (And.intro ((unhide H11).1.step hb12) ((unhide H11).2.1.below hb12 rfl))
    clear hb12 H11
    go_wp2_with fail
    refine (unhide CU _ _ (unhide H12).2).mono ?_
    rintro e w13 ⟨rfl, hh13, hb13, hb13'⟩
    have hI13 : InvR w b6 b8 #[.int .i64 m, .int .i64 a, .int .i64 g, .bool p, .bool c, .bool d] x (.slice ad0 F.length cp0) (.slice ad1 F.length cp1) F F w13 := by
      by_cases hne : L = []
      · exact (unhide H12).1.step (hb13' hne)
      · obtain ⟨z1, z2, z3, z4, z5, z6⟩ := unhide HNU hne
        exact (unhide H12).1.but hb13 (holdsO_but (unhide H12).1.h1 hb13 z6) z1 z2 z3 z4 z5
    obtain ⟨i0, i1, _, _⟩ := row2x hI13.r6
    obtain ⟨m0, m1, _, _⟩ := row2x hI13.r8
    have H13 := hide hI13
    clear hI13 hh13 hb13 hb13' H12 HNU CQ CU
    go_wp2_with fail
    refine (unhide CE _ _ _ _ _ (unhide H13).h1 (unhide H13).h0).mono ?_
    rintro e w14 ⟨rfl, hb14⟩
    have hI14 := (unhide H13).step hb14
    clear i0 i1 m0 m1
    obtain ⟨m0, m1, _, _⟩ := row2x hI14.r8
    have H14 := hide hI14
    clear hb14 hI14 H13
    go_wp2_with fail
    refine (unhide CK _ _ _ (unhide H14).h1).mono ?_
    rintro e w15 ⟨rfl, hh15, hb15, hb15'⟩
    have hI15 : InvR w b6 b8 #[.int .i64 m, .int .i64 a, .int .i64 g, .bool p, .bool c, .bool d] x (.slice ad0 F.length cp0) (.slice ad1 F.length cp1) F (mfd 1 F.length) w15 := by
      obtain ⟨z1, z2, z3, z4, z5⟩ := unhide HN1
      exact (unhide H14).but hb15 hh15 z1 z2 z3 z4 z5
    clear m0 m1
    obtain ⟨m0, m1, _, _⟩ := row2x hI15.r8
    have H15 := hide hI15
    clear hI15 hh15 hb15 hb15' H14 HN1
    go_wp2_with fail
    refine (unhide CH _ _ _ (unhide H15).h1).mono ?_
    rintro e w16 ⟨rfl, hb16⟩
    have hI16 := (unhide H15).step hb16
    clear m0 m1
    obtain ⟨c0, c1, c2, c3, c4, c5⟩ := row6 hI16.c
    have H16 := hide hI16
    clear hb16 hI16 H15
    go_wp2_with fail
    refine (unhide CT _).mono ?_
    rintro e w17 ⟨rfl, hb17⟩
    have H17 := hide ((unhide H16).step hb17)
    clear c0 c1 c2 c3 c4 c5 hb17 H16
    go_wp2_with fail
    refine (unhide CO _ (unhide H17).below).mono ?_
    rintro e w18 ⟨u18, rfl, hh18, _, hb18⟩
    have H18 := hide (And.intro ((unhide H17).step hb18) hh18)
    clear hh18 hb18 H17
    go_wp2_with fail
    refine (unhide CI _ _ (unhide H18).2).mono ?_
    rintro e w19 ⟨ad2, cp2, rfl, ho2, hb19⟩
    go_upto_region 25 with fail
    refine gen_world (fun q => InvR w b6 b8 #[.int .i64 m, .int .i64 a, .int .i64 g, .bool p, .bool c, .bool d] x (.slice ad0 F.length cp0) (.slice ad1 F.length cp1) F (mfd 1 F.length) q ∧ q.heap[w19.heap.size]? = some (.cells #[.int .i64 x, .slice ad2 F.length cp2] 34) ∧ HoldsO q (.slice ad2 F.length cp2) F)
      ⟨((unhide H18).1.step hb19).step ((Below.refl _ _).alloc (Nat.le_refl _) _), heap_alloc_new w19 _, (HoldsO.own ho2).below ((Below.refl _ _).alloc (Nat.le_refl _) _) rfl⟩ ?_
    rintro q20 hq20
    generalize w19.heap.size = b12 at *
    obtain ⟨i0, i1, _, _⟩ := row2x hq20.1.r6
    obtain ⟨m0, m1, _, _⟩ := row2x hq20.2.1
    have H20 := hide hq20
    clear hq20 ho2 hb19 H18
    go_wp2_with fail
    refine (unhide CE _ _ _ _ _ (unhide H20).2.2 (unhide H20).1.h0).mono ?_
    rintro e w21 ⟨rfl, hb21⟩
    have hI21 := (unhide H20).1.step hb21
    clear i0 i1 m0 m1
    obtain ⟨m0, m1, _, _⟩ := row2x hI21.r8
    have H21 := hide hI21
    clear hb21 hI21 H20
    go_wp2_with fail
    refine (unhide CH _ _ _ (unhide H21).h1).mono ?_
    rintro e w22 ⟨rfl, hb22⟩
    have H22 := hide ((unhide H21).step hb22).below
    clear hb22 H21 m0 m1
    go_wp2
    go_ret
    exact ⟨rfl, unhide H22⟩
end Go.Proofs.Ytkadbghglmlpkaa
