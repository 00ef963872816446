/- The law FnExactBundleRight walked: it returns true, and what lay in memory stands. -/
import Derived.Test.YtmcabmddnalihaaBdS
import Derived.Test.YtmcabmddnalihaaBdT
namespace Go.Proofs.Ytmcabmddnalihaa
open Go.RowKit
theorem keepB {w w1 w2 : World} {A : Nat} {o : Obj} (h : w1.heap[A]? = some o ∧ Below w.heap.size w w1) (hb : Below w1.heap.size w1 w2) : w2.heap[A]? = some o ∧ Below w.heap.size w w2 :=
  ⟨(hb.block _ (Array.getElem?_eq_some_iff.1 h.1).1).trans h.1, h.2.trans (hb.mono h.2.size)⟩
set_option maxHeartbeats 8000000 in
theorem lawBr (a1 b1 : Option Addr) (c1 cz : Nat) (L : List Int) (F : List Fg) (w : World) (l1 : L.length ≤ maxLen) (l2 : F.length ≤ maxLen) (h1 : ArgI w (.slice a1 L.length c1) L) (h2 : ArgG w (.slice b1 F.length cz) F) :
    Calls Try.prog 7 #[.agg #[.slice a1 L.length c1, .slice b1 F.length cz]] w fun r w' => r = .returned (.bool true) ∧ Below w.heap.size w w' := by
  have C0 := hide fun W (hb : Below w.heap.size w W) => szBd a1 b1 c1 cz L F W l1 l2 (h2.below hb)
  have CT : Hid (L.length ≤ 1048576 → F.length ≤ 1048576 → ∀ W, Below w.heap.size w W → Calls Try.prog 27 #[.agg #[.slice a1 L.length c1, .slice b1 F.length cz]] W fun r w' => ∃ u1 z1 u2 z2, r = .returned (.agg #[.slice u1 L.length z1, .slice u2 F.length z2]) ∧ HoldsI w' (.slice u1 L.length z1) L ∧ HoldsG w' (.slice u2 F.length z2) F ∧ Below W.heap.size W w') :=
    hide fun k1 k2 W hb => (toBd a1 b1 c1 cz L F W k1 k2 (h1.below hb) (h2.below hb)).mono fun r w' ⟨u1, z1, u2, z2, q1, q2, q3, _, _, q4⟩ => ⟨u1, z1, u2, z2, q1, q2, q3, q4⟩
  have CS : Hid (∀ u1 z1 u2 z2 W, HoldsI W (.slice u1 L.length z1) L → HoldsG W (.slice u2 F.length z2) F → Calls Try.prog 26 #[.agg #[.slice u1 L.length z1, .slice u2 F.length z2]] W fun e w' => e = .returned (.bool (bdOk L F)) ∧ Below W.heap.size W w') :=
    hide fun u1 z1 u2 z2 W q1 q2 => sBdRight u1 u2 z1 z2 L F W l1 l2 q1.f q2.f
  have CI : Hid (∀ u1 z1 u2 z2 W, HoldsI W (.slice u1 L.length z1) L → HoldsG W (.slice u2 F.length z2) F → Calls Try.prog 28 #[.agg #[.slice u1 L.length z1, .slice u2 F.length z2]] W fun e w' => e = .returned (.bool (bdOk L F)) ∧ Below W.heap.size W w') :=
    hide fun u1 z1 u2 z2 W q1 q2 => iBdRight u1 u2 z1 z2 L F W l1 l2 q1.f q2.f
  have CE : Hid (L.length ≤ 1048576 → F.length ≤ 1048576 → ∀ u1 z1 u2 z2 v1 y1 v2 y2 W, HoldsI W (.slice u1 L.length z1) L → HoldsG W (.slice u2 F.length z2) F → HoldsI W (.slice v1 L.length y1) L → HoldsG W (.slice v2 F.length y2) F → Calls Try.prog 22 #[.agg #[.slice u1 L.length z1, .slice u2 F.length z2], .agg #[.slice v1 L.length y1, .slice v2 F.length y2]] W fun e w' => e = .returned (.bool true) ∧ Below W.heap.size W w') :=
    hide fun k1 k2 u1 z1 u2 z2 v1 y1 v2 y2 W q1 q2 q3 q4 => eqBd u1 v1 u2 v2 z1 y1 z2 y2 L F W (by omega) (by omega) q1 q3 q2 q4
  generalize bdOk L F = RT at *
  have H0 := hide (And.intro (heap_alloc_new w (.cells #[.slice a1 L.length c1, .slice b1 F.length cz] 46)) ((Below.refl w.heap.size w).alloc (Nat.le_refl _) (.cells #[.slice a1 L.length c1, .slice b1 F.length cz] 46)))
  generalize L.length = n at *
  generalize F.length = m at *
  clear h1 h2 l1 l2
  go_enter Try.func7, Try.ntmps7
  go_wp2_with fail
  refine (unhide C0 _ (unhide H0).2).mono ?_
  rintro r w1 ⟨z, rfl, hz, hb1⟩
  have H1 := hide (keepB (unhide H0) hb1)
  clear hb1 H0 C0
  by_cases hz0 : z < 0
  · go_wp2
    go_ret
    exact ⟨rfl, (unhide H1).2⟩
  obtain ⟨k1, k2, _⟩ := hz.resolve_left (by omega)
  replace CT := hide (unhide CT k1 k2)
  replace CE := hide (unhide CE k1 k2)
  clear hz k1 k2
  obtain ⟨p0, p1⟩ := row2b (unhide H1).1
  go_wp2_with fail
  refine (unhide CT _ (unhide H1).2).mono ?_
  rintro r w2 ⟨u1, z1, u2, z2, rfl, q1, q2, hb2⟩
  have H2 := hide (keepB (unhide H1) hb2)
  have HQ := hide (And.intro q1 q2)
  clear hb2 H1 p0 p1 q1 q2
  go_wp2_with fail
  refine (unhide CS _ _ _ _ _ (unhide HQ).1 (unhide HQ).2).mono ?_
  rintro r w3 ⟨rfl, hb3⟩
  have H3 := hide (keepB (unhide H2) hb3)
  clear hb3 H2 HQ CS
  obtain ⟨p0, p1⟩ := row2b (unhide H3).1
  go_wp2_with fail
  refine (unhide CT _ (unhide H3).2).mono ?_
  rintro r w4 ⟨v1, y1, v2, y2, rfl, q1, q2, hb4⟩
  have hb5 : Below w4.heap.size w4 (w4.alloc (.cells #[.slice v1 n y1, .slice v2 m y2] 39)) := (Below.refl _ _).alloc (Nat.le_refl _) _
  have H4 := hide (keepB (keepB (unhide H3) hb4) hb5)
  have HQ := hide (And.intro (q1.below hb5 rfl) (q2.below hb5 rfl))
  have HX := hide (heap_alloc_new w4 (.cells #[.slice v1 n y1, .slice v2 m y2] 39))
  clear hb4 H3 p0 p1 q1 q2 hb5
  go_wp2_with fail
  refine (unhide CI _ _ _ _ _ (unhide HQ).1 (unhide HQ).2).mono ?_
  rintro r w6 ⟨rfl, hb6⟩
  have H6 := hide (keepB (unhide H4) hb6)
  have HQ6 := hide (And.intro ((unhide HQ).1.below hb6 rfl) ((unhide HQ).2.below hb6 rfl))
  have hX6 := (hb6.block _ (Array.getElem?_eq_some_iff.1 (unhide HX)).1).trans (unhide HX)
  obtain ⟨p0, p1⟩ := row2b (unhide H6).1
  obtain ⟨x0, x1⟩ := row2b hX6
  clear hb6 H4 HQ CI HX hX6
  go_upto_region 10 with fail
  go_region_held (fun q => q.cell? ⟨w.heap.size, 0, none⟩ = some (.slice a1 n c1) ∧ q.cell? ⟨w.heap.size, 1, none⟩ = some (.slice b1 m cz) ∧ q.cell? ⟨w4.heap.size, 0, none⟩ = some (.slice v1 n y1) ∧ q.cell? ⟨w4.heap.size, 1, none⟩ = some (.slice v2 m y2)) (go_keep) (first
    | (go_at_call 27; refine (unhide CT _ (unhide H6).2.drew).mono ?_; rintro e w7 ⟨t1, s1, t2, s2, rfl, r1, r2, hb7⟩
       have hb7' : Below w6.heap.size w6 w7 := und hb7
       have H7 := hide (keepB (unhide H6) hb7')
       have HQ7 := hide (And.intro ((unhide HQ6).1.below hb7' rfl) (And.intro ((unhide HQ6).2.below hb7' rfl) (And.intro r1 r2)))
       have j0 := keepc hb7' p0
       have j1 := keepc hb7' p1
       have j2 := keepc hb7' x0
       have j3 := keepc hb7' x1
       clear hb7 hb7' r1 r2)
    | (go_at_call 22; refine (unhide CE _ _ _ _ _ _ _ _ _ (unhide HQ7).1 (unhide HQ7).2.1 (unhide HQ7).2.2.1 (unhide HQ7).2.2.2).mono ?_; rintro e w8 ⟨rfl, hb8⟩
       have i0 := keepc hb8 j0
       have i1 := keepc hb8 j1
       have i2 := keepc hb8 j2
       have i3 := keepc hb8 j3
       have H8 := hide (keepB (unhide H7) hb8)
       clear hb8))
  all_goals
    go_wp2
    go_ret
    exact ⟨rfl, (unhide H8).2⟩
end Go.Proofs.Ytmcabmddnalihaa
