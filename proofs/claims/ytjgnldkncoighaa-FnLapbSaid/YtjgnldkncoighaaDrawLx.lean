/- The draws of an end of a line, and of what is done with it; what lay in memory stands. -/
import Derived.Test.YtjgnldkncoighaaDrawLp
import Derived.Test.YtjgnldkncoighaaSrcNew
namespace Go.Proofs.Ytjgnldkncoighaa
open Go.RowKit
/-- A draw of an end under way: the result's place, the end and the frame, the drawer. -/
structure Dst (w W : World) (S : Nat) (sl : Value) (n A F : Nat) (p : Lp) (v : Value) (L : List ByteArray) (f : Nb) : Prop where
  r : W.heap[w.heap.size]? = some (.cells #[.int .i64 0, .int .i64 0, .int .i64 0, .int .i64 0, .slice none 0 0, .bool false] 25)
  a : W.heap[A]? = some (.cells (lpC p v) 25)
  f : W.heap[F]? = some (.cells #[.int .i64 f.kind, .int .i64 f.ns, .int .i64 f.nr, .string f.text] 30)
  h : HoldsS W v L
  s : Src W S sl n
  b : Below w.heap.size w W
  l1 : w.heap.size < S
  l2 : S < A
  l3 : A < F
/-- The same, behind the world that the drawer was made in. -/
structure Dsx (w1 w W : World) (S : Nat) (sl : Value) (n A F : Nat) (p : Lp) (v : Value) (L : List ByteArray) (f : Nb) : Prop extends Dst w W S sl n A F p v L f where
  bs : Below S w1 W
/-- The end is laid in the result's place. -/
structure Dse (w W : World) (S : Nat) (sl : Value) (n A : Nat) (p1 p2 p3 p4 : Int) (p5 : Bool) (v : Value) (L : List ByteArray) : Prop where
  r : W.heap[w.heap.size]? = some (.cells #[.int .i64 p1, .int .i64 p2, .int .i64 p3, .int .i64 p4, v, .bool p5] 25)
  a : W.heap[A]? = some (.cells #[.int .i64 p1, .int .i64 p2, .int .i64 p3, .int .i64 p4, v, .bool p5] 25)
  h : HoldsS W v L
  s : Src W S sl n
  b : Below w.heap.size w W
  l1 : w.heap.size < S
  l2 : S < A
theorem fin6 {w W : World} {p1 p2 p3 p4 : Int} {p5 : Bool} {v : Value} {L : List ByteArray} {cs : Array Value} (hr : W.heap[w.heap.size]? = some (.cells cs 25)) (hz : cs = #[.int .i64 0, .int .i64 0, .int .i64 0, .int .i64 0, .slice none 0 0, .bool false] := by rfl) (hh : HoldsS W v L) (hb : Below w.heap.size w W) :
    (loadVar 25 ⟨w.heap.size, 0, none⟩).run Try.prog ((((((W.setCell ⟨w.heap.size, 0, none⟩ (.int .i64 p1)).setCell ⟨w.heap.size, 1, none⟩ (.int .i64 p2)).setCell ⟨w.heap.size, 2, none⟩ (.int .i64 p3)).setCell ⟨w.heap.size, 3, none⟩ (.int .i64 p4)).setCell ⟨w.heap.size, 4, none⟩ v).setCell ⟨w.heap.size, 5, none⟩ (.bool p5)) = .ok (.agg #[.int .i64 p1, .int .i64 p2, .int .i64 p3, .int .i64 p4, v, .bool p5]) ((((((W.setCell ⟨w.heap.size, 0, none⟩ (.int .i64 p1)).setCell ⟨w.heap.size, 1, none⟩ (.int .i64 p2)).setCell ⟨w.heap.size, 2, none⟩ (.int .i64 p3)).setCell ⟨w.heap.size, 3, none⟩ (.int .i64 p4)).setCell ⟨w.heap.size, 4, none⟩ v).setCell ⟨w.heap.size, 5, none⟩ (.bool p5)) ∧
      HoldsS ((((((W.setCell ⟨w.heap.size, 0, none⟩ (.int .i64 p1)).setCell ⟨w.heap.size, 1, none⟩ (.int .i64 p2)).setCell ⟨w.heap.size, 2, none⟩ (.int .i64 p3)).setCell ⟨w.heap.size, 3, none⟩ (.int .i64 p4)).setCell ⟨w.heap.size, 4, none⟩ v).setCell ⟨w.heap.size, 5, none⟩ (.bool p5)) v L ∧ Below w.heap.size w ((((((W.setCell ⟨w.heap.size, 0, none⟩ (.int .i64 p1)).setCell ⟨w.heap.size, 1, none⟩ (.int .i64 p2)).setCell ⟨w.heap.size, 2, none⟩ (.int .i64 p3)).setCell ⟨w.heap.size, 3, none⟩ (.int .i64 p4)).setCell ⟨w.heap.size, 4, none⟩ v).setCell ⟨w.heap.size, 5, none⟩ (.bool p5)) := by
  subst hz
  have t := touch6 (X := w.heap.size) (W := W) (.int .i64 p1) (.int .i64 p2) (.int .i64 p3) (.int .i64 p4) v (.bool p5)
  exact ⟨loadLp6 (set6_lp hr _ _ _ _ _ _), holdsS_other hh hr (by decide) (fun g _ hne => t.block g hne), ⟨t.os.trans hb.os, t.tape.trans hb.tape, t.output.trans hb.output, by rw [t.size]; exact hb.size, fun g hg => (t.block g (by omega)).trans (hb.block g hg)⟩⟩
section
variable {w1 w W W' : World} {S : Nat} {sl : Value} {n A F : Nat} {p : Lp} {v : Value} {L : List ByteArray} {f : Nb} {p1 p2 p3 p4 : Int} {p5 : Bool}
theorem nigh_low {B : Nat} (hn : Nigh S W W') (h : B ≤ S) (hS : S ≤ W.heap.size) : Below B W W' := (hn.below hS).mono h
theorem Dst.step (d : Dst w W S sl n A F p v L f) (hn : Nigh S W W') (hs : Src W' S sl n) : Dst w W' S sl n A F p v L f := by
  obtain ⟨cs, hc⟩ := d.s.cells
  have l1 := d.l1
  have l2 := d.l2
  have l3 := d.l3
  have o : ∀ {E : Nat} {x : Obj}, W.heap[E]? = some x → E ≠ S → W'.heap[E]? = some x := fun hx hne => (hn.block _ (Array.getElem?_eq_some_iff.1 hx).1 hne).trans hx
  exact ⟨o d.r (by omega), o d.a (by omega), o d.f (by omega), holdsS_other d.h hc (by decide) hn.block, hs, d.b.trans (nigh_low hn (by omega) (Nat.le_of_lt d.s.lt)), l1, l2, l3⟩
theorem Dsx.of (d : Dst w W S sl n A F p v L f) (hb : Below S w1 W) : Dsx w1 w W S sl n A F p v L f := ⟨d, hb⟩
theorem Dsx.step (d : Dsx w1 w W S sl n A F p v L f) (hn : Nigh S W W') (hs : Src W' S sl n) : Dsx w1 w W' S sl n A F p v L f :=
  ⟨d.toDst.step hn hs, d.bs.trans (hn.below (Nat.le_of_lt d.s.lt))⟩
theorem Dse.step (d : Dse w W S sl n A p1 p2 p3 p4 p5 v L) (hn : Nigh S W W') (hs : Src W' S sl n) : Dse w W' S sl n A p1 p2 p3 p4 p5 v L := by
  obtain ⟨cs, hc⟩ := d.s.cells
  have l1 := d.l1
  have l2 := d.l2
  have o : ∀ {E : Nat} {x : Obj}, W.heap[E]? = some x → E ≠ S → W'.heap[E]? = some x := fun hx hne => (hn.block _ (Array.getElem?_eq_some_iff.1 hx).1 hne).trans hx
  exact ⟨o d.r (by omega), o d.a (by omega), holdsS_other d.h hc (by decide) hn.block, hs, d.b.trans (nigh_low hn (by omega) (Nat.le_of_lt d.s.lt)), l1, l2⟩
theorem Dse.ld (d : Dse w W S sl n A p1 p2 p3 p4 p5 v L) : (loadVar 25 ⟨w.heap.size, 0, none⟩).run Try.prog W = .ok (.agg #[.int .i64 p1, .int .i64 p2, .int .i64 p3, .int .i64 p4, v, .bool p5]) W := loadLp6 d.r
theorem Dsx.put6 (d : Dsx w1 w W S sl n A F ⟨p1, p2, p3, p4, p5⟩ v L f) : Dse w ((((((W.setCell ⟨w.heap.size, 0, none⟩ (.int .i64 p1)).setCell ⟨w.heap.size, 1, none⟩ (.int .i64 p2)).setCell ⟨w.heap.size, 2, none⟩ (.int .i64 p3)).setCell ⟨w.heap.size, 3, none⟩ (.int .i64 p4)).setCell ⟨w.heap.size, 4, none⟩ v).setCell ⟨w.heap.size, 5, none⟩ (.bool p5)) S sl n A p1 p2 p3 p4 p5 v L := by
  have t := touch6 (X := w.heap.size) (W := W) (.int .i64 p1) (.int .i64 p2) (.int .i64 p3) (.int .i64 p4) v (.bool p5)
  have l1 := d.l1
  have l2 := d.l2
  exact ⟨set6_lp d.r _ _ _ _ _ _, (t.block A (by omega)).trans d.a, holdsS_other d.h d.r (by decide) (fun g _ hne => t.block g hne), d.s.same (t.block S (by omega)), (fin6 (v := v) d.r rfl d.h d.b).2.2, l1, l2⟩
theorem Dsx.putF (d : Dsx w1 w W S sl n A F p v L f) {f' : Nb} (ht : Touch F W W') (hc : W'.heap[F]? = some (.cells #[.int .i64 f'.kind, .int .i64 f'.ns, .int .i64 f'.nr, .string f'.text] 30)) : Dsx w1 w W' S sl n A F p v L f' := by
  have l1 := d.l1
  have l2 := d.l2
  have l3 := d.l3
  have o : ∀ {E : Nat} {x : Obj}, W.heap[E]? = some x → E ≠ F → W'.heap[E]? = some x := fun hx hne => (ht.block _ hne).trans hx
  exact ⟨⟨o d.r (by omega), o d.a (by omega), hc, holdsS_other d.h d.f (by decide) (fun g _ hne => ht.block g hne), d.s.same (ht.block S (by omega)), ⟨ht.os.trans d.b.os, ht.tape.trans d.b.tape, ht.output.trans d.b.output, by rw [ht.size]; exact d.b.size, fun g hg => (ht.block g (by omega)).trans (d.b.block g hg)⟩, l1, l2, l3⟩, ⟨ht.os.trans d.bs.os, ht.tape.trans d.bs.tape, ht.output.trans d.bs.output, by rw [ht.size]; exact d.bs.size, fun g hg => (ht.block g (by omega)).trans (d.bs.block g hg)⟩⟩
/-- Both answers laid. -/
theorem Dst.done {W2 : World} (d : Dst w W S sl n A F p v L f) (hb : ∀ g, g ≠ w.heap.size → g ≠ w.heap.size + 1 → W2.heap[g]? = W.heap[g]?) (hr : ∀ cur T, W.heap[w.heap.size + 1]? = some (.cells cur T) → T ≠ 9) (ho : W2.os = W.os) (ht : W2.tape = W.tape) (hp : W2.output = W.output) (hs : W2.heap.size = W.heap.size) : HoldsS W2 v L ∧ Below w.heap.size w W2 := by
  refine ⟨d.h.other (fun g cur _ hg => hb g (fun e => ?_) (fun e => ?_)), ⟨ho.trans d.b.os, ht.trans d.b.tape, hp.trans d.b.output, by rw [hs]; exact d.b.size, fun g hg => (hb g (by omega) (by omega)).trans (d.b.block g hg)⟩⟩
  · subst e; rw [d.r] at hg; cases hg
  · subst e; exact hr _ _ hg rfl
theorem Dst.of {w2 : World} (hr : w2.heap[w.heap.size]? = some (.cells #[.int .i64 0, .int .i64 0, .int .i64 0, .int .i64 0, .slice none 0 0, .bool false] 25)) (hh : HoldsS w2 v L) (hs : Src w2 S sl n) (hb : Below w.heap.size w w2) (l1 : w.heap.size < S) :
    Dst w ((w2.alloc (.cells (lpC p v) 25)).alloc (.cells #[.int .i64 f.kind, .int .i64 f.ns, .int .i64 f.nr, .string f.text] 30)) S sl n w2.heap.size (w2.heap.size + 1) p v L f := by
  obtain ⟨hN0, hN1, hb0, hs0⟩ := new2l w2 (.cells (lpC p v) 25) (.cells #[.int .i64 f.kind, .int .i64 f.ns, .int .i64 f.nr, .string f.text] 30)
  exact ⟨(hb0.block _ (Array.getElem?_eq_some_iff.1 hr).1).trans hr, hN0, hN1, hh.below hb0, hs.same (hb0.block S hs.lt), hb.trans (hb0.mono hb.size), l1, hs.lt, Nat.lt_succ_self _⟩
end
set_option maxHeartbeats 4000000 in
theorem drawLr (w : World) (sl : Value) (n : Nat) (hn : n ≤ maxLen) (hD : Dat w w.heap.size sl n) :
    Calls Try.prog 29 #[sl] w fun e w' => ∃ (p : Lp) (v : Value) (L : List ByteArray), e = .returned (.agg (lpC p v)) ∧ HoldsS w' v L ∧ L.length ≤ 100 ∧ Below w.heap.size w w' := by
  have HA : Hid (Below w.heap.size w (w.alloc (.cells #[.int .i64 0, .int .i64 0, .int .i64 0, .int .i64 0, .slice none 0 0, .bool false] 25))) := hide ((Below.refl _ _).alloc (Nat.le_refl _) _)
  have hs : (w.alloc (.cells #[.int .i64 0, .int .i64 0, .int .i64 0, .int .i64 0, .slice none 0 0, .bool false] 25)).heap.size = w.heap.size + 1 := by simp
  have HN := hide (heap_alloc_new w (.cells #[.int .i64 0, .int .i64 0, .int .i64 0, .int .i64 0, .slice none 0 0, .bool false] 25))
  have c := src_new (w.alloc (.cells #[.int .i64 0, .int .i64 0, .int .i64 0, .int .i64 0, .slice none 0 0, .bool false] 25)) sl n hn ((hD.below (unhide HA)).mono (by omega))
  have HD := hide ((hD.below (unhide HA)).mono (show w.heap.size ≤ w.heap.size + 1 by omega))
  rw [hs] at c
  clear hD
  go_enter Try.func29, Try.ntmps29
  go_wp2_with fail
  refine c.mono ?_
  rintro e w1 ⟨rfl, hS1, hb1⟩
  have HS1 := hide hS1
  have hl1 := hS1.lt
  have HN1 := hide ((hb1.block w.heap.size (by omega)).trans (unhide HN))
  have HB1 := hide ((unhide HA).trans (hb1.mono (by omega)))
  have HD1 := hide ((unhide HD).below hb1)
  clear hS1 c hb1 HN
  go_wp2_with fail
  refine (src_lapb w1 (w.heap.size + 1) sl n hn (unhide HS1) (unhide HD1)).mono ?_
  rintro e w2 ⟨p, v, L, f, rfl, hh, hL, hS2, hn2⟩
  have hN2 := (hn2.block w.heap.size (by omega) (by omega)).trans (unhide HN1)
  have HB2 := (unhide HB1).trans ((hn2.below (by omega)).mono (show w.heap.size ≤ w.heap.size + 1 by omega))
  have H2 := hide (Dst.of (p := p) (f := f) hN2 hh hS2 HB2 (by omega))
  have HDS : Hid (∀ W, Below (w.heap.size + 1) w1 W → Dat W (w.heap.size + 1) sl n) := hide fun W h => (unhide HD1).below h
  have hw12 := hide (hn2.below (by omega))
  obtain ⟨x9, y9, ev⟩ := hh.form
  subst ev
  obtain ⟨p1, p2, p3, p4, p5⟩ := p
  obtain ⟨f1, f2, f3, f4⟩ := f
  unfold lpC nbV
  dsimp only
  clear hn2 hN2 HB1 HN1 HB2 hh hS2
  clear HDS hw12
  go_upto_region 2 with fail
  refine gen_world (fun q => Dst w q (w.heap.size + 1) sl n w2.heap.size (w2.heap.size + 1) ⟨p1, p2, p3, p4, p5⟩ (.slice x9 L.length y9) L ⟨f1, f2, f3, f4⟩) (unhide H2) ?_
  intro q hq
  have l2 := hq.l2
  generalize w2.heap.size = A at *
  obtain ⟨c0, c1, c2, c3, c4, c5⟩ := row6l (show q.heap[A]? = some (.cells #[.int .i64 p1, .int .i64 p2, .int .i64 p3, .int .i64 p4, .slice x9 L.length y9, .bool p5] _) from hq.a)
  obtain ⟨r0, r1, r2, r3, r4, r5⟩ := row6l hq.r
  obtain ⟨z0, z1, z2, z3, z4, z5⟩ := frz6l hq.r
  have n1 : ¬ (A = w.heap.size) := by omega
  have n2 : ¬ (w.heap.size = A) := by omega
  have FIN := hide (fin6 (p1 := p1) (p2 := p2) (p3 := p3) (p4 := p4) (p5 := p5) hq.r rfl hq.h hq.b)
  clear hq H2
  go_wp2
  refine bodyPost_ret (v := .agg #[.int .i64 p1, .int .i64 p2, .int .i64 p3, .int .i64 p4, .slice x9 L.length y9, .bool p5]) (by simp [results, Try.results29, asAddr, (unhide FIN).1]) rfl ⟨⟨p1, p2, p3, p4, p5⟩, _, L, rfl, (unhide FIN).2.1, hL, (unhide FIN).2.2⟩
set_option maxHeartbeats 4000000 in
theorem drawLn (w : World) (sl : Value) (n : Nat) (hn : n ≤ maxLen) (hD : Dat w w.heap.size sl n) :
    Calls Try.prog 5 #[sl] w fun e w' => ∃ (p : Lp) (v : Value) (L : List ByteArray), e = .returned (.agg (lpC p v)) ∧ HoldsS w' v L ∧ L.length ≤ 100 ∧ Below w.heap.size w w' := by
  have hb : Below w.heap.size w (w.alloc (.cells #[.int .i64 0, .int .i64 0, .int .i64 0, .int .i64 0, .slice none 0 0, .bool false] 25)) := (Below.refl _ _).alloc (Nat.le_refl _) _
  have hs : (w.alloc (.cells #[.int .i64 0, .int .i64 0, .int .i64 0, .int .i64 0, .slice none 0 0, .bool false] 25)).heap.size = w.heap.size + 1 := by simp
  have c := drawLr (w.alloc (.cells #[.int .i64 0, .int .i64 0, .int .i64 0, .int .i64 0, .slice none 0 0, .bool false] 25)) sl n hn ((hD.below hb).mono (by omega))
  have HN := hide (heap_alloc_new w (.cells #[.int .i64 0, .int .i64 0, .int .i64 0, .int .i64 0, .slice none 0 0, .bool false] 25))
  have HB := hide hb
  rw [hs] at c
  clear hD hb
  go_enter Try.func5, Try.ntmps5
  go_wp2_with fail
  refine c.mono ?_
  rintro e w2 ⟨p, v, L, rfl, hh, hL, hb2⟩
  have hN2 := (hb2.block w.heap.size (by omega)).trans (unhide HN)
  have hB2 := (unhide HB).trans (hb2.mono (by omega))
  obtain ⟨x9, y9, ev⟩ := hh.form
  subst ev
  obtain ⟨p1, p2, p3, p4, p5⟩ := p
  unfold lpC
  dsimp only
  obtain ⟨r0, r1, r2, r3, r4, r5⟩ := row6l hN2
  obtain ⟨z0, z1, z2, z3, z4, z5⟩ := frz6l hN2
  have FIN := hide (fin6 (p1 := p1) (p2 := p2) (p3 := p3) (p4 := p4) (p5 := p5) hN2 rfl hh hB2)
  clear hN2 hB2 hh hb2 c HN HB
  go_wp2
  refine bodyPost_ret (v := .agg #[.int .i64 p1, .int .i64 p2, .int .i64 p3, .int .i64 p4, .slice x9 L.length y9, .bool p5]) (by simp [results, Try.results5, asAddr, (unhide FIN).1]) rfl ⟨⟨p1, p2, p3, p4, p5⟩, _, L, rfl, (unhide FIN).2.1, hL, (unhide FIN).2.2⟩
set_option linter.unusedSimpArgs false in
set_option maxHeartbeats 8000000 in
theorem drawLp (w : World) (sl : Value) (n : Nat) (hn : n ≤ maxLen) (hD : Dat w w.heap.size sl n) :
    Calls Try.prog 4 #[sl] w fun e w' => ∃ (p : Lp) (v : Value) (L : List ByteArray) (t : ByteArray), e = .returned (.tuple #[.agg (lpC p v), .string t]) ∧ HoldsS w' v L ∧ L.length ≤ 100 ∧ t.size ≤ 1048576 ∧ Below w.heap.size w w' := by
  have HA : Hid (Below w.heap.size w (w.alloc (.cells #[.int .i64 0, .int .i64 0, .int .i64 0, .int .i64 0, .slice none 0 0, .bool false] 25))) := hide ((Below.refl _ _).alloc (Nat.le_refl _) _)
  have hs : (w.alloc (.cells #[.int .i64 0, .int .i64 0, .int .i64 0, .int .i64 0, .slice none 0 0, .bool false] 25)).heap.size = w.heap.size + 1 := by simp
  have HN := hide (heap_alloc_new w (.cells #[.int .i64 0, .int .i64 0, .int .i64 0, .int .i64 0, .slice none 0 0, .bool false] 25))
  have c := src_new (w.alloc (.cells #[.int .i64 0, .int .i64 0, .int .i64 0, .int .i64 0, .slice none 0 0, .bool false] 25)) sl n hn ((hD.below (unhide HA)).mono (by omega))
  have HD := hide ((hD.below (unhide HA)).mono (show w.heap.size ≤ w.heap.size + 1 by omega))
  rw [hs] at c
  clear hD
  go_enter Try.func4, Try.ntmps4
  go_wp2_with fail
  refine c.mono ?_
  rintro e w1 ⟨rfl, hS1, hb1⟩
  have HS1 := hide hS1
  have hl1 := hS1.lt
  have HN1 := hide ((hb1.block w.heap.size (by omega)).trans (unhide HN))
  have HB1 := hide ((unhide HA).trans (hb1.mono (by omega)))
  have HD1 := hide ((unhide HD).below hb1)
  clear hS1 c hb1 HN
  go_wp2_with fail
  refine (src_lapb w1 (w.heap.size + 1) sl n hn (unhide HS1) (unhide HD1)).mono ?_
  rintro e w2 ⟨p, v, L, f, rfl, hh, hL, hS2, hn2⟩
  have hN2 := (hn2.block w.heap.size (by omega) (by omega)).trans (unhide HN1)
  have HB2 := (unhide HB1).trans ((hn2.below (by omega)).mono (show w.heap.size ≤ w.heap.size + 1 by omega))
  have H2 := hide (Dst.of (p := p) (f := f) hN2 hh hS2 HB2 (by omega))
  have HDS : Hid (∀ W, Below (w.heap.size + 1) w1 W → Dat W (w.heap.size + 1) sl n) := hide fun W h => (unhide HD1).below h
  have hw12 := hide (hn2.below (by omega))
  obtain ⟨x9, y9, ev⟩ := hh.form
  subst ev
  obtain ⟨p1, p2, p3, p4, p5⟩ := p
  obtain ⟨f1, f2, f3, f4⟩ := f
  unfold lpC nbV
  dsimp only
  clear hn2 hN2 HB1 HN1 HB2 hh hS2
  go_upto_region 3 with fail
  refine gen_world (fun q => Dst w q (w.heap.size + 1) sl n w2.heap.size (w2.heap.size + 1) ⟨p1, p2, p3, p4, p5⟩ (.slice x9 L.length y9) L ⟨f1, f2, f3, f4⟩ ∧ Below (w.heap.size + 1) w1 q) ⟨unhide H2, (unhide hw12).trans ((new2l w2 _ _).2.2.1.mono (Nat.le_trans (Nat.le_of_lt hl1) (unhide hw12).size))⟩ ?_
  rintro q ⟨hq, hqb⟩
  generalize w2.heap.size = A at *
  generalize A + 1 = F at *
  have HQ := hide (And.intro hq hqb)
  clear hq hqb H2 hw12
  go_wp2_with fail
  refine (src_one _ (w.heap.size + 1) sl n 12 (by decide) hn (unhide HQ).1.s (unhide HDS _ (unhide HQ).2)).mono ?_
  rintro e w3 ⟨b, rfl, hS3, ht3⟩
  have hD3 := (unhide HQ).1.step (Nigh.of_touch ht3) hS3
  have hB3 : Below (w.heap.size + 1) w1 w3 := (unhide HQ).2.trans ht3.below
  have H3d := hide (Dsx.of (hD3.step (Nigh.of_below (B := w.heap.size + 1) ((Below.refl w3.heap.size w3).drew)) (hD3.s.same rfl)) (hB3.trans (((Below.refl w3.heap.size w3).drew).mono (by have := hS3.lt; omega))))
  have SZ : Hid (∀ z : World, z.heap[A]? = some (.cells #[.int .i64 p1, .int .i64 p2, .int .i64 p3, .int .i64 p4, .slice x9 L.length y9, .bool p5] 25) → z.cell? ⟨A, 0, none⟩ = some (.int .i64 p1) ∧ z.cell? ⟨A, 1, none⟩ = some (.int .i64 p2) ∧ z.cell? ⟨A, 2, none⟩ = some (.int .i64 p3) ∧ z.cell? ⟨A, 3, none⟩ = some (.int .i64 p4) ∧ z.cell? ⟨A, 4, none⟩ = some (.slice x9 L.length y9) ∧ z.cell? ⟨A, 5, none⟩ = some (.bool p5)) := hide fun z ha => row6l ha
  clear hS3 ht3 HQ hD3 hB3
  cases b
  · go_upto_region 5 with fail
    refine wp_region_held_drew (S := fun z => z.cell? ⟨A, 0, none⟩ = some (.int .i64 p1) ∧ z.cell? ⟨A, 1, none⟩ = some (.int .i64 p2) ∧ z.cell? ⟨A, 2, none⟩ = some (.int .i64 p3) ∧ z.cell? ⟨A, 3, none⟩ = some (.int .i64 p4) ∧ z.cell? ⟨A, 4, none⟩ = some (.slice x9 L.length y9) ∧ z.cell? ⟨A, 5, none⟩ = some (.bool p5)) (by kernel_rfl) (unhide SZ _ (unhide H3d).a) (fun hHeld => ?_)
    have D0 := H3d
    generalize w3.drew = yy at D0 hHeld ⊢
    clear H3d
    refine wpAnyH_take (i := 0) (v := ?vpb1_0) rfl (by kernel_rfl) (by kernel_rfl) (by kernel_rfl) (fun _ _ _ h => h) (Or.inl ⟨by rfl, ?hypb1_0⟩) (by assumption) ?_
    case hypb1_0 =>
      intro w hSw
      try dsimp only at hSw
      go_simp
      try with_reducible rfl
    try simp only [Act.put, List.setIfInBounds_toArray, List.set_cons_zero, List.set_cons_succ, List.getElem_toArray, List.getElem_cons_zero]
    refine wpAnyH_take (i := 1) (v := ?vpb2_1) rfl (by kernel_rfl) (by kernel_rfl) (by kernel_rfl) (fun _ _ _ h => h) (Or.inl ⟨by rfl, ?hypb2_1⟩) (by assumption) ?_
    case hypb2_1 =>
      intro w hSw
      try dsimp only at hSw
      go_simp
      try with_reducible rfl
    try simp only [Act.put, List.setIfInBounds_toArray, List.set_cons_zero, List.set_cons_succ, List.getElem_toArray, List.getElem_cons_zero, List.getElem_cons_succ]
    refine wpAnyH_take (i := 2) (v := ?vpb3_2) rfl (by kernel_rfl) (by kernel_rfl) (by kernel_rfl) (fun _ _ _ h => h) (Or.inl ⟨by rfl, ?hypb3_2⟩) (by assumption) ?_
    case hypb3_2 =>
      intro w hSw
      try dsimp only at hSw
      go_simp
      try with_reducible rfl
    try simp only [Act.put, List.setIfInBounds_toArray, List.set_cons_zero, List.set_cons_succ, List.getElem_toArray, List.getElem_cons_zero, List.getElem_cons_succ]
    refine wpAnyH_ready (rs := [3]) (by kernel_rfl) (by simp) ?_
    refine AllReadyH.cons rfl (fun K hK => ?_) (AllReadyH.nil)
    go_simp
    refine (src_n yy (w.heap.size + 1) sl n 5 (by decide) hn (unhide D0).s (unhide HDS _ (unhide D0).bs)).mono ?_
    rintro e y1 ⟨r5, rfl, hr5, hS5, ht5⟩
    have hr5' : r5 < 100000 := by omega
    have hr6 : r5 ≤ 1000 := by omega
    have D1 := hide ((unhide D0).step (Nigh.of_touch ht5) hS5)
    clear hr5 hS5 ht5
    go_wp2_with fail
    refine hK.out _ _ (unhide SZ _ ((unhide D1).a)) (fun _ => ?_)
    clear hK K
    try simp only [Act.put, List.setIfInBounds_toArray, List.set_cons_zero, List.set_cons_succ, List.getElem_toArray, List.getElem_cons_zero, List.getElem_cons_succ]
    refine wpAnyH_ready (rs := [4]) (by kernel_rfl) (by simp) ?_
    refine AllReadyH.cons rfl (fun K hK => ?_) (AllReadyH.nil)
    go_simp
    refine (src_bytes_n y1 (w.heap.size + 1) sl n r5 hr5' hn (unhide D1).s (unhide HDS _ (unhide D1).bs)).mono ?_
    rintro e y2 ⟨xs, rfl, hxs, hS5, hn5⟩
    have hts : (strOfNums xs).size ≤ 1048576 := by rw [strOfNums_size]; omega
    generalize strOfNums xs = t5 at *
    have D2 := hide ((unhide D1).step hn5 hS5)
    clear hxs hS5 hn5
    go_wp2_with fail
    refine hK.out _ _ (unhide SZ _ ((unhide D2).a)) (fun _ => ?_)
    clear hK K
    try simp only [Act.put, List.setIfInBounds_toArray, List.set_cons_zero, List.set_cons_succ, List.getElem_toArray, List.getElem_cons_zero, List.getElem_cons_succ]
    refine wpAnyH_ready (rs := [5]) (by kernel_rfl) (by simp) ?_
    refine AllReadyH.cons rfl (fun K hK => ?_) (AllReadyH.nil)
    obtain ⟨r0, r1, r2, r3, r4, r5⟩ := row6l (unhide D2).r
    obtain ⟨z0, z1, z2, z3, z4, z5⟩ := frz6l (unhide D2).r
    have E3 := hide ((unhide D2).put6)
    go_simp
    clear r0 r1 r2 r3 r4 r5 z0 z1 z2 z3 z4 z5
    refine hK.out _ _ (unhide SZ _ ((unhide E3).a)) (fun _ => ?_)
    clear hK K
    try simp only [Act.put, List.setIfInBounds_toArray, List.set_cons_zero, List.set_cons_succ, List.getElem_toArray, List.getElem_cons_zero, List.getElem_cons_succ]
    generalize ((((((y2.setCell ⟨w.heap.size, 0, none⟩ (.int .i64 p1)).setCell ⟨w.heap.size, 1, none⟩ (.int .i64 p2)).setCell ⟨w.heap.size, 2, none⟩ (.int .i64 p3)).setCell ⟨w.heap.size, 3, none⟩ (.int .i64 p4)).setCell ⟨w.heap.size, 4, none⟩ (.slice x9 L.length y9)).setCell ⟨w.heap.size, 5, none⟩ (.bool p5)) = y3 at E3 ⊢
    have hSy3 := unhide SZ _ (unhide E3).a
    refine wpAnyH_take (i := 6) (v := ?vpb4_6) rfl (by kernel_rfl) (by kernel_rfl) (by kernel_rfl) (fun _ _ _ h => h) (Or.inl ⟨by rfl, ?hypb4_6⟩) (by assumption) ?_
    case hypb4_6 =>
      intro w hSw
      try dsimp only at hSw
      go_simp
      try with_reducible rfl
    try simp only [Act.put, List.setIfInBounds_toArray, List.set_cons_zero, List.set_cons_succ, List.getElem_toArray, List.getElem_cons_zero, List.getElem_cons_succ]
    refine wpAnyH_done (by kernel_rfl) ?_ _
    go_wp2
    refine bodyPost_ret (v := .tuple #[.agg #[.int .i64 p1, .int .i64 p2, .int .i64 p3, .int .i64 p4, .slice x9 L.length y9, .bool p5], .string t5]) (by simp [results, Try.results4, asAddr, (unhide E3).ld]) rfl ⟨⟨p1, p2, p3, p4, p5⟩, _, L, t5, rfl, (unhide E3).h, hL, hts, (unhide E3).b⟩
  · go_upto_region 4 with fail
    refine wp_region_held_drew (S := fun z => z.cell? ⟨A, 0, none⟩ = some (.int .i64 p1) ∧ z.cell? ⟨A, 1, none⟩ = some (.int .i64 p2) ∧ z.cell? ⟨A, 2, none⟩ = some (.int .i64 p3) ∧ z.cell? ⟨A, 3, none⟩ = some (.int .i64 p4) ∧ z.cell? ⟨A, 4, none⟩ = some (.slice x9 L.length y9) ∧ z.cell? ⟨A, 5, none⟩ = some (.bool p5)) (by kernel_rfl) (unhide SZ _ (unhide H3d).a) (fun hHeld => ?_)
    have D0 := H3d
    generalize w3.drew = yy at D0 hHeld ⊢
    clear H3d
    refine wpAnyH_take (i := 0) (v := ?vpa1_0) rfl (by kernel_rfl) (by kernel_rfl) (by kernel_rfl) (fun _ _ _ h => h) (Or.inl ⟨by rfl, ?hypa1_0⟩) (by assumption) ?_
    case hypa1_0 =>
      intro w hSw
      try dsimp only at hSw
      go_simp
      try with_reducible rfl
    try simp only [Act.put, List.setIfInBounds_toArray, List.set_cons_zero, List.set_cons_succ, List.getElem_toArray, List.getElem_cons_zero]
    refine wpAnyH_take (i := 1) (v := ?vpa2_1) rfl (by kernel_rfl) (by kernel_rfl) (by kernel_rfl) (fun _ _ _ h => h) (Or.inl ⟨by rfl, ?hypa2_1⟩) (by assumption) ?_
    case hypa2_1 =>
      intro w hSw
      try dsimp only at hSw
      go_simp
      try with_reducible rfl
    try simp only [Act.put, List.setIfInBounds_toArray, List.set_cons_zero, List.set_cons_succ, List.getElem_toArray, List.getElem_cons_zero, List.getElem_cons_succ]
    refine wpAnyH_ready (rs := [2]) (by kernel_rfl) (by simp) ?_
    refine AllReadyH.cons rfl (fun K hK => ?_) (AllReadyH.nil)
    go_simp
    refine (src_n yy (w.heap.size + 1) sl n 2 (by decide) hn (unhide D0).s (unhide HDS _ (unhide D0).bs)).mono ?_
    rintro e y1 ⟨r5, rfl, hr5, hS5, ht5⟩
    have hr5' : r5 < 2 := by omega
    have D1 := hide ((unhide D0).step (Nigh.of_touch ht5) hS5)
    clear hr5 hS5 ht5
    go_wp2_with fail
    refine hK.out _ _ (unhide SZ _ ((unhide D1).a)) (fun _ => ?_)
    clear hK K
    try simp only [Act.put, List.setIfInBounds_toArray, List.set_cons_zero, List.set_cons_succ, List.getElem_toArray, List.getElem_cons_zero, List.getElem_cons_succ]
    refine wpAnyH_take (i := 3) (v := ?vpa3_3) rfl (by kernel_rfl) (by kernel_rfl) (by kernel_rfl) (fun _ _ _ h => h) (Or.inl ⟨by rfl, ?hypa3_3⟩) (by assumption) ?_
    case hypa3_3 =>
      intro w hSw
      try dsimp only at hSw
      go_simp
      try with_reducible rfl
    try simp only [Act.put, List.setIfInBounds_toArray, List.set_cons_zero, List.set_cons_succ, List.getElem_toArray, List.getElem_cons_zero, List.getElem_cons_succ]
    refine wpAnyH_ready (rs := [4, 6]) (by kernel_rfl) (by simp) ?_
    refine AllReadyH.cons rfl (fun K hK => ?_) (AllReadyH.cons rfl (fun K hK => ?_) (AllReadyH.nil))
    · refine step_make y1 (by rfl) _ _ (by rfl) (200 + r5) _ (by rfl) (by rfl) (by rw [wrapS _ (by omega) (by omega)]; omega) (by omega) ?_
      rintro y2 ho6 hg6
      have HO6 := hide ho6
      have hb6 : Below y1.heap.size y1 y2 := (Below.refl _ _).grown hg6 (Nat.le_refl _) (fun k hk => by cases hk)
      have D2 := hide ((unhide D1).step (Nigh.of_below hb6) ((unhide D1).s.same (hb6.block _ (unhide D1).s.lt)))
      clear hg6 hb6 ho6
      refine hK.out _ _ (unhide SZ _ ((unhide D2).a)) (fun _ => ?_)
      clear hK K
      try simp only [Act.put, List.setIfInBounds_toArray, List.set_cons_zero, List.set_cons_succ, List.getElem_toArray, List.getElem_cons_zero, List.getElem_cons_succ]
      refine wpAnyH_ready (rs := [5, 6]) (by kernel_rfl) (by simp) ?_
      refine AllReadyH.cons rfl (fun K hK => ?_) (AllReadyH.cons rfl (fun K hK => ?_) (AllReadyH.nil))
      · have hcv := conv_own (unhide HO6)
        go_simp
        clear hcv
        refine hK.out _ _ (unhide SZ _ ((unhide D2).a)) (fun _ => ?_)
        clear hK K
        try simp only [Act.put, List.setIfInBounds_toArray, List.set_cons_zero, List.set_cons_succ, List.getElem_toArray, List.getElem_cons_zero, List.getElem_cons_succ]
        refine wpAnyH_ready (rs := [6]) (by kernel_rfl) (by simp) ?_
        refine AllReadyH.cons rfl (fun K hK => ?_) (AllReadyH.nil)
        obtain ⟨r0, r1, r2, r3, r4, r5⟩ := row6l (unhide D2).r
        obtain ⟨z0, z1, z2, z3, z4, z5⟩ := frz6l (unhide D2).r
        have E3 := hide ((unhide D2).put6)
        have HO7 := hide (own_at (unhide HO6) (fun g cur _ e => (touch6 (X := w.heap.size) (W := y2) (.int .i64 p1) (.int .i64 p2) (.int .i64 p3) (.int .i64 p4) (.slice x9 L.length y9) (.bool p5)).block g (fun e0 => by subst e0; rw [(unhide D2).r] at e; cases e)))
        go_simp
        clear r0 r1 r2 r3 r4 r5 z0 z1 z2 z3 z4 z5
        refine hK.out _ _ (unhide SZ _ ((unhide E3).a)) (fun _ => ?_)
        clear hK K
        try simp only [Act.put, List.setIfInBounds_toArray, List.set_cons_zero, List.set_cons_succ, List.getElem_toArray, List.getElem_cons_zero, List.getElem_cons_succ]
        generalize ((((((y2.setCell ⟨w.heap.size, 0, none⟩ (.int .i64 p1)).setCell ⟨w.heap.size, 1, none⟩ (.int .i64 p2)).setCell ⟨w.heap.size, 2, none⟩ (.int .i64 p3)).setCell ⟨w.heap.size, 3, none⟩ (.int .i64 p4)).setCell ⟨w.heap.size, 4, none⟩ (.slice x9 L.length y9)).setCell ⟨w.heap.size, 5, none⟩ (.bool p5)) = y3 at E3 HO7 ⊢
        have hSy3 := unhide SZ _ (unhide E3).a
        refine wpAnyH_take (i := 7) (v := ?vpa4_7) rfl (by kernel_rfl) (by kernel_rfl) (by kernel_rfl) (fun _ _ _ h => h) (Or.inl ⟨by rfl, ?hypa4_7⟩) (by assumption) ?_
        case hypa4_7 =>
          intro w hSw
          try dsimp only at hSw
          go_simp
          try with_reducible rfl
        try simp only [Act.put, List.setIfInBounds_toArray, List.set_cons_zero, List.set_cons_succ, List.getElem_toArray, List.getElem_cons_zero, List.getElem_cons_succ]
        refine wpAnyH_done (by kernel_rfl) ?_ _
        go_wp2
        refine bodyPost_ret (v := .tuple #[.agg #[.int .i64 p1, .int .i64 p2, .int .i64 p3, .int .i64 p4, .slice x9 L.length y9, .bool p5], .string (strOfNums (List.replicate (200 + r5) 0))]) (by simp [results, Try.results4, asAddr, (unhide E3).ld]) rfl ⟨⟨p1, p2, p3, p4, p5⟩, _, L, (strOfNums (List.replicate (200 + r5) 0)), rfl, (unhide E3).h, hL, by rw [strOfNums_size, List.length_replicate]; omega, (unhide E3).b⟩
      · obtain ⟨r0, r1, r2, r3, r4, r5⟩ := row6l (unhide D2).r
        obtain ⟨z0, z1, z2, z3, z4, z5⟩ := frz6l (unhide D2).r
        have E3 := hide ((unhide D2).put6)
        have HO7 := hide (own_at (unhide HO6) (fun g cur _ e => (touch6 (X := w.heap.size) (W := y2) (.int .i64 p1) (.int .i64 p2) (.int .i64 p3) (.int .i64 p4) (.slice x9 L.length y9) (.bool p5)).block g (fun e0 => by subst e0; rw [(unhide D2).r] at e; cases e)))
        go_simp
        clear r0 r1 r2 r3 r4 r5 z0 z1 z2 z3 z4 z5
        refine hK.out _ _ (unhide SZ _ ((unhide E3).a)) (fun _ => ?_)
        clear hK K
        try simp only [Act.put, List.setIfInBounds_toArray, List.set_cons_zero, List.set_cons_succ, List.getElem_toArray, List.getElem_cons_zero, List.getElem_cons_succ]
        generalize ((((((y2.setCell ⟨w.heap.size, 0, none⟩ (.int .i64 p1)).setCell ⟨w.heap.size, 1, none⟩ (.int .i64 p2)).setCell ⟨w.heap.size, 2, none⟩ (.int .i64 p3)).setCell ⟨w.heap.size, 3, none⟩ (.int .i64 p4)).setCell ⟨w.heap.size, 4, none⟩ (.slice x9 L.length y9)).setCell ⟨w.heap.size, 5, none⟩ (.bool p5)) = y3 at E3 HO7 ⊢
        have hSy3 := unhide SZ _ (unhide E3).a
        refine wpAnyH_ready (rs := [5]) (by kernel_rfl) (by simp) ?_
        refine AllReadyH.cons rfl (fun K hK => ?_) (AllReadyH.nil)
        have hcv := conv_own (unhide HO7)
        go_simp
        clear hcv
        refine hK.out _ _ (unhide SZ _ ((unhide E3).a)) (fun _ => ?_)
        clear hK K
        try simp only [Act.put, List.setIfInBounds_toArray, List.set_cons_zero, List.set_cons_succ, List.getElem_toArray, List.getElem_cons_zero, List.getElem_cons_succ]
        refine wpAnyH_take (i := 7) (v := ?vpa5_7) rfl (by kernel_rfl) (by kernel_rfl) (by kernel_rfl) (fun _ _ _ h => h) (Or.inl ⟨by rfl, ?hypa5_7⟩) (by assumption) ?_
        case hypa5_7 =>
          intro w hSw
          try dsimp only at hSw
          go_simp
          try with_reducible rfl
        try simp only [Act.put, List.setIfInBounds_toArray, List.set_cons_zero, List.set_cons_succ, List.getElem_toArray, List.getElem_cons_zero, List.getElem_cons_succ]
        refine wpAnyH_done (by kernel_rfl) ?_ _
        go_wp2
        refine bodyPost_ret (v := .tuple #[.agg #[.int .i64 p1, .int .i64 p2, .int .i64 p3, .int .i64 p4, .slice x9 L.length y9, .bool p5], .string (strOfNums (List.replicate (200 + r5) 0))]) (by simp [results, Try.results4, asAddr, (unhide E3).ld]) rfl ⟨⟨p1, p2, p3, p4, p5⟩, _, L, (strOfNums (List.replicate (200 + r5) 0)), rfl, (unhide E3).h, hL, by rw [strOfNums_size, List.length_replicate]; omega, (unhide E3).b⟩
    · obtain ⟨r0, r1, r2, r3, r4, r5⟩ := row6l (unhide D1).r
      obtain ⟨z0, z1, z2, z3, z4, z5⟩ := frz6l (unhide D1).r
      have E2 := hide ((unhide D1).put6)
      go_simp
      clear r0 r1 r2 r3 r4 r5 z0 z1 z2 z3 z4 z5
      refine hK.out _ _ (unhide SZ _ ((unhide E2).a)) (fun _ => ?_)
      clear hK K
      try simp only [Act.put, List.setIfInBounds_toArray, List.set_cons_zero, List.set_cons_succ, List.getElem_toArray, List.getElem_cons_zero, List.getElem_cons_succ]
      generalize ((((((y1.setCell ⟨w.heap.size, 0, none⟩ (.int .i64 p1)).setCell ⟨w.heap.size, 1, none⟩ (.int .i64 p2)).setCell ⟨w.heap.size, 2, none⟩ (.int .i64 p3)).setCell ⟨w.heap.size, 3, none⟩ (.int .i64 p4)).setCell ⟨w.heap.size, 4, none⟩ (.slice x9 L.length y9)).setCell ⟨w.heap.size, 5, none⟩ (.bool p5)) = y2 at E2 ⊢
      have hSy2 := unhide SZ _ (unhide E2).a
      refine wpAnyH_ready (rs := [4]) (by kernel_rfl) (by simp) ?_
      refine AllReadyH.cons rfl (fun K hK => ?_) (AllReadyH.nil)
      refine step_make y2 (by rfl) _ _ (by rfl) (200 + r5) _ (by rfl) (by rfl) (by rw [wrapS _ (by omega) (by omega)]; omega) (by omega) ?_
      rintro y3 ho6 hg6
      have HO6 := hide ho6
      have hb6 : Below y2.heap.size y2 y3 := (Below.refl _ _).grown hg6 (Nat.le_refl _) (fun k hk => by cases hk)
      have D3 := hide ((unhide E2).step (Nigh.of_below hb6) ((unhide E2).s.same (hb6.block _ (unhide E2).s.lt)))
      clear hg6 hb6 ho6
      refine hK.out _ _ (unhide SZ _ ((unhide D3).a)) (fun _ => ?_)
      clear hK K
      try simp only [Act.put, List.setIfInBounds_toArray, List.set_cons_zero, List.set_cons_succ, List.getElem_toArray, List.getElem_cons_zero, List.getElem_cons_succ]
      refine wpAnyH_ready (rs := [5]) (by kernel_rfl) (by simp) ?_
      refine AllReadyH.cons rfl (fun K hK => ?_) (AllReadyH.nil)
      have hcv := conv_own (unhide HO6)
      go_simp
      clear hcv
      refine hK.out _ _ (unhide SZ _ ((unhide D3).a)) (fun _ => ?_)
      clear hK K
      try simp only [Act.put, List.setIfInBounds_toArray, List.set_cons_zero, List.set_cons_succ, List.getElem_toArray, List.getElem_cons_zero, List.getElem_cons_succ]
      refine wpAnyH_take (i := 7) (v := ?vpa6_7) rfl (by kernel_rfl) (by kernel_rfl) (by kernel_rfl) (fun _ _ _ h => h) (Or.inl ⟨by rfl, ?hypa6_7⟩) (by assumption) ?_
      case hypa6_7 =>
        intro w hSw
        try dsimp only at hSw
        go_simp
        try with_reducible rfl
      try simp only [Act.put, List.setIfInBounds_toArray, List.set_cons_zero, List.set_cons_succ, List.getElem_toArray, List.getElem_cons_zero, List.getElem_cons_succ]
      refine wpAnyH_done (by kernel_rfl) ?_ _
      go_wp2
      refine bodyPost_ret (v := .tuple #[.agg #[.int .i64 p1, .int .i64 p2, .int .i64 p3, .int .i64 p4, .slice x9 L.length y9, .bool p5], .string (strOfNums (List.replicate (200 + r5) 0))]) (by simp [results, Try.results4, asAddr, (unhide D3).ld]) rfl ⟨⟨p1, p2, p3, p4, p5⟩, _, L, (strOfNums (List.replicate (200 + r5) 0)), rfl, (unhide D3).h, hL, by rw [strOfNums_size, List.length_replicate]; omega, (unhide D3).b⟩
set_option linter.unusedSimpArgs false in
set_option maxHeartbeats 8000000 in
theorem drawLh (w : World) (sl : Value) (n : Nat) (hn : n ≤ maxLen) (hD : Dat w w.heap.size sl n) :
    Calls Try.prog 6 #[sl] w fun e w' => ∃ (p : Lp) (v : Value) (L : List ByteArray) (f : Nb), e = .returned (.tuple #[.agg (lpC p v), nbV f]) ∧ HoldsS w' v L ∧ L.length ≤ 100 ∧ Below w.heap.size w w' := by
  obtain ⟨hN0, hN1, hbW, hs⟩ := new2l w (.cells #[.int .i64 0, .int .i64 0, .int .i64 0, .int .i64 0, .slice none 0 0, .bool false] 25) (.cells #[.int .i64 0, .int .i64 0, .int .i64 0, .string ⟨#[]⟩] 30)
  have HA := hide hbW
  have HN := hide (And.intro hN0 hN1)
  have c := src_new ((w.alloc (.cells #[.int .i64 0, .int .i64 0, .int .i64 0, .int .i64 0, .slice none 0 0, .bool false] 25)).alloc (.cells #[.int .i64 0, .int .i64 0, .int .i64 0, .string ⟨#[]⟩] 30)) sl n hn ((hD.below (unhide HA)).mono (by omega))
  have HD := hide ((hD.below (unhide HA)).mono (show w.heap.size ≤ w.heap.size + 2 by omega))
  rw [hs] at c
  clear hD hN0 hN1 hbW
  go_enter Try.func6, Try.ntmps6
  go_wp2_with fail
  refine c.mono ?_
  rintro e w1 ⟨rfl, hS1, hb1⟩
  have HS1 := hide hS1
  have hl1 := hS1.lt
  have HN1 := hide (And.intro ((hb1.block w.heap.size (by omega)).trans (unhide HN).1) ((hb1.block (w.heap.size + 1) (by omega)).trans (unhide HN).2))
  have HB1 := hide ((unhide HA).trans (hb1.mono (by omega)))
  have HD1 := hide ((unhide HD).below hb1)
  clear hS1 c hb1 HN
  go_wp2_with fail
  refine (src_lapb w1 (w.heap.size + 2) sl n hn (unhide HS1) (unhide HD1)).mono ?_
  rintro e w2 ⟨p, v, L, f, rfl, hh, hL, hS2, hn2⟩
  have hN2 := (hn2.block w.heap.size (by omega) (by omega)).trans (unhide HN1).1
  have HB2 := (unhide HB1).trans ((hn2.below (by omega)).mono (show w.heap.size ≤ w.heap.size + 2 by omega))
  have H2 := hide (Dst.of (p := p) (f := f) hN2 hh hS2 HB2 (by omega))
  have HF2 := hide ((Below.heap_alloc _ _ _ (by simp; have := hn2.size; omega)).trans ((Below.heap_alloc _ _ _ (by have := hn2.size; omega)).trans ((hn2.block (w.heap.size + 1) (by omega) (by omega)).trans (unhide HN1).2)) : ((w2.alloc (.cells (lpC p v) 25)).alloc (.cells #[.int .i64 f.kind, .int .i64 f.ns, .int .i64 f.nr, .string f.text] 30)).heap[w.heap.size + 1]? = some (.cells #[.int .i64 0, .int .i64 0, .int .i64 0, .string ⟨#[]⟩] 30))
  have HDS : Hid (∀ W, Below (w.heap.size + 2) w1 W → Dat W (w.heap.size + 2) sl n) := hide fun W h => (unhide HD1).below h
  have hw12 := hide (hn2.below (by omega))
  obtain ⟨x9, y9, ev⟩ := hh.form
  subst ev
  obtain ⟨p1, p2, p3, p4, p5⟩ := p
  obtain ⟨f1, f2, f3, f4⟩ := f
  unfold lpC nbV
  dsimp only
  clear hn2 hN2 HB1 HN1 HB2 hh hS2
  go_upto_region 3 with fail
  refine gen_world (fun q => Dsx w1 w q (w.heap.size + 2) sl n w2.heap.size (w2.heap.size + 1) ⟨p1, p2, p3, p4, p5⟩ (.slice x9 L.length y9) L ⟨f1, f2, f3, f4⟩ ∧ q.heap[w.heap.size + 1]? = some (.cells #[.int .i64 0, .int .i64 0, .int .i64 0, .string ⟨#[]⟩] 30)) ⟨Dsx.of (unhide H2) ((unhide hw12).trans ((new2l w2 _ _).2.2.1.mono (Nat.le_trans (Nat.le_of_lt hl1) (unhide hw12).size))), unhide HF2⟩ ?_
  rintro q hq
  have l2 := hq.1.l2
  have l3 := hq.1.l3
  generalize w2.heap.size = A at *
  generalize A + 1 = F at *
  have HQ := hide hq
  clear hq H2 hw12 HF2
  have SZ : Hid (∀ z : World, z.heap[A]? = some (.cells #[.int .i64 p1, .int .i64 p2, .int .i64 p3, .int .i64 p4, .slice x9 L.length y9, .bool p5] 25) → z.cell? ⟨A, 0, none⟩ = some (.int .i64 p1) ∧ z.cell? ⟨A, 1, none⟩ = some (.int .i64 p2) ∧ z.cell? ⟨A, 2, none⟩ = some (.int .i64 p3) ∧ z.cell? ⟨A, 3, none⟩ = some (.int .i64 p4) ∧ z.cell? ⟨A, 4, none⟩ = some (.slice x9 L.length y9) ∧ z.cell? ⟨A, 5, none⟩ = some (.bool p5)) := hide fun z ha => row6l ha
  go_wp2_with fail
  refine (src_one _ (w.heap.size + 2) sl n 2 (by decide) hn (unhide HQ).1.s (unhide HDS _ (unhide HQ).1.bs)).mono ?_
  rintro e w3 ⟨b, rfl, hS3, ht3⟩
  have H3 := hide (And.intro ((unhide HQ).1.step (Nigh.of_touch ht3) hS3) ((ht3.block (w.heap.size + 1) (by omega)).trans (unhide HQ).2))
  clear hS3 ht3 HQ
  go_upto_if 15 with fail
  go_cut [] (fun wx => ∃ f9, Dsx w1 w wx (w.heap.size + 2) sl n A F ⟨p1, p2, p3, p4, p5⟩ (.slice x9 L.length y9) L f9 ∧ wx.heap[w.heap.size + 1]? = some (.cells #[.int .i64 0, .int .i64 0, .int .i64 0, .string ⟨#[]⟩] 30))
  case first =>
    cases b
    · go_wp2_with fail
      go_meet
      exact ⟨_, unhide H3⟩
    · have H3d := hide (And.intro ((unhide H3).1.step (Nigh.of_below (B := w.heap.size + 2) ((Below.refl w3.heap.size w3).drew)) ((unhide H3).1.s.same rfl)) (unhide H3).2)
      clear H3
      go_upto_region 4 with fail
      refine wp_region_held_drew (S := fun z => z.cell? ⟨A, 0, none⟩ = some (.int .i64 p1) ∧ z.cell? ⟨A, 1, none⟩ = some (.int .i64 p2) ∧ z.cell? ⟨A, 2, none⟩ = some (.int .i64 p3) ∧ z.cell? ⟨A, 3, none⟩ = some (.int .i64 p4) ∧ z.cell? ⟨A, 4, none⟩ = some (.slice x9 L.length y9) ∧ z.cell? ⟨A, 5, none⟩ = some (.bool p5)) (by kernel_rfl) (unhide SZ _ (unhide H3d).1.a) (fun hHeld => ?_)
      have D0 : Hid (Dsx w1 w w3.drew (w.heap.size + 2) sl n A F ⟨p1, p2, p3, p4, p5⟩ (.slice x9 L.length y9) L ⟨f1, f2, f3, f4⟩ ∧ w3.drew.heap[w.heap.size + 1]? = some (.cells #[.int .i64 0, .int .i64 0, .int .i64 0, .string ⟨#[]⟩] 30)) := H3d
      generalize w3.drew = yy at D0 hHeld ⊢
      clear H3d
      refine wpAnyH_take (i := 0) (v := ?vha1_0) rfl (by kernel_rfl) (by kernel_rfl) (by kernel_rfl) (fun _ _ _ h => h) (Or.inl ⟨by rfl, ?hyha1_0⟩) (by assumption) ?_
      case hyha1_0 =>
        intro w hSw
        try dsimp only at hSw
        go_simp
        try with_reducible rfl
      try simp only [Act.put, List.setIfInBounds_toArray, List.set_cons_zero, List.set_cons_succ, List.getElem_toArray, List.getElem_cons_zero]
      refine wpAnyH_take (i := 1) (v := ?vha2_1) rfl (by kernel_rfl) (by kernel_rfl) (by kernel_rfl) (fun _ _ _ h => h) (Or.inl ⟨by rfl, ?hyha2_1⟩) (by assumption) ?_
      case hyha2_1 =>
        intro w hSw
        try dsimp only at hSw
        go_simp
        try with_reducible rfl
      try simp only [Act.put, List.setIfInBounds_toArray, List.set_cons_zero, List.set_cons_succ, List.getElem_toArray, List.getElem_cons_zero, List.getElem_cons_succ]
      refine wpAnyH_take (i := 3) (v := ?vha3_3) rfl (by kernel_rfl) (by kernel_rfl) (by kernel_rfl) (fun _ _ _ h => h) (Or.inl ⟨by rfl, ?hyha3_3⟩) (by assumption) ?_
      case hyha3_3 =>
        intro w hSw
        try dsimp only at hSw
        go_simp
        try with_reducible rfl
      try simp only [Act.put, List.setIfInBounds_toArray, List.set_cons_zero, List.set_cons_succ, List.getElem_toArray, List.getElem_cons_zero, List.getElem_cons_succ]
      refine wpAnyH_take (i := 9) (v := ?vha4_9) rfl (by kernel_rfl) (by kernel_rfl) (by kernel_rfl) (fun _ _ _ h => h) (Or.inl ⟨by rfl, ?hyha4_9⟩) (by assumption) ?_
      case hyha4_9 =>
        intro w hSw
        try dsimp only at hSw
        go_simp
        try with_reducible rfl
      try simp only [Act.put, List.setIfInBounds_toArray, List.set_cons_zero, List.set_cons_succ, List.getElem_toArray, List.getElem_cons_zero, List.getElem_cons_succ]
      refine wpAnyH_take (i := 10) (v := ?vha5_10) rfl (by kernel_rfl) (by kernel_rfl) (by kernel_rfl) (fun _ _ _ h => h) (Or.inl ⟨by rfl, ?hyha5_10⟩) (by assumption) ?_
      case hyha5_10 =>
        intro w hSw
        try dsimp only at hSw
        go_simp
        try with_reducible rfl
      try simp only [Act.put, List.setIfInBounds_toArray, List.set_cons_zero, List.set_cons_succ, List.getElem_toArray, List.getElem_cons_zero, List.getElem_cons_succ]
      refine wpAnyH_take (i := 11) (v := ?vha6_11) rfl (by kernel_rfl) (by kernel_rfl) (by kernel_rfl) (fun _ _ _ h => h) (Or.inl ⟨by rfl, ?hyha6_11⟩) (by assumption) ?_
      case hyha6_11 =>
        intro w hSw
        try dsimp only at hSw
        go_simp
        try with_reducible rfl
      try simp only [Act.put, List.setIfInBounds_toArray, List.set_cons_zero, List.set_cons_succ, List.getElem_toArray, List.getElem_cons_zero, List.getElem_cons_succ]
      refine wpAnyH_ready (rs := [2, 4]) (by kernel_rfl) (by simp) ?_
      refine AllReadyH.cons rfl (fun K hK => ?_) (AllReadyH.cons rfl (fun K hK => ?_) (AllReadyH.nil))
      · go_simp
        have hbA := (Below.refl yy.heap.size yy).alloc (Nat.le_refl _) (.cells #[.int .i64 0, .int .i64 0, .int .i64 1, .int .i64 7] 2)
        have D1 := hide (And.intro ((unhide D0).1.step (Nigh.of_below hbA) ((unhide D0).1.s.same (hbA.block _ (unhide D0).1.s.lt))) ((hbA.block _ (Array.getElem?_eq_some_iff.1 (unhide D0).2).1).trans (unhide D0).2))
        have HM1 := hide (heap_alloc_new yy (.cells #[.int .i64 0, .int .i64 0, .int .i64 1, .int .i64 7] 2))
        have hG1 : yy.heap.size ≠ w.heap.size + 2 := by have := (unhide D0).1.s.lt; omega
        clear hbA
        refine hK.out _ _ (unhide SZ _ ((unhide D1).1.a)) (fun _ => ?_)
        clear hK K
        try simp only [Act.put, List.setIfInBounds_toArray, List.set_cons_zero, List.set_cons_succ, List.getElem_toArray, List.getElem_cons_zero, List.getElem_cons_succ]
        refine wpAnyH_ready (rs := [4]) (by kernel_rfl) (by simp) ?_
        refine AllReadyH.cons rfl (fun K hK => ?_) (AllReadyH.nil)
        go_simp
        refine (src_n (yy.alloc (.cells #[.int .i64 0, .int .i64 0, .int .i64 1, .int .i64 7] 2)) (w.heap.size + 2) sl n 4 (by decide) hn (unhide D1).1.s (unhide HDS _ (unhide D1).1.bs)).mono ?_
        rintro e y2 ⟨r5, rfl, hr5, hS5, ht5⟩
        have hr5' : r5 < 4 := by omega
        have hr5i : (r5 : Int) < 4 := by omega
        have hn5 : Nigh (w.heap.size + 2) (yy.alloc (.cells #[.int .i64 0, .int .i64 0, .int .i64 1, .int .i64 7] 2)) y2 := Nigh.of_touch ht5
        have D2 := hide (And.intro ((unhide D1).1.step hn5 hS5) ((hn5.block _ (Array.getElem?_eq_some_iff.1 (unhide D1).2).1 (by omega)).trans (unhide D1).2))
        have HM2 := hide ((hn5.block _ (Array.getElem?_eq_some_iff.1 (unhide HM1)).1 hG1).trans (unhide HM1))
        clear hS5 hn5 hr5 ht5
        go_wp2_with fail
        refine hK.out _ _ (unhide SZ _ ((unhide D2).1.a)) (fun _ => ?_)
        clear hK K
        try simp only [Act.put, List.setIfInBounds_toArray, List.set_cons_zero, List.set_cons_succ, List.getElem_toArray, List.getElem_cons_zero, List.getElem_cons_succ]
        refine wpAnyH_take (i := 5) (v := ?vha7_5) rfl (by kernel_rfl) (by kernel_rfl) (by kernel_rfl) (fun _ _ _ h => h) (Or.inl ⟨by rfl, ?hyha7_5⟩) (by assumption) ?_
        case hyha7_5 =>
          intro w hSw
          try dsimp only at hSw
          go_simp
          try with_reducible rfl
        try simp only [Act.put, List.setIfInBounds_toArray, List.set_cons_zero, List.set_cons_succ, List.getElem_toArray, List.getElem_cons_zero, List.getElem_cons_succ]
        refine wpAnyH_ready (rs := [6, 12]) (by kernel_rfl) (by simp) ?_
        refine AllReadyH.cons rfl (fun K hK => ?_) (AllReadyH.cons rfl (fun K hK => ?_) (AllReadyH.nil))
        · obtain ⟨v5, hv5, _, _⟩ := lit_cell (unhide HM2) (by decide) r5 (by simpa using hr5')
          go_simp
          clear hv5
          refine hK.out _ _ (unhide SZ _ ((unhide D2).1.a)) (fun _ => ?_)
          clear hK K
          try simp only [Act.put, List.setIfInBounds_toArray, List.set_cons_zero, List.set_cons_succ, List.getElem_toArray, List.getElem_cons_zero, List.getElem_cons_succ]
          refine wpAnyH_take (i := 7) (v := ?vha8_7) rfl (by kernel_rfl) (by kernel_rfl) (by kernel_rfl) (fun _ _ _ h => h) (Or.inl ⟨by rfl, ?hyha8_7⟩) (by assumption) ?_
          case hyha8_7 =>
            intro w hSw
            try dsimp only at hSw
            go_simp
            try with_reducible rfl
          try simp only [Act.put, List.setIfInBounds_toArray, List.set_cons_zero, List.set_cons_succ, List.getElem_toArray, List.getElem_cons_zero, List.getElem_cons_succ]
          refine wpAnyH_take (i := 8) (v := ?vha9_8) rfl (by kernel_rfl) (by kernel_rfl) (by kernel_rfl) (fun _ _ _ h => h) (Or.inl ⟨by rfl, ?hyha9_8⟩) (by assumption) ?_
          case hyha9_8 =>
            intro w hSw
            try dsimp only at hSw
            go_simp
            try with_reducible rfl
          try simp only [Act.put, List.setIfInBounds_toArray, List.set_cons_zero, List.set_cons_succ, List.getElem_toArray, List.getElem_cons_zero, List.getElem_cons_succ]
          refine wpAnyH_ready (rs := [12]) (by kernel_rfl) (by simp) ?_
          refine AllReadyH.cons rfl (fun K hK => ?_) (AllReadyH.nil)
          go_simp
          refine (src_bytes_n y2 (w.heap.size + 2) sl n 2 (by decide) hn (unhide D2).1.s (unhide HDS _ (unhide D2).1.bs)).mono ?_
          rintro e y3 ⟨xs, rfl, hxs, hS5, hn5⟩
          generalize strOfNums xs = t5 at *
          have D3 := hide (And.intro ((unhide D2).1.step hn5 hS5) ((hn5.block _ (Array.getElem?_eq_some_iff.1 (unhide D2).2).1 (by omega)).trans (unhide D2).2))
          have HM3 := hide ((hn5.block _ (Array.getElem?_eq_some_iff.1 (unhide HM2)).1 hG1).trans (unhide HM2))
          clear hS5 hn5 hxs
          go_wp2_with fail
          refine hK.out _ _ (unhide SZ _ ((unhide D3).1.a)) (fun _ => ?_)
          clear hK K
          try simp only [Act.put, List.setIfInBounds_toArray, List.set_cons_zero, List.set_cons_succ, List.getElem_toArray, List.getElem_cons_zero, List.getElem_cons_succ]
          refine wpAnyH_take (i := 13) (v := ?vha10_13) rfl (by kernel_rfl) (by kernel_rfl) (by kernel_rfl) (fun _ _ _ h => h) (Or.inl ⟨by rfl, ?hyha10_13⟩) (by assumption) ?_
          case hyha10_13 =>
            intro w hSw
            try dsimp only at hSw
            go_simp
            try with_reducible rfl
          try simp only [Act.put, List.setIfInBounds_toArray, List.set_cons_zero, List.set_cons_succ, List.getElem_toArray, List.getElem_cons_zero, List.getElem_cons_succ]
          refine wpAnyH_ready (rs := [14]) (by kernel_rfl) (by simp) ?_
          refine AllReadyH.cons rfl (fun K hK => ?_) (AllReadyH.nil)
          obtain ⟨r0, r1, r2, r3, z0, z1, z2, z3⟩ := row4 (unhide D3).1.f
          have E4 : Hid (∀ x : Int, Dsx w1 w ((((y3.setCell ⟨F, 0, none⟩ (.int .i64 1)).setCell ⟨F, 1, none⟩ (.int .i64 x)).setCell ⟨F, 2, none⟩ (.int .i64 p3)).setCell ⟨F, 3, none⟩ (.string t5)) (w.heap.size + 2) sl n A F ⟨p1, p2, p3, p4, p5⟩ (.slice x9 L.length y9) L ⟨1, x, p3, t5⟩ ∧ ((((y3.setCell ⟨F, 0, none⟩ (.int .i64 1)).setCell ⟨F, 1, none⟩ (.int .i64 x)).setCell ⟨F, 2, none⟩ (.int .i64 p3)).setCell ⟨F, 3, none⟩ (.string t5)).heap[w.heap.size + 1]? = some (.cells #[.int .i64 0, .int .i64 0, .int .i64 0, .string ⟨#[]⟩] 30)) := hide fun x => ⟨(unhide D3).1.putF (f' := ⟨1, x, p3, t5⟩) (touch4 _ _ _ _) (set4_x (unhide D3).1.f _ _ _ _), ((touch4 (X := F) (W := y3) (.int .i64 1) (.int .i64 x) (.int .i64 p3) (.string t5)).block (w.heap.size + 1) (by have := (unhide D3).1.l2; have := (unhide D3).1.l3; omega)).trans (unhide D3).2⟩
          go_simp
          clear r0 r1 r2 r3 z0 z1 z2 z3
          refine hK.out _ _ (unhide SZ _ ((unhide E4 _).1.a)) (fun _ => ?_)
          clear hK K
          try simp only [Act.put, List.setIfInBounds_toArray, List.set_cons_zero, List.set_cons_succ, List.getElem_toArray, List.getElem_cons_zero, List.getElem_cons_succ]
          refine wpAnyH_done (by kernel_rfl) ?_ _
          go_wp2_with fail
          go_meet
          exact ⟨_, unhide E4 _⟩
        · go_simp
          refine (src_bytes_n y2 (w.heap.size + 2) sl n 2 (by decide) hn (unhide D2).1.s (unhide HDS _ (unhide D2).1.bs)).mono ?_
          rintro e y3 ⟨xs, rfl, hxs, hS5, hn5⟩
          generalize strOfNums xs = t5 at *
          have D3 := hide (And.intro ((unhide D2).1.step hn5 hS5) ((hn5.block _ (Array.getElem?_eq_some_iff.1 (unhide D2).2).1 (by omega)).trans (unhide D2).2))
          have HM3 := hide ((hn5.block _ (Array.getElem?_eq_some_iff.1 (unhide HM2)).1 hG1).trans (unhide HM2))
          clear hS5 hn5 hxs
          go_wp2_with fail
          refine hK.out _ _ (unhide SZ _ ((unhide D3).1.a)) (fun _ => ?_)
          clear hK K
          try simp only [Act.put, List.setIfInBounds_toArray, List.set_cons_zero, List.set_cons_succ, List.getElem_toArray, List.getElem_cons_zero, List.getElem_cons_succ]
          refine wpAnyH_ready (rs := [6]) (by kernel_rfl) (by simp) ?_
          refine AllReadyH.cons rfl (fun K hK => ?_) (AllReadyH.nil)
          obtain ⟨v5, hv5, _, _⟩ := lit_cell (unhide HM3) (by decide) r5 (by simpa using hr5')
          go_simp
          clear hv5
          refine hK.out _ _ (unhide SZ _ ((unhide D3).1.a)) (fun _ => ?_)
          clear hK K
          try simp only [Act.put, List.setIfInBounds_toArray, List.set_cons_zero, List.set_cons_succ, List.getElem_toArray, List.getElem_cons_zero, List.getElem_cons_succ]
          refine wpAnyH_take (i := 7) (v := ?vha11_7) rfl (by kernel_rfl) (by kernel_rfl) (by kernel_rfl) (fun _ _ _ h => h) (Or.inl ⟨by rfl, ?hyha11_7⟩) (by assumption) ?_
          case hyha11_7 =>
            intro w hSw
            try dsimp only at hSw
            go_simp
            try with_reducible rfl
          try simp only [Act.put, List.setIfInBounds_toArray, List.set_cons_zero, List.set_cons_succ, List.getElem_toArray, List.getElem_cons_zero, List.getElem_cons_succ]
          refine wpAnyH_take (i := 8) (v := ?vha12_8) rfl (by kernel_rfl) (by kernel_rfl) (by kernel_rfl) (fun _ _ _ h => h) (Or.inl ⟨by rfl, ?hyha12_8⟩) (by assumption) ?_
          case hyha12_8 =>
            intro w hSw
            try dsimp only at hSw
            go_simp
            try with_reducible rfl
          try simp only [Act.put, List.setIfInBounds_toArray, List.set_cons_zero, List.set_cons_succ, List.getElem_toArray, List.getElem_cons_zero, List.getElem_cons_succ]
          refine wpAnyH_take (i := 13) (v := ?vha13_13) rfl (by kernel_rfl) (by kernel_rfl) (by kernel_rfl) (fun _ _ _ h => h) (Or.inl ⟨by rfl, ?hyha13_13⟩) (by assumption) ?_
          case hyha13_13 =>
            intro w hSw
            try dsimp only at hSw
            go_simp
            try with_reducible rfl
          try simp only [Act.put, List.setIfInBounds_toArray, List.set_cons_zero, List.set_cons_succ, List.getElem_toArray, List.getElem_cons_zero, List.getElem_cons_succ]
          refine wpAnyH_ready (rs := [14]) (by kernel_rfl) (by simp) ?_
          refine AllReadyH.cons rfl (fun K hK => ?_) (AllReadyH.nil)
          obtain ⟨r0, r1, r2, r3, z0, z1, z2, z3⟩ := row4 (unhide D3).1.f
          have E4 : Hid (∀ x : Int, Dsx w1 w ((((y3.setCell ⟨F, 0, none⟩ (.int .i64 1)).setCell ⟨F, 1, none⟩ (.int .i64 x)).setCell ⟨F, 2, none⟩ (.int .i64 p3)).setCell ⟨F, 3, none⟩ (.string t5)) (w.heap.size + 2) sl n A F ⟨p1, p2, p3, p4, p5⟩ (.slice x9 L.length y9) L ⟨1, x, p3, t5⟩ ∧ ((((y3.setCell ⟨F, 0, none⟩ (.int .i64 1)).setCell ⟨F, 1, none⟩ (.int .i64 x)).setCell ⟨F, 2, none⟩ (.int .i64 p3)).setCell ⟨F, 3, none⟩ (.string t5)).heap[w.heap.size + 1]? = some (.cells #[.int .i64 0, .int .i64 0, .int .i64 0, .string ⟨#[]⟩] 30)) := hide fun x => ⟨(unhide D3).1.putF (f' := ⟨1, x, p3, t5⟩) (touch4 _ _ _ _) (set4_x (unhide D3).1.f _ _ _ _), ((touch4 (X := F) (W := y3) (.int .i64 1) (.int .i64 x) (.int .i64 p3) (.string t5)).block (w.heap.size + 1) (by have := (unhide D3).1.l2; have := (unhide D3).1.l3; omega)).trans (unhide D3).2⟩
          go_simp
          clear r0 r1 r2 r3 z0 z1 z2 z3
          refine hK.out _ _ (unhide SZ _ ((unhide E4 _).1.a)) (fun _ => ?_)
          clear hK K
          try simp only [Act.put, List.setIfInBounds_toArray, List.set_cons_zero, List.set_cons_succ, List.getElem_toArray, List.getElem_cons_zero, List.getElem_cons_succ]
          refine wpAnyH_done (by kernel_rfl) ?_ _
          go_wp2_with fail
          go_meet
          exact ⟨_, unhide E4 _⟩
      · go_simp
        refine (src_n yy (w.heap.size + 2) sl n 4 (by decide) hn (unhide D0).1.s (unhide HDS _ (unhide D0).1.bs)).mono ?_
        rintro e y1 ⟨r5, rfl, hr5, hS5, ht5⟩
        have hr5' : r5 < 4 := by omega
        have hr5i : (r5 : Int) < 4 := by omega
        have hn5 : Nigh (w.heap.size + 2) yy y1 := Nigh.of_touch ht5
        have D1 := hide (And.intro ((unhide D0).1.step hn5 hS5) ((hn5.block _ (Array.getElem?_eq_some_iff.1 (unhide D0).2).1 (by omega)).trans (unhide D0).2))
        clear hS5 hn5 hr5 ht5
        go_wp2_with fail
        refine hK.out _ _ (unhide SZ _ ((unhide D1).1.a)) (fun _ => ?_)
        clear hK K
        try simp only [Act.put, List.setIfInBounds_toArray, List.set_cons_zero, List.set_cons_succ, List.getElem_toArray, List.getElem_cons_zero, List.getElem_cons_succ]
        refine wpAnyH_ready (rs := [2, 12]) (by kernel_rfl) (by simp) ?_
        refine AllReadyH.cons rfl (fun K hK => ?_) (AllReadyH.cons rfl (fun K hK => ?_) (AllReadyH.nil))
        · go_simp
          have hbA := (Below.refl y1.heap.size y1).alloc (Nat.le_refl _) (.cells #[.int .i64 0, .int .i64 0, .int .i64 1, .int .i64 7] 2)
          have D2 := hide (And.intro ((unhide D1).1.step (Nigh.of_below hbA) ((unhide D1).1.s.same (hbA.block _ (unhide D1).1.s.lt))) ((hbA.block _ (Array.getElem?_eq_some_iff.1 (unhide D1).2).1).trans (unhide D1).2))
          have HM2 := hide (heap_alloc_new y1 (.cells #[.int .i64 0, .int .i64 0, .int .i64 1, .int .i64 7] 2))
          have hG2 : y1.heap.size ≠ w.heap.size + 2 := by have := (unhide D1).1.s.lt; omega
          clear hbA
          refine hK.out _ _ (unhide SZ _ ((unhide D2).1.a)) (fun _ => ?_)
          clear hK K
          try simp only [Act.put, List.setIfInBounds_toArray, List.set_cons_zero, List.set_cons_succ, List.getElem_toArray, List.getElem_cons_zero, List.getElem_cons_succ]
          refine wpAnyH_take (i := 5) (v := ?vha14_5) rfl (by kernel_rfl) (by kernel_rfl) (by kernel_rfl) (fun _ _ _ h => h) (Or.inl ⟨by rfl, ?hyha14_5⟩) (by assumption) ?_
          case hyha14_5 =>
            intro w hSw
            try dsimp only at hSw
            go_simp
            try with_reducible rfl
          try simp only [Act.put, List.setIfInBounds_toArray, List.set_cons_zero, List.set_cons_succ, List.getElem_toArray, List.getElem_cons_zero, List.getElem_cons_succ]
          refine wpAnyH_ready (rs := [6, 12]) (by kernel_rfl) (by simp) ?_
          refine AllReadyH.cons rfl (fun K hK => ?_) (AllReadyH.cons rfl (fun K hK => ?_) (AllReadyH.nil))
          · obtain ⟨v5, hv5, _, _⟩ := lit_cell (unhide HM2) (by decide) r5 (by simpa using hr5')
            go_simp
            clear hv5
            refine hK.out _ _ (unhide SZ _ ((unhide D2).1.a)) (fun _ => ?_)
            clear hK K
            try simp only [Act.put, List.setIfInBounds_toArray, List.set_cons_zero, List.set_cons_succ, List.getElem_toArray, List.getElem_cons_zero, List.getElem_cons_succ]
            refine wpAnyH_take (i := 7) (v := ?vha15_7) rfl (by kernel_rfl) (by kernel_rfl) (by kernel_rfl) (fun _ _ _ h => h) (Or.inl ⟨by rfl, ?hyha15_7⟩) (by assumption) ?_
            case hyha15_7 =>
              intro w hSw
              try dsimp only at hSw
              go_simp
              try with_reducible rfl
            try simp only [Act.put, List.setIfInBounds_toArray, List.set_cons_zero, List.set_cons_succ, List.getElem_toArray, List.getElem_cons_zero, List.getElem_cons_succ]
            refine wpAnyH_take (i := 8) (v := ?vha16_8) rfl (by kernel_rfl) (by kernel_rfl) (by kernel_rfl) (fun _ _ _ h => h) (Or.inl ⟨by rfl, ?hyha16_8⟩) (by assumption) ?_
            case hyha16_8 =>
              intro w hSw
              try dsimp only at hSw
              go_simp
              try with_reducible rfl
            try simp only [Act.put, List.setIfInBounds_toArray, List.set_cons_zero, List.set_cons_succ, List.getElem_toArray, List.getElem_cons_zero, List.getElem_cons_succ]
            refine wpAnyH_ready (rs := [12]) (by kernel_rfl) (by simp) ?_
            refine AllReadyH.cons rfl (fun K hK => ?_) (AllReadyH.nil)
            go_simp
            refine (src_bytes_n (y1.alloc (.cells #[.int .i64 0, .int .i64 0, .int .i64 1, .int .i64 7] 2)) (w.heap.size + 2) sl n 2 (by decide) hn (unhide D2).1.s (unhide HDS _ (unhide D2).1.bs)).mono ?_
            rintro e y3 ⟨xs, rfl, hxs, hS5, hn5⟩
            generalize strOfNums xs = t5 at *
            have D3 := hide (And.intro ((unhide D2).1.step hn5 hS5) ((hn5.block _ (Array.getElem?_eq_some_iff.1 (unhide D2).2).1 (by omega)).trans (unhide D2).2))
            have HM3 := hide ((hn5.block _ (Array.getElem?_eq_some_iff.1 (unhide HM2)).1 hG2).trans (unhide HM2))
            clear hS5 hn5 hxs
            go_wp2_with fail
            refine hK.out _ _ (unhide SZ _ ((unhide D3).1.a)) (fun _ => ?_)
            clear hK K
            try simp only [Act.put, List.setIfInBounds_toArray, List.set_cons_zero, List.set_cons_succ, List.getElem_toArray, List.getElem_cons_zero, List.getElem_cons_succ]
            refine wpAnyH_take (i := 13) (v := ?vha17_13) rfl (by kernel_rfl) (by kernel_rfl) (by kernel_rfl) (fun _ _ _ h => h) (Or.inl ⟨by rfl, ?hyha17_13⟩) (by assumption) ?_
            case hyha17_13 =>
              intro w hSw
              try dsimp only at hSw
              go_simp
              try with_reducible rfl
            try simp only [Act.put, List.setIfInBounds_toArray, List.set_cons_zero, List.set_cons_succ, List.getElem_toArray, List.getElem_cons_zero, List.getElem_cons_succ]
            refine wpAnyH_ready (rs := [14]) (by kernel_rfl) (by simp) ?_
            refine AllReadyH.cons rfl (fun K hK => ?_) (AllReadyH.nil)
            obtain ⟨r0, r1, r2, r3, z0, z1, z2, z3⟩ := row4 (unhide D3).1.f
            have E4 : Hid (∀ x : Int, Dsx w1 w ((((y3.setCell ⟨F, 0, none⟩ (.int .i64 1)).setCell ⟨F, 1, none⟩ (.int .i64 x)).setCell ⟨F, 2, none⟩ (.int .i64 p3)).setCell ⟨F, 3, none⟩ (.string t5)) (w.heap.size + 2) sl n A F ⟨p1, p2, p3, p4, p5⟩ (.slice x9 L.length y9) L ⟨1, x, p3, t5⟩ ∧ ((((y3.setCell ⟨F, 0, none⟩ (.int .i64 1)).setCell ⟨F, 1, none⟩ (.int .i64 x)).setCell ⟨F, 2, none⟩ (.int .i64 p3)).setCell ⟨F, 3, none⟩ (.string t5)).heap[w.heap.size + 1]? = some (.cells #[.int .i64 0, .int .i64 0, .int .i64 0, .string ⟨#[]⟩] 30)) := hide fun x => ⟨(unhide D3).1.putF (f' := ⟨1, x, p3, t5⟩) (touch4 _ _ _ _) (set4_x (unhide D3).1.f _ _ _ _), ((touch4 (X := F) (W := y3) (.int .i64 1) (.int .i64 x) (.int .i64 p3) (.string t5)).block (w.heap.size + 1) (by have := (unhide D3).1.l2; have := (unhide D3).1.l3; omega)).trans (unhide D3).2⟩
            go_simp
            clear r0 r1 r2 r3 z0 z1 z2 z3
            refine hK.out _ _ (unhide SZ _ ((unhide E4 _).1.a)) (fun _ => ?_)
            clear hK K
            try simp only [Act.put, List.setIfInBounds_toArray, List.set_cons_zero, List.set_cons_succ, List.getElem_toArray, List.getElem_cons_zero, List.getElem_cons_succ]
            refine wpAnyH_done (by kernel_rfl) ?_ _
            go_wp2_with fail
            go_meet
            exact ⟨_, unhide E4 _⟩
          · go_simp
            refine (src_bytes_n (y1.alloc (.cells #[.int .i64 0, .int .i64 0, .int .i64 1, .int .i64 7] 2)) (w.heap.size + 2) sl n 2 (by decide) hn (unhide D2).1.s (unhide HDS _ (unhide D2).1.bs)).mono ?_
            rintro e y3 ⟨xs, rfl, hxs, hS5, hn5⟩
            generalize strOfNums xs = t5 at *
            have D3 := hide (And.intro ((unhide D2).1.step hn5 hS5) ((hn5.block _ (Array.getElem?_eq_some_iff.1 (unhide D2).2).1 (by omega)).trans (unhide D2).2))
            have HM3 := hide ((hn5.block _ (Array.getElem?_eq_some_iff.1 (unhide HM2)).1 hG2).trans (unhide HM2))
            clear hS5 hn5 hxs
            go_wp2_with fail
            refine hK.out _ _ (unhide SZ _ ((unhide D3).1.a)) (fun _ => ?_)
            clear hK K
            try simp only [Act.put, List.setIfInBounds_toArray, List.set_cons_zero, List.set_cons_succ, List.getElem_toArray, List.getElem_cons_zero, List.getElem_cons_succ]
            refine wpAnyH_ready (rs := [6]) (by kernel_rfl) (by simp) ?_
            refine AllReadyH.cons rfl (fun K hK => ?_) (AllReadyH.nil)
            obtain ⟨v5, hv5, _, _⟩ := lit_cell (unhide HM3) (by decide) r5 (by simpa using hr5')
            go_simp
            clear hv5
            refine hK.out _ _ (unhide SZ _ ((unhide D3).1.a)) (fun _ => ?_)
            clear hK K
            try simp only [Act.put, List.setIfInBounds_toArray, List.set_cons_zero, List.set_cons_succ, List.getElem_toArray, List.getElem_cons_zero, List.getElem_cons_succ]
            refine wpAnyH_take (i := 7) (v := ?vha18_7) rfl (by kernel_rfl) (by kernel_rfl) (by kernel_rfl) (fun _ _ _ h => h) (Or.inl ⟨by rfl, ?hyha18_7⟩) (by assumption) ?_
            case hyha18_7 =>
              intro w hSw
              try dsimp only at hSw
              go_simp
              try with_reducible rfl
            try simp only [Act.put, List.setIfInBounds_toArray, List.set_cons_zero, List.set_cons_succ, List.getElem_toArray, List.getElem_cons_zero, List.getElem_cons_succ]
            refine wpAnyH_take (i := 8) (v := ?vha19_8) rfl (by kernel_rfl) (by kernel_rfl) (by kernel_rfl) (fun _ _ _ h => h) (Or.inl ⟨by rfl, ?hyha19_8⟩) (by assumption) ?_
            case hyha19_8 =>
              intro w hSw
              try dsimp only at hSw
              go_simp
              try with_reducible rfl
            try simp only [Act.put, List.setIfInBounds_toArray, List.set_cons_zero, List.set_cons_succ, List.getElem_toArray, List.getElem_cons_zero, List.getElem_cons_succ]
            refine wpAnyH_take (i := 13) (v := ?vha20_13) rfl (by kernel_rfl) (by kernel_rfl) (by kernel_rfl) (fun _ _ _ h => h) (Or.inl ⟨by rfl, ?hyha20_13⟩) (by assumption) ?_
            case hyha20_13 =>
              intro w hSw
              try dsimp only at hSw
              go_simp
              try with_reducible rfl
            try simp only [Act.put, List.setIfInBounds_toArray, List.set_cons_zero, List.set_cons_succ, List.getElem_toArray, List.getElem_cons_zero, List.getElem_cons_succ]
            refine wpAnyH_ready (rs := [14]) (by kernel_rfl) (by simp) ?_
            refine AllReadyH.cons rfl (fun K hK => ?_) (AllReadyH.nil)
            obtain ⟨r0, r1, r2, r3, z0, z1, z2, z3⟩ := row4 (unhide D3).1.f
            have E4 : Hid (∀ x : Int, Dsx w1 w ((((y3.setCell ⟨F, 0, none⟩ (.int .i64 1)).setCell ⟨F, 1, none⟩ (.int .i64 x)).setCell ⟨F, 2, none⟩ (.int .i64 p3)).setCell ⟨F, 3, none⟩ (.string t5)) (w.heap.size + 2) sl n A F ⟨p1, p2, p3, p4, p5⟩ (.slice x9 L.length y9) L ⟨1, x, p3, t5⟩ ∧ ((((y3.setCell ⟨F, 0, none⟩ (.int .i64 1)).setCell ⟨F, 1, none⟩ (.int .i64 x)).setCell ⟨F, 2, none⟩ (.int .i64 p3)).setCell ⟨F, 3, none⟩ (.string t5)).heap[w.heap.size + 1]? = some (.cells #[.int .i64 0, .int .i64 0, .int .i64 0, .string ⟨#[]⟩] 30)) := hide fun x => ⟨(unhide D3).1.putF (f' := ⟨1, x, p3, t5⟩) (touch4 _ _ _ _) (set4_x (unhide D3).1.f _ _ _ _), ((touch4 (X := F) (W := y3) (.int .i64 1) (.int .i64 x) (.int .i64 p3) (.string t5)).block (w.heap.size + 1) (by have := (unhide D3).1.l2; have := (unhide D3).1.l3; omega)).trans (unhide D3).2⟩
            go_simp
            clear r0 r1 r2 r3 z0 z1 z2 z3
            refine hK.out _ _ (unhide SZ _ ((unhide E4 _).1.a)) (fun _ => ?_)
            clear hK K
            try simp only [Act.put, List.setIfInBounds_toArray, List.set_cons_zero, List.set_cons_succ, List.getElem_toArray, List.getElem_cons_zero, List.getElem_cons_succ]
            refine wpAnyH_done (by kernel_rfl) ?_ _
            go_wp2_with fail
            go_meet
            exact ⟨_, unhide E4 _⟩
        · go_simp
          refine (src_bytes_n y1 (w.heap.size + 2) sl n 2 (by decide) hn (unhide D1).1.s (unhide HDS _ (unhide D1).1.bs)).mono ?_
          rintro e y2 ⟨xs, rfl, hxs, hS5, hn5⟩
          generalize strOfNums xs = t5 at *
          have D2 := hide (And.intro ((unhide D1).1.step hn5 hS5) ((hn5.block _ (Array.getElem?_eq_some_iff.1 (unhide D1).2).1 (by omega)).trans (unhide D1).2))
          clear hS5 hn5 hxs
          go_wp2_with fail
          refine hK.out _ _ (unhide SZ _ ((unhide D2).1.a)) (fun _ => ?_)
          clear hK K
          try simp only [Act.put, List.setIfInBounds_toArray, List.set_cons_zero, List.set_cons_succ, List.getElem_toArray, List.getElem_cons_zero, List.getElem_cons_succ]
          refine wpAnyH_ready (rs := [2]) (by kernel_rfl) (by simp) ?_
          refine AllReadyH.cons rfl (fun K hK => ?_) (AllReadyH.nil)
          go_simp
          have hbA := (Below.refl y2.heap.size y2).alloc (Nat.le_refl _) (.cells #[.int .i64 0, .int .i64 0, .int .i64 1, .int .i64 7] 2)
          have D3 := hide (And.intro ((unhide D2).1.step (Nigh.of_below hbA) ((unhide D2).1.s.same (hbA.block _ (unhide D2).1.s.lt))) ((hbA.block _ (Array.getElem?_eq_some_iff.1 (unhide D2).2).1).trans (unhide D2).2))
          have HM3 := hide (heap_alloc_new y2 (.cells #[.int .i64 0, .int .i64 0, .int .i64 1, .int .i64 7] 2))
          have hG3 : y2.heap.size ≠ w.heap.size + 2 := by have := (unhide D2).1.s.lt; omega
          clear hbA
          refine hK.out _ _ (unhide SZ _ ((unhide D3).1.a)) (fun _ => ?_)
          clear hK K
          try simp only [Act.put, List.setIfInBounds_toArray, List.set_cons_zero, List.set_cons_succ, List.getElem_toArray, List.getElem_cons_zero, List.getElem_cons_succ]
          refine wpAnyH_take (i := 5) (v := ?vha21_5) rfl (by kernel_rfl) (by kernel_rfl) (by kernel_rfl) (fun _ _ _ h => h) (Or.inl ⟨by rfl, ?hyha21_5⟩) (by assumption) ?_
          case hyha21_5 =>
            intro w hSw
            try dsimp only at hSw
            go_simp
            try with_reducible rfl
          try simp only [Act.put, List.setIfInBounds_toArray, List.set_cons_zero, List.set_cons_succ, List.getElem_toArray, List.getElem_cons_zero, List.getElem_cons_succ]
          refine wpAnyH_ready (rs := [6]) (by kernel_rfl) (by simp) ?_
          refine AllReadyH.cons rfl (fun K hK => ?_) (AllReadyH.nil)
          obtain ⟨v5, hv5, _, _⟩ := lit_cell (unhide HM3) (by decide) r5 (by simpa using hr5')
          go_simp
          clear hv5
          refine hK.out _ _ (unhide SZ _ ((unhide D3).1.a)) (fun _ => ?_)
          clear hK K
          try simp only [Act.put, List.setIfInBounds_toArray, List.set_cons_zero, List.set_cons_succ, List.getElem_toArray, List.getElem_cons_zero, List.getElem_cons_succ]
          refine wpAnyH_take (i := 7) (v := ?vha22_7) rfl (by kernel_rfl) (by kernel_rfl) (by kernel_rfl) (fun _ _ _ h => h) (Or.inl ⟨by rfl, ?hyha22_7⟩) (by assumption) ?_
          case hyha22_7 =>
            intro w hSw
            try dsimp only at hSw
            go_simp
            try with_reducible rfl
          try simp only [Act.put, List.setIfInBounds_toArray, List.set_cons_zero, List.set_cons_succ, List.getElem_toArray, List.getElem_cons_zero, List.getElem_cons_succ]
          refine wpAnyH_take (i := 8) (v := ?vha23_8) rfl (by kernel_rfl) (by kernel_rfl) (by kernel_rfl) (fun _ _ _ h => h) (Or.inl ⟨by rfl, ?hyha23_8⟩) (by assumption) ?_
          case hyha23_8 =>
            intro w hSw
            try dsimp only at hSw
            go_simp
            try with_reducible rfl
          try simp only [Act.put, List.setIfInBounds_toArray, List.set_cons_zero, List.set_cons_succ, List.getElem_toArray, List.getElem_cons_zero, List.getElem_cons_succ]
          refine wpAnyH_take (i := 13) (v := ?vha24_13) rfl (by kernel_rfl) (by kernel_rfl) (by kernel_rfl) (fun _ _ _ h => h) (Or.inl ⟨by rfl, ?hyha24_13⟩) (by assumption) ?_
          case hyha24_13 =>
            intro w hSw
            try dsimp only at hSw
            go_simp
            try with_reducible rfl
          try simp only [Act.put, List.setIfInBounds_toArray, List.set_cons_zero, List.set_cons_succ, List.getElem_toArray, List.getElem_cons_zero, List.getElem_cons_succ]
          refine wpAnyH_ready (rs := [14]) (by kernel_rfl) (by simp) ?_
          refine AllReadyH.cons rfl (fun K hK => ?_) (AllReadyH.nil)
          obtain ⟨r0, r1, r2, r3, z0, z1, z2, z3⟩ := row4 (unhide D3).1.f
          have E4 : Hid (∀ x : Int, Dsx w1 w (((((y2.alloc (.cells #[.int .i64 0, .int .i64 0, .int .i64 1, .int .i64 7] 2)).setCell ⟨F, 0, none⟩ (.int .i64 1)).setCell ⟨F, 1, none⟩ (.int .i64 x)).setCell ⟨F, 2, none⟩ (.int .i64 p3)).setCell ⟨F, 3, none⟩ (.string t5)) (w.heap.size + 2) sl n A F ⟨p1, p2, p3, p4, p5⟩ (.slice x9 L.length y9) L ⟨1, x, p3, t5⟩ ∧ (((((y2.alloc (.cells #[.int .i64 0, .int .i64 0, .int .i64 1, .int .i64 7] 2)).setCell ⟨F, 0, none⟩ (.int .i64 1)).setCell ⟨F, 1, none⟩ (.int .i64 x)).setCell ⟨F, 2, none⟩ (.int .i64 p3)).setCell ⟨F, 3, none⟩ (.string t5)).heap[w.heap.size + 1]? = some (.cells #[.int .i64 0, .int .i64 0, .int .i64 0, .string ⟨#[]⟩] 30)) := hide fun x => ⟨(unhide D3).1.putF (f' := ⟨1, x, p3, t5⟩) (touch4 _ _ _ _) (set4_x (unhide D3).1.f _ _ _ _), ((touch4 (X := F) (W := (y2.alloc (.cells #[.int .i64 0, .int .i64 0, .int .i64 1, .int .i64 7] 2))) (.int .i64 1) (.int .i64 x) (.int .i64 p3) (.string t5)).block (w.heap.size + 1) (by have := (unhide D3).1.l2; have := (unhide D3).1.l3; omega)).trans (unhide D3).2⟩
          go_simp
          clear r0 r1 r2 r3 z0 z1 z2 z3
          refine hK.out _ _ (unhide SZ _ ((unhide E4 _).1.a)) (fun _ => ?_)
          clear hK K
          try simp only [Act.put, List.setIfInBounds_toArray, List.set_cons_zero, List.set_cons_succ, List.getElem_toArray, List.getElem_cons_zero, List.getElem_cons_succ]
          refine wpAnyH_done (by kernel_rfl) ?_ _
          go_wp2_with fail
          go_meet
          exact ⟨_, unhide E4 _⟩
  case rest =>
    clear H3
    obtain ⟨⟨g1, g2, g3, g4⟩, hR⟩ := hcut
    have SZ2 : Hid (∀ z : World, z.heap[A]? = some (.cells #[.int .i64 p1, .int .i64 p2, .int .i64 p3, .int .i64 p4, .slice x9 L.length y9, .bool p5] 25) → z.heap[F]? = some (.cells #[.int .i64 g1, .int .i64 g2, .int .i64 g3, .string g4] 30) → z.cell? ⟨A, 0, none⟩ = some (.int .i64 p1) ∧ z.cell? ⟨A, 1, none⟩ = some (.int .i64 p2) ∧ z.cell? ⟨A, 2, none⟩ = some (.int .i64 p3) ∧ z.cell? ⟨A, 3, none⟩ = some (.int .i64 p4) ∧ z.cell? ⟨A, 4, none⟩ = some (.slice x9 L.length y9) ∧ z.cell? ⟨A, 5, none⟩ = some (.bool p5) ∧ z.cell? ⟨F, 0, none⟩ = some (.int .i64 g1) ∧ z.cell? ⟨F, 1, none⟩ = some (.int .i64 g2) ∧ z.cell? ⟨F, 2, none⟩ = some (.int .i64 g3) ∧ z.cell? ⟨F, 3, none⟩ = some (.string g4)) := hide fun z ha hf => ⟨(row6l ha).1, (row6l ha).2.1, (row6l ha).2.2.1, (row6l ha).2.2.2.1, (row6l ha).2.2.2.2.1, (row6l ha).2.2.2.2.2, (row4 hf).1, (row4 hf).2.1, (row4 hf).2.2.1, (row4 hf).2.2.2.1⟩
    have HRd : Hid (Dsx w1 w wc.drew (w.heap.size + 2) sl n A F ⟨p1, p2, p3, p4, p5⟩ (.slice x9 L.length y9) L ⟨g1, g2, g3, g4⟩ ∧ wc.drew.heap[w.heap.size + 1]? = some (.cells #[.int .i64 0, .int .i64 0, .int .i64 0, .string ⟨#[]⟩] 30)) := hide (And.intro (hR.1.step (Nigh.of_below (B := w.heap.size + 2) ((Below.refl wc.heap.size wc).drew)) (hR.1.s.same rfl)) hR.2)
    clear hR SZ
    go_upto_region 5 with fail
    refine wp_region_held_drew (S := fun z => z.cell? ⟨A, 0, none⟩ = some (.int .i64 p1) ∧ z.cell? ⟨A, 1, none⟩ = some (.int .i64 p2) ∧ z.cell? ⟨A, 2, none⟩ = some (.int .i64 p3) ∧ z.cell? ⟨A, 3, none⟩ = some (.int .i64 p4) ∧ z.cell? ⟨A, 4, none⟩ = some (.slice x9 L.length y9) ∧ z.cell? ⟨A, 5, none⟩ = some (.bool p5) ∧ z.cell? ⟨F, 0, none⟩ = some (.int .i64 g1) ∧ z.cell? ⟨F, 1, none⟩ = some (.int .i64 g2) ∧ z.cell? ⟨F, 2, none⟩ = some (.int .i64 g3) ∧ z.cell? ⟨F, 3, none⟩ = some (.string g4)) (by kernel_rfl) (unhide SZ2 _ (unhide HRd).1.a (unhide HRd).1.f) (fun hHeld => ?_)
    generalize wc.drew = yy at HRd hHeld ⊢
    refine wpAnyH_take (i := 0) (v := ?vfha0) rfl (by kernel_rfl) (by kernel_rfl) (by kernel_rfl) (fun _ _ _ h => h) (Or.inl ⟨by rfl, ?hyfha0⟩) (by assumption) ?_
    case hyfha0 =>
      intro w hSw
      try dsimp only at hSw
      go_simp
      try with_reducible rfl
    try simp only [Act.put, List.setIfInBounds_toArray, List.set_cons_zero, List.set_cons_succ, List.getElem_toArray, List.getElem_cons_zero]
    refine wpAnyH_take (i := 1) (v := ?vfhb1) rfl (by kernel_rfl) (by kernel_rfl) (by kernel_rfl) (fun _ _ _ h => h) (Or.inl ⟨by rfl, ?hyfhb1⟩) (by assumption) ?_
    case hyfhb1 =>
      intro w hSw
      try dsimp only at hSw
      go_simp
      try with_reducible rfl
    try simp only [Act.put, List.setIfInBounds_toArray, List.set_cons_zero, List.set_cons_succ, List.getElem_toArray, List.getElem_cons_zero, List.getElem_cons_succ]
    clear hHeld
    obtain ⟨a0', a1', a2', a3', a4', a5'⟩ := row6l (unhide HRd).1.r
    obtain ⟨z0, z1, z2, z3, z4, z5⟩ := frz6l (unhide HRd).1.r
    have t6 := touch6 (X := w.heap.size) (W := yy) (.int .i64 p1) (.int .i64 p2) (.int .i64 p3) (.int .i64 p4) (.slice x9 L.length y9) (.bool p5)
    have s6 := set6_lp (unhide HRd).1.r (.int .i64 p1) (.int .i64 p2) (.int .i64 p3) (.int .i64 p4) (.slice x9 L.length y9) (.bool p5)
    have Q2 := hide (unhide SZ2 _ ((t6.block A (by omega)).trans (unhide HRd).1.a) ((t6.block F (by omega)).trans (unhide HRd).1.f))
    refine wpAnyH_ready (rs := [2]) (by kernel_rfl) (by simp) ?_
    refine AllReadyH.cons rfl (fun K hK => ?_) (AllReadyH.nil)
    go_simp
    refine hK.out _ _ (unhide Q2) (fun _ => ?_)
    clear hK K
    try simp only [Act.put, List.setIfInBounds_toArray, List.set_cons_zero, List.set_cons_succ, List.getElem_toArray, List.getElem_cons_zero, List.getElem_cons_succ]
    have T6 := hide (And.intro t6 s6)
    clear t6 s6 Q2 a0' a1' a2' a3' a4' a5' z0 z1 z2 z3 z4 z5
    generalize hW1 : ((((((yy.setCell ⟨w.heap.size, 0, none⟩ (.int .i64 p1)).setCell ⟨w.heap.size, 1, none⟩ (.int .i64 p2)).setCell ⟨w.heap.size, 2, none⟩ (.int .i64 p3)).setCell ⟨w.heap.size, 3, none⟩ (.int .i64 p4)).setCell ⟨w.heap.size, 4, none⟩ (.slice x9 L.length y9)).setCell ⟨w.heap.size, 5, none⟩ (.bool p5)) = W1 at T6 ⊢
    clear hW1
    have rf1 := ((unhide T6).1.block (w.heap.size + 1) (by omega)).trans (unhide HRd).2
    obtain ⟨g0, g1', g2', g3', h0, h1, h2, h3⟩ := row4 rf1
    have u4 := touch4 (X := w.heap.size + 1) (W := W1) (.int .i64 g1) (.int .i64 g2) (.int .i64 g3) (.string g4)
    have Q3 := hide (unhide SZ2 _ ((u4.block A (by omega)).trans (((unhide T6).1.block A (by omega)).trans (unhide HRd).1.a)) ((u4.block F (by omega)).trans (((unhide T6).1.block F (by omega)).trans (unhide HRd).1.f)))
    have FIN := hide (And.intro (loadLp6 ((u4.block w.heap.size (by omega)).trans (unhide T6).2)) (And.intro (loadNf (set4_x rf1 (.int .i64 g1) (.int .i64 g2) (.int .i64 g3) (.string g4))) ((unhide HRd).1.toDst.done (fun g i1 i2 => (u4.block g i2).trans ((unhide T6).1.block g i1)) (fun cur T h => by rw [(unhide HRd).2] at h; cases h; decide) (u4.os.trans (unhide T6).1.os) (u4.tape.trans (unhide T6).1.tape) (u4.output.trans (unhide T6).1.output) (u4.size.trans (unhide T6).1.size))))
    clear u4 rf1
    refine wpAnyH_ready (rs := [3]) (by kernel_rfl) (by simp) ?_
    refine AllReadyH.cons rfl (fun K hK => ?_) (AllReadyH.nil)
    go_simp
    refine hK.out _ _ (unhide Q3) (fun _ => ?_)
    clear hK K
    try simp only [Act.put, List.setIfInBounds_toArray, List.set_cons_zero, List.set_cons_succ, List.getElem_toArray, List.getElem_cons_zero, List.getElem_cons_succ]
    refine wpAnyH_done (by kernel_rfl) ?_ _
    go_wp2
    refine bodyPost_ret (v := .tuple #[.agg #[.int .i64 p1, .int .i64 p2, .int .i64 p3, .int .i64 p4, .slice x9 L.length y9, .bool p5], .agg #[.int .i64 g1, .int .i64 g2, .int .i64 g3, .string g4]]) (by simp [results, Try.results6, asAddr, (unhide FIN).1, (unhide FIN).2.1]) rfl ⟨⟨p1, p2, p3, p4, p5⟩, _, L, ⟨g1, g2, g3, g4⟩, rfl, (unhide FIN).2.2.1, hL, (unhide FIN).2.2.2⟩
end Go.Proofs.Ytjgnldkncoighaa
