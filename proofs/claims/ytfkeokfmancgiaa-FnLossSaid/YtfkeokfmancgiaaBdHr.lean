/- The program's BundleHear: what it answers, in plain mathematics; memory that was there stands. -/
import Derived.Test.YtfkeokfmancgiaaBdU
namespace Go.Proofs.Ytfkeokfmancgiaa
open Go.RowKit
/-- What BundleHear answers. -/
structure BO where
  L : List Int
  F : List Fg
  G : List ByteArray
  lost : Nat
  cd : Int
def errB (n : Int) : BO := ⟨[], [], [], 0, n⟩
def okB (L : List Int) (F : List Fg) (i : Nat) (f : Fg) : BO :=
  let L' := L.set i f.seq
  let S := settleP (minP ((L'[0]?).getD 0) L') (-1) (putP F f)
  ⟨L', S.stay.drop (S.stay.length - 40), S.got, S.lost + (S.stay.length - 40), 0⟩
noncomputable def hearB (L : List Int) (F : List Fg) (link : Int) (f : Fg) : BO :=
  if bdOk L F = true ∧ fgOk f = true ∧ 0 ≤ link ∧ link < (L.length : Int) then (if f.seq ≤ (L[link.toNat]?).getD 0 then errB 8 else okB L F link.toNat f) else errB 1
/-- An answer, laid in memory behind a world. -/
def AnsB (w : World) (o : BO) (e : Ending) (q : World) : Prop :=
  ∃ lv pv gv, e = .returned (.agg #[lv, pv, gv, .int .i64 (o.lost : Nat), .int .i64 o.cd]) ∧ q.ownsRow w.heap.size 2 1 lv o.L.length (icells o.L) ∧ q.ownsRow w.heap.size 33 4 pv o.F.length (fgcells o.F) ∧ q.ownsRow w.heap.size 9 1 gv o.G.length (scells o.G) ∧ Below w.heap.size w q
theorem bdOk_ok {L : List Int} {F : List Fg} (h : bdOk L F = true) : lnOk L ∧ ptOk F := @of_decide_eq_true _ (_) h
theorem ptOk_ris {F : List Fg} (h : ptOk F) : Ris F := by
  unfold Ris
  have key : ∀ n i (_ : i + n + 1 < F.length), (F[i]'(by omega)).seq < (F[i + n + 1]'(by omega)).seq := by
    intro n
    induction n with
    | zero =>
      intro i hi
      have h1 := (h.2 (i + 1) (by omega)).2
      unfold preS at h1
      rw [if_neg (by omega)] at h1
      have e : F[i + 1 - 1]? = some (F[i]'(by omega)) := by rw [Nat.add_sub_cancel]; exact List.getElem?_eq_getElem (by omega)
      rw [e] at h1
      exact h1
    | succ n ih =>
      intro i hi
      have h1 := ih i (by omega)
      have h2 := (h.2 (i + n + 1 + 1) (by omega)).2
      unfold preS at h2
      rw [if_neg (by omega)] at h2
      simp only [Nat.add_sub_cancel] at h2
      have e : F[i + n + 1]? = some (F[i + n + 1]'(by omega)) := List.getElem?_eq_getElem (by omega)
      rw [e] at h2
      exact Int.lt_trans h1 h2
  rw [List.pairwise_iff_getElem]
  intro i j hi hj hij
  have := key (j - i - 1) i (by omega)
  have e : i + (j - i - 1) + 1 = j := by omega
  simpa only [e] using this
theorem ptOk_mem {F : List Fg} (h : ptOk F) : ∀ f ∈ F, fgOk f = true := fun f hf => by
  obtain ⟨i, hi, e⟩ := List.getElem_of_mem hf
  rw [← e]
  exact (h.2 i hi).1
theorem putP_ok {F : List Fg} {f : Fg} (h : ∀ g ∈ F, fgOk g = true) (hf : fgOk f = true) : ∀ g ∈ putP F f, fgOk g = true := fun g hg => by
  rcases putP_mem hg with rfl | hg
  · exact hf
  · exact h g hg
theorem row5b {w : World} {E : Nat} {x0 x1 x2 x3 x4 : Value} {T : TypeId} (h : w.heap[E]? = some (.cells #[x0, x1, x2, x3, x4] T)) : w.cell? ⟨E, 0, none⟩ = some x0 ∧ w.cell? ⟨E, 1, none⟩ = some x1 ∧ w.cell? ⟨E, 2, none⟩ = some x2 ∧ w.cell? ⟨E, 3, none⟩ = some x3 ∧ w.cell? ⟨E, 4, none⟩ = some x4 :=
  ⟨by rw [cell_of_row _ _ 0 _ _ (0, 0) h]; rfl, by rw [cell_of_row _ _ 1 _ _ (0, 0) h]; rfl, by rw [cell_of_row _ _ 2 _ _ (0, 0) h]; rfl, by rw [cell_of_row _ _ 3 _ _ (0, 0) h]; rfl, by rw [cell_of_row _ _ 4 _ _ (0, 0) h]; rfl⟩
theorem set5_bo {W : World} {E : Nat} {z0 z1 z2 z3 z4 : Value} {T : TypeId} (h : W.heap[E]? = some (.cells #[z0, z1, z2, z3, z4] T)) (x0 x1 x2 x3 x4 : Value) :
    (((((W.setCell ⟨E, 0, none⟩ x0).setCell ⟨E, 1, none⟩ x1).setCell ⟨E, 2, none⟩ x2).setCell ⟨E, 3, none⟩ x3).setCell ⟨E, 4, none⟩ x4).heap[E]? = some (.cells #[x0, x1, x2, x3, x4] T) := by
  rw [heap_setCell_same _ _ 4 _ _ x4 (heap_setCell_same _ _ 3 _ _ x3 (heap_setCell_same _ _ 2 _ _ x2 (heap_setCell_same _ _ 1 _ _ x1 (heap_setCell_same _ _ 0 _ _ x0 h))))]
  simp only [List.setIfInBounds_toArray, List.set_cons_zero, List.set_cons_succ]
theorem set5_ot {W : World} {E k : Nat} (hk : k ≠ E) (x0 x1 x2 x3 x4 : Value) :
    (((((W.setCell ⟨E, 0, none⟩ x0).setCell ⟨E, 1, none⟩ x1).setCell ⟨E, 2, none⟩ x2).setCell ⟨E, 3, none⟩ x3).setCell ⟨E, 4, none⟩ x4).heap[k]? = W.heap[k]? := by
  have f : ∀ (V : World) (i : Nat) (x : Value), (V.setCell ⟨E, i, none⟩ x).heap[k]? = V.heap[k]? := fun V i x => heap_setCell_other _ _ _ _ hk
  rw [f, f, f, f, f]
theorem set5_bl {n : Nat} {w W : World} {E : Nat} (h : Below n w W) (hE : n ≤ E) (x0 x1 x2 x3 x4 : Value) :
    Below n w (((((W.setCell ⟨E, 0, none⟩ x0).setCell ⟨E, 1, none⟩ x1).setCell ⟨E, 2, none⟩ x2).setCell ⟨E, 3, none⟩ x3).setCell ⟨E, 4, none⟩ x4) := by
  have f : ∀ (V : World) (i : Nat) (x : Value), Below n w V → Below n w (V.setCell ⟨E, i, none⟩ x) := fun V i x hV => hV.setCell (p := ⟨E, i, none⟩) hE _
  exact f _ _ _ (f _ _ _ (f _ _ _ (f _ _ _ (f _ _ _ h))))
theorem own_set5 {W : World} {E : Nat} {z : Array Value} {T T2 : TypeId} (h : W.heap[E]? = some (.cells z T2)) (hT : T ≠ T2) (x0 x1 x2 x3 x4 : Value) {base n sz : Nat} {v : Value} {xs : List Value} (ho : W.ownsRow base T sz v n xs) :
    (((((W.setCell ⟨E, 0, none⟩ x0).setCell ⟨E, 1, none⟩ x1).setCell ⟨E, 2, none⟩ x2).setCell ⟨E, 3, none⟩ x3).setCell ⟨E, 4, none⟩ x4).ownsRow base T sz v n xs :=
  ⟨ho.1, ho.2.imp id fun ⟨g, cap, cur, e1, e2, e3, e4⟩ => ⟨g, cap, cur, e1, e2, (set5_ot (fun e => by
    rw [e, h] at e3
    injection e3 with e3
    injection e3 with _ e3
    exact hT e3.symm) x0 x1 x2 x3 x4).trans e3, e4⟩⟩
/-- A number laid into a row of numbers. -/
theorem own_seti {W : World} {base g cp : Nat} {L : List Int} {i : Nat} {x : Int} (ho : W.ownsRow base 2 1 (.slice (some ⟨g, 0, none⟩) L.length cp) L.length (icells L)) (_hi : i < L.length) :
    (W.setCell ⟨g, i, none⟩ (.int .i64 x)).ownsRow base 2 1 (.slice (some ⟨g, 0, none⟩) (L.set i x).length cp) (L.set i x).length (icells (L.set i x)) := by
  refine ⟨by rw [icells_len, Nat.mul_one], ?_⟩
  rcases ho.2 with ⟨e, _⟩ | ⟨g', cap, cur, e1, e2, e3, e4, e5, e6, e7⟩
  · cases e
  · cases e1
    refine Or.inr ⟨g, cp, _, rfl, e2, heap_setCell_same _ _ i _ _ (.int .i64 x) e3, by rw [List.length_set]; exact e4, e5, by simpa using e6, ?_⟩
    rw [List.length_set, Array.toList_setIfInBounds, List.take_set, e7]
    unfold icells
    rw [List.map_set]
/-- A row of numbers, its block and cells. -/
theorem own_cell {W : World} {base : Nat} {la : Option Addr} {lc : Nat} {L : List Int} (ho : W.ownsRow base 2 1 (.slice la L.length lc) L.length (icells L)) {i : Nat} (hi : i < L.length) : ∃ g cur, la = some ⟨g, 0, none⟩ ∧ base ≤ g ∧ W.heap[g]? = some (.cells cur 2) ∧ i < cur.size := by
  rcases ho.2 with ⟨e, _⟩ | ⟨g', cap, cur, e1, e2, e3, e4, e5, e6, e7⟩
  · injection e with _ e _
    omega
  · injection e1 with e1 _ _
    exact ⟨g', cur, e1, e2, e3, by omega⟩
theorem settle_cnt (m : Int) : ∀ (n : Nat) (before : Int) (l : List Fg), l.length ≤ n → (settleP m before l).lost ≤ l.length ∧ (settleP m before l).got.length ≤ l.length
  | n, before, [], _ => by rw [settle_nil]; exact ⟨Nat.le_refl _, Nat.le_refl _⟩
  | 0, before, a :: l, h => by simp at h
  | n + 1, before, a :: l, h => by
    have hl := runP_len a l
    have ih := settle_cnt m n (lastP a (runP a l).1).seq (runP a l).2 (by simp at h; omega)
    rw [settle_cons, List.length_cons]
    unfold soAdd
    split
    · dsimp only
      rw [List.length_cons]
      omega
    · split
      · dsimp only
        omega
      · dsimp only
        omega
theorem wrapM (n : Int) (h0 : -4611686018427387904 < n) (h : n < 4611686018427387904) : IntKind.i64.wrap n = n := by
  rw [IntKind.wrap_i64]
  omega
set_option linter.unusedSimpArgs false in
set_option maxHeartbeats 32000000 in
set_option maxRecDepth 100000 in
theorem iHearB (ax ay : Option Addr) (cx cy : Nat) (L : List Int) (F : List Fg) (link : Int) (f : Fg) (w : World) (hL : L.length ≤ 1048576) (hF : F.length ≤ 1048576) (h1 : HoldsI w (.slice ax L.length cx) L) (h2 : HoldsF w (.slice ay F.length cy) F) :
    Calls Try.prog 12 #[.agg #[.slice ax L.length cx, .slice ay F.length cy], .int .i64 link, fgV f] w fun e q => AnsB w (hearB L F link f) e q := by
  have C1 := hide fun W (hb : Below w.heap.size w W) => iBdRight ax ay cx cy L F W (by unfold maxLen; omega) (by unfold maxLen; omega) (h1.below hb rfl).f (h2.below hb)
  have C2 := hide fun W => iFgRight f W
  have C3 := hide fun W => iWithin9 link 0 ((L.length : Int) - 1) W
  have HH := hide (And.intro h1 h2)
  obtain ⟨s, b, fn, t⟩ := f
  obtain ⟨o, ho⟩ : ∃ o, hearB L F link ⟨s, b, fn, t⟩ = o := ⟨_, rfl⟩
  rw [ho]
  have HO := hide ho
  clear ho
  unfold fgV at C2 ⊢
  dsimp only at C2 ⊢
  have H0 := hide (new3b w (.cells #[.slice ax L.length cx, .slice ay F.length cy] 29) (.cells #[.int .i64 s, .bool b, .bool fn, .string t] 33) (.cells #[.slice none 0 0, .slice none 0 0, .slice none 0 0, .int .i64 0, .int .i64 0] 37))
  have hlw : IntKind.i64.wrap ((L.length : Int) - 1) = (L.length : Int) - 1 := wrapM _ (by omega) (by omega)
  clear h1 h2
  go_enter Try.func12, Try.ntmps12
  go_wp2_with fail
  refine (unhide C1 _ (unhide H0).2.2.2.1).mono ?_
  rintro e w1 ⟨rfl, hb1⟩
  have H1 : Hid (w1.heap[w.heap.size]? = some (.cells #[.slice ax L.length cx, .slice ay F.length cy] 29) ∧ w1.heap[w.heap.size + 1]? = some (.cells #[.int .i64 s, .bool b, .bool fn, .string t] 33) ∧ w1.heap[w.heap.size + 1 + 1]? = some (.cells #[.slice none 0 0, .slice none 0 0, .slice none 0 0, .int .i64 0, .int .i64 0] 37) ∧ Below w.heap.size w w1) := hide ⟨(hb1.block _ (Array.getElem?_eq_some_iff.1 (unhide H0).1).1).trans (unhide H0).1, (hb1.block _ (Array.getElem?_eq_some_iff.1 (unhide H0).2.1).1).trans (unhide H0).2.1, (hb1.block _ (Array.getElem?_eq_some_iff.1 (unhide H0).2.2.1).1).trans (unhide H0).2.2.1, (unhide H0).2.2.2.1.trans (hb1.mono (unhide H0).2.2.2.1.size)⟩
  clear hb1 H0 C1
  obtain ⟨b0, b1⟩ := row2b (unhide H1).1
  obtain ⟨n0, n1, n2, n3⟩ := row4g (unhide H1).2.1
  obtain ⟨r0, r1, r2, r3, r4⟩ := row5b (unhide H1).2.2.1
  have f0 := frz (unhide H1).2.2.1 0
  have f1 := frz (unhide H1).2.2.1 1
  have f2 := frz (unhide H1).2.2.1 2
  have f3 := frz (unhide H1).2.2.1 3
  have f4 := frz (unhide H1).2.2.1 4
  cases hbd : bdOk L F
  · have EO : Hid (o = errB 1) := hide (by rw [← unhide HO]; unfold hearB; rw [if_neg (by rw [hbd]; simp)])
    have HX := hide (And.intro (unhide H1).2.2.1 (unhide H1).2.2.2)
    clear HH C2 C3 H1
    go_wp2
    obtain ⟨k2, hB2⟩ := unhide HX
    refine bodyPost_ret (v := .agg #[.slice none 0 0, .slice none 0 0, .slice none 0 0, .int .i64 0, .int .i64 1]) (by simp [results, Try.results12, asAddr, loadBo (set5_bo k2 _ _ _ _ _)]) rfl ?_
    rw [unhide EO]
    exact ⟨.slice none 0 0, .slice none 0 0, .slice none 0 0, rfl, World.ownsRow_nil _ _ _ _, World.ownsRow_nil _ _ _ _, World.ownsRow_nil _ _ _ _, set5_bl hB2 (by omega) _ _ _ _ _⟩
  go_wp2_with fail
  refine (unhide C2 _).mono ?_
  rintro e w2 ⟨rfl, hb2⟩
  have H2 : Hid (w2.heap[w.heap.size]? = some (.cells #[.slice ax L.length cx, .slice ay F.length cy] 29) ∧ w2.heap[w.heap.size + 1]? = some (.cells #[.int .i64 s, .bool b, .bool fn, .string t] 33) ∧ w2.heap[w.heap.size + 1 + 1]? = some (.cells #[.slice none 0 0, .slice none 0 0, .slice none 0 0, .int .i64 0, .int .i64 0] 37) ∧ Below w.heap.size w w2) := hide ⟨(hb2.block _ (Array.getElem?_eq_some_iff.1 (unhide H1).1).1).trans (unhide H1).1, (hb2.block _ (Array.getElem?_eq_some_iff.1 (unhide H1).2.1).1).trans (unhide H1).2.1, (hb2.block _ (Array.getElem?_eq_some_iff.1 (unhide H1).2.2.1).1).trans (unhide H1).2.2.1, (unhide H1).2.2.2.trans (hb2.mono (unhide H1).2.2.2.size)⟩
  clear b0 b1 n0 n1 n2 n3 r0 r1 r2 r3 r4 f0 f1 f2 f3 f4
  clear hb2 H1 C2
  obtain ⟨b0, b1⟩ := row2b (unhide H2).1
  obtain ⟨n0, n1, n2, n3⟩ := row4g (unhide H2).2.1
  obtain ⟨r0, r1, r2, r3, r4⟩ := row5b (unhide H2).2.2.1
  have f0 := frz (unhide H2).2.2.1 0
  have f1 := frz (unhide H2).2.2.1 1
  have f2 := frz (unhide H2).2.2.1 2
  have f3 := frz (unhide H2).2.2.1 3
  have f4 := frz (unhide H2).2.2.1 4
  cases hfo : fgOk ⟨s, b, fn, t⟩
  · have EO : Hid (o = errB 1) := hide (by rw [← unhide HO]; unfold hearB; rw [if_neg (by rw [hfo]; simp)])
    have HX := hide (And.intro (unhide H2).2.2.1 (unhide H2).2.2.2)
    clear HH C3 H2
    go_wp2
    obtain ⟨k2, hB2⟩ := unhide HX
    refine bodyPost_ret (v := .agg #[.slice none 0 0, .slice none 0 0, .slice none 0 0, .int .i64 0, .int .i64 1]) (by simp [results, Try.results12, asAddr, loadBo (set5_bo k2 _ _ _ _ _)]) rfl ?_
    rw [unhide EO]
    exact ⟨.slice none 0 0, .slice none 0 0, .slice none 0 0, rfl, World.ownsRow_nil _ _ _ _, World.ownsRow_nil _ _ _ _, World.ownsRow_nil _ _ _ _, set5_bl hB2 (by omega) _ _ _ _ _⟩
  go_wp2_with fail
  refine (unhide C3 _).mono ?_
  rintro e w2' ⟨rfl, hw⟩
  replace hw := hw.symm
  subst hw
  by_cases hin : ¬ (0 ≤ link ∧ link < (L.length : Int))
  · have EO : Hid (o = errB 1) := hide (by rw [← unhide HO]; unfold hearB; rw [if_neg (fun h => hin h.2.2)])
    have d3 : (decide (0 ≤ link) && decide (link ≤ (L.length : Int) - 1)) = false := by
      rw [Bool.and_eq_false_iff, decide_eq_false_iff_not, decide_eq_false_iff_not]
      omega
    rw [d3]
    have HX := hide (And.intro (unhide H2).2.2.1 (unhide H2).2.2.2)
    clear HH C3 H2
    go_wp2
    obtain ⟨k2, hB2⟩ := unhide HX
    refine bodyPost_ret (v := .agg #[.slice none 0 0, .slice none 0 0, .slice none 0 0, .int .i64 0, .int .i64 1]) (by simp [results, Try.results12, asAddr, loadBo (set5_bo k2 _ _ _ _ _)]) rfl ?_
    rw [unhide EO]
    exact ⟨.slice none 0 0, .slice none 0 0, .slice none 0 0, rfl, World.ownsRow_nil _ _ _ _, World.ownsRow_nil _ _ _ _, World.ownsRow_nil _ _ _ _, set5_bl hB2 (by omega) _ _ _ _ _⟩
  replace hin : 0 ≤ link ∧ link < (L.length : Int) := by omega
  have d3 : (decide (0 ≤ link) && decide (link ≤ (L.length : Int) - 1)) = true := by
    rw [Bool.and_eq_true, decide_eq_true_eq, decide_eq_true_eq]
    omega
  rw [d3]
  obtain ⟨i, ei⟩ : ∃ i : Nat, (i : Int) = link := ⟨link.toNat, by omega⟩
  subst ei
  have hi : i < L.length := by omega
  have ho : (if s ≤ L[i] then errB 8 else okB L F i ⟨s, b, fn, t⟩) = o := by
    have h := unhide HO
    unfold hearB at h
    rw [if_pos ⟨hbd, hfo, hin⟩, Int.toNat_natCast, List.getElem?_eq_getElem hi, Option.getD_some] at h
    exact h
  obtain ⟨xg, xc, ev, cL⟩ := getI ((unhide HH).1.below (unhide H2).2.2.2 rfl) i hi
  injection ev with ev _ ev2
  subst ev
  clear ev2
  have hi2 : (i : Int) < (L.length : Int) := hin.2
  have HI := hide fun z (hb : Below w.heap.size w z) => getI ((unhide HH).1.below hb rfl) i hi
  clear cL
  clear b0 b1 n0 n1 n2 n3 r0 r1 r2 r3 r4 f0 f1 f2 f3 f4
  have HS3 : Hid (∀ z : World, (z.heap[w.heap.size]? = some (.cells #[.slice (some ⟨xg, 0, none⟩) L.length cx, .slice ay F.length cy] 29) ∧ z.heap[w.heap.size + 1]? = some (.cells #[.int .i64 s, .bool b, .bool fn, .string t] 33) ∧ z.heap[w.heap.size + 1 + 1]? = some (.cells #[.slice none 0 0, .slice none 0 0, .slice none 0 0, .int .i64 0, .int .i64 0] 37) ∧ Below w.heap.size w z) → (z.cell? ⟨w.heap.size, 0, none⟩ = some (.slice (some ⟨xg, 0, none⟩) L.length cx) ∧ z.cell? ⟨w.heap.size + 1, 0, none⟩ = some (.int .i64 s)) ∧ z.cell? ⟨xg, i, none⟩ = some (.int .i64 L[i])) := hide fun z h => by
    obtain ⟨g, c, ev, cL⟩ := unhide HI z h.2.2.2
    cases ev
    exact ⟨⟨(row2b h.1).1, (row4g h.2.1).1⟩, cL⟩
  go_upto_region 3 with fail
  go_cut [33] (fun x wx => x = .bool (decide (s ≤ L[i])) ∧ (wx.heap[w.heap.size]? = some (.cells #[.slice (some ⟨xg, 0, none⟩) L.length cx, .slice ay F.length cy] 29) ∧ wx.heap[w.heap.size + 1]? = some (.cells #[.int .i64 s, .bool b, .bool fn, .string t] 33) ∧ wx.heap[w.heap.size + 1 + 1]? = some (.cells #[.slice none 0 0, .slice none 0 0, .slice none 0 0, .int .i64 0, .int .i64 0] 37) ∧ Below w.heap.size w wx))
  case first =>
    refine wp_region_held_drew (S := fun z => (z.cell? ⟨w.heap.size, 0, none⟩ = some (.slice (some ⟨xg, 0, none⟩) L.length cx) ∧ z.cell? ⟨w.heap.size + 1, 0, none⟩ = some (.int .i64 s)) ∧ z.cell? ⟨xg, i, none⟩ = some (.int .i64 L[i])) (by kernel_rfl) (unhide HS3 _ ⟨(unhide H2).1, (unhide H2).2.1, (unhide H2).2.2.1, (unhide H2).2.2.2.drew⟩) (fun hHeld => ?_)
    have D0 : Hid (w2.drew.heap[w.heap.size]? = some (.cells #[.slice (some ⟨xg, 0, none⟩) L.length cx, .slice ay F.length cy] 29) ∧ w2.drew.heap[w.heap.size + 1]? = some (.cells #[.int .i64 s, .bool b, .bool fn, .string t] 33) ∧ w2.drew.heap[w.heap.size + 1 + 1]? = some (.cells #[.slice none 0 0, .slice none 0 0, .slice none 0 0, .int .i64 0, .int .i64 0] 37) ∧ Below w.heap.size w w2.drew) := hide ⟨(unhide H2).1, (unhide H2).2.1, (unhide H2).2.2.1, (unhide H2).2.2.2.drew⟩
    generalize w2.drew = yy at D0 hHeld ⊢
    clear H2
    generalize L[i] = y at *
    refine wpAnyH_take (i := 0) (v := ?vhq1_0) rfl (by kernel_rfl) (by kernel_rfl) (by kernel_rfl) (fun _ _ _ h => h) (Or.inl ⟨by rfl, ?hyhq1_0⟩) (by assumption) ?_
    case hyhq1_0 =>
      intro w hSw
      try dsimp only at hSw
      go_simp
      try with_reducible rfl
    try simp only [Act.put, List.setIfInBounds_toArray, List.set_cons_zero, List.set_cons_succ, List.getElem_toArray, List.getElem_cons_zero]
    refine wpAnyH_take (i := 1) (v := ?vhq2_1) rfl (by kernel_rfl) (by kernel_rfl) (by kernel_rfl) (fun _ _ _ h => h) (Or.inl ⟨by rfl, ?hyhq2_1⟩) (by assumption) ?_
    case hyhq2_1 =>
      intro w hSw
      try dsimp only at hSw
      go_simp
      try with_reducible rfl
    try simp only [Act.put, List.setIfInBounds_toArray, List.set_cons_zero, List.set_cons_succ, List.getElem_toArray, List.getElem_cons_zero, List.getElem_cons_succ]
    refine wpAnyH_take (i := 2) (v := ?vhq3_2) rfl (by kernel_rfl) (by kernel_rfl) (by kernel_rfl) (fun _ _ _ h => h) (Or.inl ⟨by rfl, ?hyhq3_2⟩) (by assumption) ?_
    case hyhq3_2 =>
      intro w hSw
      try dsimp only at hSw
      go_simp
      try with_reducible rfl
    try simp only [Act.put, List.setIfInBounds_toArray, List.set_cons_zero, List.set_cons_succ, List.getElem_toArray, List.getElem_cons_zero, List.getElem_cons_succ]
    refine wpAnyH_take (i := 3) (v := ?vhq4_3) rfl (by kernel_rfl) (by kernel_rfl) (by kernel_rfl) (fun _ _ _ h => h) (Or.inl ⟨by rfl, ?hyhq4_3⟩) (by assumption) ?_
    case hyhq4_3 =>
      intro w hSw
      try dsimp only at hSw
      go_simp
      try with_reducible rfl
    try simp only [Act.put, List.setIfInBounds_toArray, List.set_cons_zero, List.set_cons_succ, List.getElem_toArray, List.getElem_cons_zero, List.getElem_cons_succ]
    refine wpAnyH_take (i := 4) (v := ?vhq5_4) rfl (by kernel_rfl) (by kernel_rfl) (by kernel_rfl) (fun _ _ _ h => h) (Or.inl ⟨by rfl, ?hyhq5_4⟩) (by assumption) ?_
    case hyhq5_4 =>
      intro w hSw
      try dsimp only at hSw
      go_simp
      try with_reducible rfl
    try simp only [Act.put, List.setIfInBounds_toArray, List.set_cons_zero, List.set_cons_succ, List.getElem_toArray, List.getElem_cons_zero, List.getElem_cons_succ]
    refine wpAnyH_take (i := 5) (v := ?vhq6_5) rfl (by kernel_rfl) (by kernel_rfl) (by kernel_rfl) (fun _ _ _ h => h) (Or.inl ⟨by rfl, ?hyhq6_5⟩) (by assumption) ?_
    case hyhq6_5 =>
      intro w hSw
      try dsimp only at hSw
      go_simp
      try with_reducible rfl
    try simp only [Act.put, List.setIfInBounds_toArray, List.set_cons_zero, List.set_cons_succ, List.getElem_toArray, List.getElem_cons_zero, List.getElem_cons_succ]
    refine wpAnyH_take (i := 6) (v := ?vhq7_6) rfl (by kernel_rfl) (by kernel_rfl) (by kernel_rfl) (fun _ _ _ h => h) (Or.inl ⟨by rfl, ?hyhq7_6⟩) (by assumption) ?_
    case hyhq7_6 =>
      intro w hSw
      try dsimp only at hSw
      go_simp
      try with_reducible rfl
    try simp only [Act.put, List.setIfInBounds_toArray, List.set_cons_zero, List.set_cons_succ, List.getElem_toArray, List.getElem_cons_zero, List.getElem_cons_succ]
    refine wpAnyH_take (i := 7) (v := ?vhq8_7) rfl (by kernel_rfl) (by kernel_rfl) (by kernel_rfl) (fun _ _ _ h => h) (Or.inl ⟨by rfl, ?hyhq8_7⟩) (by assumption) ?_
    case hyhq8_7 =>
      intro w hSw
      try dsimp only at hSw
      go_simp
      try with_reducible rfl
    try simp only [Act.put, List.setIfInBounds_toArray, List.set_cons_zero, List.set_cons_succ, List.getElem_toArray, List.getElem_cons_zero, List.getElem_cons_succ]
    refine wpAnyH_done (by kernel_rfl) ?_ _
    go_wp2_with fail
    go_meet
    exact ⟨rfl, unhide D0⟩
  case rest =>
  obtain ⟨ex, hcut⟩ := hcut
  subst ex
  clear H2 HI HS3 w2
  obtain ⟨w2, ew⟩ : ∃ z, z = wc := ⟨_, rfl⟩
  subst ew
  have H2 := hide hcut
  clear hcut
  obtain ⟨b0, b1⟩ := row2b (unhide H2).1
  obtain ⟨n0, n1, n2, n3⟩ := row4g (unhide H2).2.1
  obtain ⟨r0, r1, r2, r3, r4⟩ := row5b (unhide H2).2.2.1
  have f0 := frz (unhide H2).2.2.1 0
  have f1 := frz (unhide H2).2.2.1 1
  have f2 := frz (unhide H2).2.2.1 2
  have f3 := frz (unhide H2).2.2.1 3
  have f4 := frz (unhide H2).2.2.1 4
  by_cases hs : s ≤ L[i]
  · have EO : Hid (o = errB 8) := hide (by rw [← ho, if_pos hs])
    have ds : decide (s ≤ L[i]) = true := decide_eq_true hs
    clear ho hs
    rw [ds]
    clear ds
    have HX := hide (And.intro (unhide H2).2.2.1 (unhide H2).2.2.2)
    clear HH C3 H2 d3 hbd hfo hin
    go_wp2
    obtain ⟨k2, hB2⟩ := unhide HX
    refine bodyPost_ret (v := .agg #[.slice none 0 0, .slice none 0 0, .slice none 0 0, .int .i64 0, .int .i64 8]) (by simp [results, Try.results12, asAddr, loadBo (set5_bo k2 _ _ _ _ _)]) rfl ?_
    rw [unhide EO]
    exact ⟨.slice none 0 0, .slice none 0 0, .slice none 0 0, rfl, World.ownsRow_nil _ _ _ _, World.ownsRow_nil _ _ _ _, World.ownsRow_nil _ _ _ _, set5_bl hB2 (by omega) _ _ _ _ _⟩
  have ds : decide (s ≤ L[i]) = false := decide_eq_false hs
  rw [ds]
  clear ds
  have EO : Hid (o = okB L F i ⟨s, b, fn, t⟩) := hide (by rw [← ho, if_neg hs])
  clear ho
  have hok := bdOk_ok hbd
  have hpm := ptOk_mem hok.2
  have hln : 1 ≤ L.length ∧ L.length ≤ 8 := hok.1.1
  have hfl : F.length ≤ 40 := hok.2.1
  have hris := ptOk_ris hok.2
  have hso := (of_decide_eq_true hfo).1
  have CW := hide (iWorkB w2 L F (some ⟨xg, 0, none⟩) ay cx cy ((unhide HH).1.below (unhide H2).2.2.2 rfl) ((unhide HH).2.below (unhide H2).2.2.2) (by omega) (by omega) hris hfl hpm)
  clear hok HH C3 d3 hbd
  go_wp2_with fail
  refine (unhide CW).mono ?_
  rintro e w3 ⟨B, M, lv, rfl, hB3, hl3⟩
  obtain ⟨la, lc, ev⟩ := own_form hl3
  subst ev
  obtain ⟨lg, _, ea, _⟩ := own_cell hl3 hi
  subst ea
  clear b0 b1 n0 n1 n2 n3 r0 r1 r2 r3 r4 f0 f1 f2 f3 f4 CW hs
  have H3 : Hid (Bw w2 B M F.length (.slice (some ⟨lg, 0, none⟩) L.length lc) (.slice none 0 0) F 0 w3 ∧ w3.ownsRow w2.heap.size 2 1 (.slice (some ⟨lg, 0, none⟩) L.length lc) L.length (icells L)) := hide ⟨hB3, hl3⟩
  have hA2 : w.heap.size + 1 + 1 < w2.heap.size := (Array.getElem?_eq_some_iff.1 (unhide H2).2.2.1).1
  have HK : Hid (∀ z, Bw w2 B M F.length (.slice (some ⟨lg, 0, none⟩) L.length lc) (.slice none 0 0) F 0 z → z.heap[w.heap.size + 1]? = some (.cells #[.int .i64 s, .bool b, .bool fn, .string t] 33)) := hide fun z h => (h.b.block _ (by omega)).trans (unhide H2).2.1
  clear hB3 hl3
  go_upto_region 6 with fail
  have HS : Hid (∀ z : World, (z.heap[B]? = some (.cells #[(.slice (some ⟨lg, 0, none⟩) L.length lc), .map (some M), .slice none 0 0, .int .i64 0] 69) ∧ z.heap[w.heap.size + 1]? = some (.cells #[.int .i64 s, .bool b, .bool fn, .string t] 33) ∧ (Bw w2 B M F.length (.slice (some ⟨lg, 0, none⟩) L.length lc) (.slice none 0 0) F 0 z ∧ z.ownsRow w2.heap.size 2 1 (.slice (some ⟨lg, 0, none⟩) (L.set i s).length lc) (L.set i s).length (icells (L.set i s)))) → z.cell? ⟨B, 0, none⟩ = some (.slice (some ⟨lg, 0, none⟩) L.length lc) ∧ z.cell? ⟨w.heap.size + 1, 0, none⟩ = some (.int .i64 s)) := hide fun z h => ⟨(row4g h.1).1, (row4g h.2.1).1⟩
  have HLG : Hid (∀ z : World, (Bw w2 B M F.length (.slice (some ⟨lg, 0, none⟩) L.length lc) (.slice none 0 0) F 0 z ∧ z.ownsRow w2.heap.size 2 1 (.slice (some ⟨lg, 0, none⟩) L.length lc) L.length (icells L)) → ∃ cur, z.heap[lg]? = some (.cells cur 2) ∧ i < cur.size) := hide fun z h => by
    obtain ⟨g, cur, e1, _, e3, e4⟩ := own_cell h.2 hi
    cases e1
    exact ⟨cur, e3, e4⟩
  have HZ6 : Hid (∀ z : World, (Bw w2 B M F.length (.slice (some ⟨lg, 0, none⟩) L.length lc) (.slice none 0 0) F 0 z ∧ z.ownsRow w2.heap.size 2 1 (.slice (some ⟨lg, 0, none⟩) L.length lc) L.length (icells L)) → ∀ cur : Array Value, z.heap[lg]? = some (.cells cur 2) → i < cur.size → ((z.setCell ⟨lg, i, none⟩ (.int .i64 s)).heap[B]? = some (.cells #[(.slice (some ⟨lg, 0, none⟩) L.length lc), .map (some M), .slice none 0 0, .int .i64 0] 69) ∧ (z.setCell ⟨lg, i, none⟩ (.int .i64 s)).heap[w.heap.size + 1]? = some (.cells #[.int .i64 s, .bool b, .bool fn, .string t] 33) ∧ (Bw w2 B M F.length (.slice (some ⟨lg, 0, none⟩) L.length lc) (.slice none 0 0) F 0 (z.setCell ⟨lg, i, none⟩ (.int .i64 s)) ∧ (z.setCell ⟨lg, i, none⟩ (.int .i64 s)).ownsRow w2.heap.size 2 1 (.slice (some ⟨lg, 0, none⟩) (L.set i s).length lc) (L.set i s).length (icells (L.set i s))))) := hide fun z h cur e3 e4 => by
    have nB : B ≠ lg := fun e => by
      have h1 := h.1.c
      rw [e, e3] at h1
      injection h1 with h1
      injection h1 with _ h1
      exact absurd h1 (by decide)
    have hg : w2.heap.size ≤ lg := by
      obtain ⟨g, cur, e1, e2, _⟩ := own_cell h.2 hi
      cases e1
      exact e2
    have hb : Bw w2 B M F.length (.slice (some ⟨lg, 0, none⟩) L.length lc) (.slice none 0 0) F 0 (z.setCell ⟨lg, i, none⟩ (.int .i64 s)) := ⟨(heap_setCell_other _ _ _ _ nB).trans h.1.c, h.1.m.keep (heap_setCell_other _ _ _ _ (fun e => h.1.ne e3 e.symm)), h.1.r, h.1.lB, h.1.lM, h.1.b.setCell (p := ⟨lg, i, none⟩) hg _⟩
    exact ⟨hb.c, unhide HK _ hb, hb, own_seti h.2 hi⟩
  go_cut [] (fun wx => wx.heap[B]? = some (.cells #[(.slice (some ⟨lg, 0, none⟩) L.length lc), .map (some M), .slice none 0 0, .int .i64 0] 69) ∧ wx.heap[w.heap.size + 1]? = some (.cells #[.int .i64 s, .bool b, .bool fn, .string t] 33) ∧ (Bw w2 B M F.length (.slice (some ⟨lg, 0, none⟩) L.length lc) (.slice none 0 0) F 0 wx ∧ wx.ownsRow w2.heap.size 2 1 (.slice (some ⟨lg, 0, none⟩) (L.set i s).length lc) (L.set i s).length (icells (L.set i s))))
  case first =>
    refine wp_region_held_drew (S := fun z => z.cell? ⟨B, 0, none⟩ = some (.slice (some ⟨lg, 0, none⟩) L.length lc) ∧ z.cell? ⟨w.heap.size + 1, 0, none⟩ = some (.int .i64 s)) (by kernel_rfl) ⟨(row4g ((unhide H3).1.step ((Below.refl _ _).drew)).c).1, (row4g (unhide HK _ ((unhide H3).1.step ((Below.refl _ _).drew)))).1⟩ (fun hHeld => ?_)
    have D0 : Hid (Bw w2 B M F.length (.slice (some ⟨lg, 0, none⟩) L.length lc) (.slice none 0 0) F 0 w3.drew ∧ w3.drew.ownsRow w2.heap.size 2 1 (.slice (some ⟨lg, 0, none⟩) L.length lc) L.length (icells L)) := hide ⟨(unhide H3).1.step ((Below.refl _ _).drew), (unhide H3).2⟩
    generalize w3.drew = yy at D0 hHeld ⊢
    refine wpAnyH_take (i := 0) (v := ?vhr1_0) rfl (by kernel_rfl) (by kernel_rfl) (by kernel_rfl) (fun _ _ _ h => h) (Or.inl ⟨by rfl, ?hyhr1_0⟩) (by assumption) ?_
    case hyhr1_0 =>
      intro w hSw
      try dsimp only at hSw
      go_simp
      try with_reducible rfl
    try simp only [Act.put, List.setIfInBounds_toArray, List.set_cons_zero, List.set_cons_succ, List.getElem_toArray, List.getElem_cons_zero]
    refine wpAnyH_take (i := 1) (v := ?vhr2_1) rfl (by kernel_rfl) (by kernel_rfl) (by kernel_rfl) (fun _ _ _ h => h) (Or.inl ⟨by rfl, ?hyhr2_1⟩) (by assumption) ?_
    case hyhr2_1 =>
      intro w hSw
      try dsimp only at hSw
      go_simp
      try with_reducible rfl
    try simp only [Act.put, List.setIfInBounds_toArray, List.set_cons_zero, List.set_cons_succ, List.getElem_toArray, List.getElem_cons_zero, List.getElem_cons_succ]
    refine wpAnyH_take (i := 2) (v := ?vhr3_2) rfl (by kernel_rfl) (by kernel_rfl) (by kernel_rfl) (fun _ _ _ h => h) (Or.inl ⟨by rfl, ?hyhr3_2⟩) (by assumption) ?_
    case hyhr3_2 =>
      intro w hSw
      try dsimp only at hSw
      go_simp
      try with_reducible rfl
    try simp only [Act.put, List.setIfInBounds_toArray, List.set_cons_zero, List.set_cons_succ, List.getElem_toArray, List.getElem_cons_zero, List.getElem_cons_succ]
    refine wpAnyH_take (i := 3) (v := ?vhr4_3) rfl (by kernel_rfl) (by kernel_rfl) (by kernel_rfl) (fun _ _ _ h => h) (Or.inl ⟨by rfl, ?hyhr4_3⟩) (by assumption) ?_
    case hyhr4_3 =>
      intro w hSw
      try dsimp only at hSw
      go_simp
      try with_reducible rfl
    try simp only [Act.put, List.setIfInBounds_toArray, List.set_cons_zero, List.set_cons_succ, List.getElem_toArray, List.getElem_cons_zero, List.getElem_cons_succ]
    refine wpAnyH_take (i := 4) (v := ?vhr5_4) rfl (by kernel_rfl) (by kernel_rfl) (by kernel_rfl) (fun _ _ _ h => h) (Or.inl ⟨by rfl, ?hyhr5_4⟩) (by assumption) ?_
    case hyhr5_4 =>
      intro w hSw
      try dsimp only at hSw
      go_simp
      try with_reducible rfl
    try simp only [Act.put, List.setIfInBounds_toArray, List.set_cons_zero, List.set_cons_succ, List.getElem_toArray, List.getElem_cons_zero, List.getElem_cons_succ]
    refine wpAnyH_take (i := 5) (v := ?vhr6_5) rfl (by kernel_rfl) (by kernel_rfl) (by kernel_rfl) (fun _ _ _ h => h) (Or.inl ⟨by rfl, ?hyhr6_5⟩) (by assumption) ?_
    case hyhr6_5 =>
      intro w hSw
      try dsimp only at hSw
      go_simp
      try with_reducible rfl
    try simp only [Act.put, List.setIfInBounds_toArray, List.set_cons_zero, List.set_cons_succ, List.getElem_toArray, List.getElem_cons_zero, List.getElem_cons_succ]
    refine wpAnyH_take (i := 6) (v := ?vhr7_6) rfl (by kernel_rfl) (by kernel_rfl) (by kernel_rfl) (fun _ _ _ h => h) (Or.inl ⟨by rfl, ?hyhr7_6⟩) (by assumption) ?_
    case hyhr7_6 =>
      intro w hSw
      try dsimp only at hSw
      go_simp
      try with_reducible rfl
    try simp only [Act.put, List.setIfInBounds_toArray, List.set_cons_zero, List.set_cons_succ, List.getElem_toArray, List.getElem_cons_zero, List.getElem_cons_succ]
    refine wpAnyH_take (i := 7) (v := ?vhr8_7) rfl (by kernel_rfl) (by kernel_rfl) (by kernel_rfl) (fun _ _ _ h => h) (Or.inl ⟨by rfl, ?hyhr8_7⟩) (by assumption) ?_
    case hyhr8_7 =>
      intro w hSw
      try dsimp only at hSw
      go_simp
      try with_reducible rfl
    try simp only [Act.put, List.setIfInBounds_toArray, List.set_cons_zero, List.set_cons_succ, List.getElem_toArray, List.getElem_cons_zero, List.getElem_cons_succ]
    refine wpAnyH_ready (rs := [8]) (by kernel_rfl) (by simp) ?_
    refine AllReadyH.cons rfl (fun K hK => ?_) (AllReadyH.nil)
    obtain ⟨cur, e3, hcs⟩ := unhide HLG _ (unhide D0)
    have cL : yy.cell? ⟨lg, i, none⟩ = some (cur[i]'hcs) := by rw [cell_of_row _ _ _ _ _ _ e3]; exact Array.getElem?_eq_getElem hcs
    have fL : yy.frozen? ⟨lg, i, none⟩ = false := frz e3 i
    have ZF := hide (unhide HZ6 yy (unhide D0) cur e3 hcs)
    go_simp
    clear cL fL e3 hcs
    refine hK.out _ _ (unhide HS _ (unhide ZF)) (fun _ => ?_)
    clear hK K
    try simp only [Act.put, List.setIfInBounds_toArray, List.set_cons_zero, List.set_cons_succ, List.getElem_toArray, List.getElem_cons_zero, List.getElem_cons_succ]
    refine wpAnyH_done (by kernel_rfl) ?_ _
    go_wp2_with fail
    go_meet
    exact unhide ZF
  case rest =>
    obtain ⟨_, hcA, hb4, hl4⟩ := hcut
    obtain ⟨n0, n1, n2, n3⟩ := row4g hcA
    have hk2 : Hid (∀ z, Below w2.heap.size w2 z → z.heap[w.heap.size + 1 + 1]? = some (.cells #[.slice none 0 0, .slice none 0 0, .slice none 0 0, .int .i64 0, .int .i64 0] 37)) := hide fun z h => (h.block _ hA2).trans (unhide H2).2.2.1
    have hw0 := (unhide H2).2.2.2
    have hL1 : (L.set i s).length = L.length := List.length_set
    have hEO : Hid (o = okB L F i ⟨s, b, fn, t⟩) := EO
    unfold okB at hEO
    dsimp only at hEO
    generalize L.set i s = L1 at *
    have hP := putP_len F ⟨s, b, fn, t⟩
    have hPo := putP_ok hpm hfo
    have CP := iPutB w2 wc B M F.length (.slice (some ⟨lg, 0, none⟩) L.length lc) (.slice none 0 0) F 0 ⟨s, b, fn, t⟩ hb4 (by omega) hfo
    unfold fgV at CP
    dsimp only at CP
    have H4 := hide (And.intro hb4 (And.intro hl4 hw0))
    clear hb4 hl4 hcA HS HLG HZ6 HK H3 H2 EO hpm hfo hris hw0
    go_wp2_with fail
    refine CP.mono ?_
    rintro e w5 ⟨rfl, hb5, hg5⟩
    have hl5 := (Kp.tn (unhide H4).1 (Tn.grown hg5)).own (unhide H4).2.1
    rw [← hL1] at hb5
    generalize putP F ⟨s, b, fn, t⟩ = P at *
    have h01 : 0 < L1.length := by omega
    have CS := iSettleB w2 w5 B M (F.length + 1) (some ⟨lg, 0, none⟩) lc L1 P hb5 (HoldsI.own hl5) h01 (by omega) (by omega) hPo
    have em : (L1[0]?).getD 0 = L1[0] := by rw [List.getElem?_eq_getElem h01, Option.getD_some]
    rw [em] at hEO
    generalize minP L1[0] L1 = m at *
    have hsub := settle_sub m _ (-1) P (Nat.le_refl _)
    have hlo := settle_cnt m _ (-1) P (Nat.le_refl _)
    have hsl := hsub.length_le
    have hso2 : ∀ g ∈ (settleP m (-1) P).stay, 0 ≤ g.seq ∧ g.seq ≤ 16777215 := fun g hg => (of_decide_eq_true (hPo g (hsub.subset hg))).1
    generalize settleP m (-1) P = S at *
    have HL5 := hide hl5
    have hwq := (unhide H4).2.2
    have hsz := hwq.size
    clear hb5 hg5 hl5 H4 CP n0 n1 n2 n3 em hsub hPo
    go_wp2_with fail
    refine CS.mono ?_
    rintro e w6 ⟨rfl, gv, hb6, hg6, hk6⟩
    obtain ⟨ga, gc, ev⟩ := own_form hg6
    subst ev
    have CD := iDropB w2 w6 B M (F.length + 1) _ _ S.stay (S.lost : Nat) hb6 hso2 (by omega) (by omega)
    have H6 := hide (And.intro hb6 (And.intro hg6 (hk6.own (unhide HL5))))
    clear hb6 hg6 hk6 CS HL5
    go_wp2_with fail
    refine CD.mono ?_
    rintro e w7 ⟨rfl, hb7, ht7⟩
    have hso3 : ∀ g ∈ S.stay.drop (S.stay.length - 40), 0 ≤ g.seq ∧ g.seq ≤ 16777215 := fun g hg => hso2 g (List.mem_of_mem_drop hg)
    have hfl3 : (S.stay.drop (S.stay.length - 40)).length ≤ 1000 := by rw [List.length_drop]; omega
    have CO := iOutB w2 w7 B M (F.length + 1) (some ⟨lg, 0, none⟩) ga lc gc L1 S.got (S.stay.drop (S.stay.length - 40)) _ hb7 hso3 hfl3
    have H7 := hide (And.intro hb7.b (And.intro (own_tn (unhide H6).1 ht7 (unhide H6).2.1) ((Kp.tn (unhide H6).1 ht7).own (unhide H6).2.2)))
    clear hb7 ht7 CD H6 hso3 hfl3
    go_wp2_with fail
    refine CO.mono ?_
    rintro e w8 ⟨pv, rfl, hp8, hb8⟩
    obtain ⟨pa, pc, ev⟩ := own_form hp8
    subst ev
    have hB8 := (unhide H7).1.trans (hb8.mono (unhide H7).1.size)
    have k2 := unhide hk2 _ hB8
    obtain ⟨r0, r1, r2, r3, r4⟩ := row5b k2
    have f0 := frz k2 0
    have f1 := frz k2 1
    have f2 := frz k2 2
    have f3 := frz k2 3
    have f4 := frz k2 4
    have H8 := hide (And.intro k2 (And.intro (hwq.trans (hB8.mono hsz)) (And.intro (own_lowB (own_below hb8 (unhide H7).2.2) hsz) (And.intro (own_lowB hp8 (Nat.le_trans hsz (unhide H7).1.size)) (own_lowB (own_below hb8 (unhide H7).2.1) hsz)))))
    have ecast : (S.lost : Int) + ((S.stay.length - 40 : Nat) : Int) = ((S.lost + (S.stay.length - 40) : Nat) : Int) := by omega
    rw [ecast]
    clear k2 hB8 hb8 hp8 H7 CO hwq ecast
    generalize (S.lost + (S.stay.length - 40)) = lo at *
    generalize hnp : (S.stay.drop (S.stay.length - 40)).length = np at *
    generalize hng : S.got.length = ng at *
    generalize hnl : L1.length = nl at *
    clear hL1 hin hi hi2 hlw hL
    have HNL := hide hnl
    have HNP := hide hnp
    have HNG := hide hng
    clear hnl hnp hng
    go_wp2
    obtain ⟨k2, k3, k4, k5, k6⟩ := unhide H8
    refine bodyPost_ret (v := .agg #[.slice (some ⟨lg, 0, none⟩) nl lc, .slice pa np pc, .slice ga ng gc, .int .i64 (lo : Nat), .int .i64 0]) (by simp [results, Try.results12, asAddr, loadBo (set5_bo k2 _ _ _ _ _)]) rfl ?_
    rw [unhide hEO]
    refine ⟨_, _, _, rfl, ?_, ?_, ?_, set5_bl k3 (by omega) _ _ _ _ _⟩
    · show World.ownsRow _ _ _ _ _ L1.length _
      rw [unhide HNL]
      exact own_set5 k2 (by decide) _ _ _ _ _ k4
    · show World.ownsRow _ _ _ _ _ (S.stay.drop (S.stay.length - 40)).length _
      rw [unhide HNP]
      exact own_set5 k2 (by decide) _ _ _ _ _ k5
    · show World.ownsRow _ _ _ _ _ S.got.length _
      rw [unhide HNG]
      exact own_set5 k2 (by decide) _ _ _ _ _ k6
end Go.Proofs.Ytfkeokfmancgiaa
