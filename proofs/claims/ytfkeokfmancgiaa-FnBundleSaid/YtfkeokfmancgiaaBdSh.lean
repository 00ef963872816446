/- The model's BundleHear: what it answers, in plain mathematics; memory that was there stands. -/
import Derived.Test.YtfkeokfmancgiaaBdSx
import Derived.Test.YtfkeokfmancgiaaBdS
namespace Go.Proofs.Ytfkeokfmancgiaa
open Go.RowKit
theorem own_cap {z : World} {base n sz cp : Nat} {T : TypeId} {ad : Option Addr} {xs : List Value} (h : z.ownsRow base T sz (.slice ad n cp) n xs) : n ≤ cp := by
  rcases h.2 with ⟨e1, e2⟩ | ⟨g', cap, cur, e1, _, _, e4, _⟩
  · omega
  · injection e1 with _ _ e1
    omega
theorem run_at {P dn l1 : List Fg} {a : Fg} (h : P = dn ++ a :: l1) : dn.length < P.length ∧ P[dn.length]? = some a ∧ P.drop (dn.length + 1) = l1 ∧ dn.length + (runP a l1).1.length < P.length ∧ P[dn.length + (runP a l1).1.length]? = some (lastP a (runP a l1).1) ∧ P.drop (dn.length + (runP a l1).1.length + 1) = (runP a l1).2 ∧ preP P (dn.length + (runP a l1).1.length + 1) = (lastP a (runP a l1).1).seq ∧ (P.drop dn.length).take ((runP a l1).1.length + 1) = a :: (runP a l1).1 ∧ P = (dn ++ a :: (runP a l1).1) ++ (runP a l1).2 := by
  have hap : a :: l1 = (a :: (runP a l1).1) ++ (runP a l1).2 := by rw [List.cons_append, runP_app]
  have hP : P = (dn ++ a :: (runP a l1).1) ++ (runP a l1).2 := by rw [h, hap, List.append_assoc]
  have hl : P.length = dn.length + ((runP a l1).1.length + 1) + (runP a l1).2.length := by rw [hP, List.length_append, List.length_append, List.length_cons]
  have hd1 : P.drop dn.length = a :: l1 := by rw [h, List.drop_left]
  have hg : P[dn.length + (runP a l1).1.length]? = some (lastP a (runP a l1).1) := by
    rw [← List.getElem?_drop, hd1, hap, List.getElem?_append_left (by rw [List.length_cons]; omega)]
    exact last_get a _
  refine ⟨by omega, ?_, ?_, by omega, hg, ?_, ?_, ?_, hP⟩
  · rw [← Nat.add_zero dn.length, ← List.getElem?_drop, hd1]; rfl
  · rw [← List.drop_drop, hd1]; rfl
  · rw [Nat.add_assoc, ← List.drop_drop, hd1, hap, List.drop_append_of_le_length (by rw [List.length_cons]; omega), List.drop_eq_nil_of_le (by rw [List.length_cons]; omega), List.nil_append]
  · show (P[dn.length + (runP a l1).1.length]?.map (·.seq)).getD (-1) = _
    rw [hg]
    rfl
  · rw [hd1, hap, List.take_append_of_le_length (by rw [List.length_cons]; omega), List.take_of_length_le (by rw [List.length_cons]; omega)]
set_option maxHeartbeats 400000 in
theorem sMinB (x y : Int) (w : World) : Calls Try.prog 37 #[.int .i64 x, .int .i64 y] w fun e w' => e = .returned (.int .i64 (min x y)) ∧ w' = w := by
  by_cases h : x < y
  · rw [Int.min_eq_left (by omega)]
    go_enter Try.func37, Try.ntmps37
    go_wp2
    go_ret
    exact ⟨rfl, rfl⟩
  · rw [Int.min_eq_right (by omega)]
    go_enter Try.func37, Try.ntmps37
    go_wp2
    go_ret
    exact ⟨rfl, rfl⟩
set_option linter.unusedSimpArgs false in
set_option maxHeartbeats 64000000 in
set_option maxRecDepth 100000 in
theorem sHearB (ax ay : Option Addr) (cx cy : Nat) (L : List Int) (F : List Fg) (link : Int) (f : Fg) (w : World) (hL : L.length ≤ 1048576) (hF : F.length ≤ 1048576) (h1 : HoldsI w (.slice ax L.length cx) L) (h2 : HoldsF w (.slice ay F.length cy) F) (hcy : F.length ≤ cy) :
    Calls Try.prog 21 #[.agg #[.slice ax L.length cx, .slice ay F.length cy], .int .i64 link, fgV f] w fun e q => AnsM w (hearB L F link f) e q := by
  have C1 := hide fun W (hb : Below w.heap.size w W) => sBdRight ax ay cx cy L F W (by unfold maxLen; omega) (by unfold maxLen; omega) (h1.below hb rfl).f (h2.below hb)
  have C2 := hide fun W => sFgRight f W
  have HH := hide (And.intro h1 h2)
  have hf9 : fgOk f = fgOk f := rfl
  obtain ⟨s, b, fn, t⟩ := f
  obtain ⟨o, ho⟩ : ∃ o, hearB L F link ⟨s, b, fn, t⟩ = o := ⟨_, rfl⟩
  rw [ho]
  have HO := hide ho
  clear ho hf9
  have CP := hide fun W (hb : Below w.heap.size w W) (hl : F.length ≤ 1000) => sPutB W F ay cy ⟨s, b, fn, t⟩ (h2.below hb) hcy hl
  unfold fgV at C2 CP ⊢
  dsimp only at C2 CP ⊢
  have H0 := hide (new3b w (.cells #[.slice ax L.length cx, .slice ay F.length cy] 29) (.cells #[.int .i64 s, .bool b, .bool fn, .string t] 33) (.cells #[.slice none 0 0, .slice none 0 0, .slice none 0 0, .int .i64 0, .int .i64 0] 37))
  clear h1 h2 hcy
  go_enter Try.func21, Try.ntmps21
  go_wp2_with fail
  refine (unhide C1 _ (unhide H0).2.2.2.1).mono ?_
  rintro e w1 ⟨rfl, hb1⟩
  have H1 : Hid (w1.heap[w.heap.size]? = some (.cells #[.slice ax L.length cx, .slice ay F.length cy] 29) ∧ w1.heap[w.heap.size + 1]? = some (.cells #[.int .i64 s, .bool b, .bool fn, .string t] 33) ∧ w1.heap[w.heap.size + 1 + 1]? = some (.cells #[.slice none 0 0, .slice none 0 0, .slice none 0 0, .int .i64 0, .int .i64 0] 37) ∧ Below w.heap.size w w1) := hide ⟨(hb1.block _ (Array.getElem?_eq_some_iff.1 (unhide H0).1).1).trans (unhide H0).1, (hb1.block _ (Array.getElem?_eq_some_iff.1 (unhide H0).2.1).1).trans (unhide H0).2.1, (hb1.block _ (Array.getElem?_eq_some_iff.1 (unhide H0).2.2.1).1).trans (unhide H0).2.2.1, (unhide H0).2.2.2.1.trans (hb1.mono (unhide H0).2.2.2.1.size)⟩
  clear hb1 H0 C1
  obtain ⟨b0, b1⟩ := row2b (unhide H1).1
  obtain ⟨n0, n1, n2, n3⟩ := row4g (unhide H1).2.1
  obtain ⟨r0, r1, r2, r3, r4⟩ := row5b (unhide H1).2.2.1
  have f0 := frz (unhide H1).2.2.1 0
  have f1 := frz (unhide H1).2.2.1 1
  have f2 := frz (unhide H1).2.2.1 2
  have f3 := frz (unhide H1).2.2.1 3
  have f4 := frz (unhide H1).2.2.1 4
  cases hbd : bdOk L F
  · have EO : Hid (o = errB 1) := hide (by rw [← unhide HO]; unfold hearB; rw [if_neg (by rw [hbd]; simp)])
    have HX := hide (And.intro (unhide H1).2.2.1 (unhide H1).2.2.2)
    clear HH C2 CP H1
    go_wp2
    obtain ⟨k2, hB2⟩ := unhide HX
    refine bodyPost_ret (v := .agg #[.slice none 0 0, .slice none 0 0, .slice none 0 0, .int .i64 0, .int .i64 1]) (by simp [results, Try.results21, asAddr, loadBo (set5_bo k2 _ _ _ _ _)]) rfl ?_
    rw [unhide EO]
    exact ⟨none, 0, none, 0, none, 0, rfl, Or.inl ⟨_, _, rfl, rfl⟩, ⟨⟨_, _, rfl⟩, fun i h => by cases h⟩, ⟨Nat.le_refl _, Or.inl rfl⟩, Or.inl ⟨_, _, rfl, rfl⟩, (fun g hg => by cases hg), (fun g hg => by cases hg), (fun g hg => by cases hg), set5_bl hB2 (by omega) _ _ _ _ _⟩
  go_wp2_with fail
  refine (unhide C2 _).mono ?_
  rintro e w2 ⟨rfl, hb2⟩
  have H2 : Hid (w2.heap[w.heap.size]? = some (.cells #[.slice ax L.length cx, .slice ay F.length cy] 29) ∧ w2.heap[w.heap.size + 1]? = some (.cells #[.int .i64 s, .bool b, .bool fn, .string t] 33) ∧ w2.heap[w.heap.size + 1 + 1]? = some (.cells #[.slice none 0 0, .slice none 0 0, .slice none 0 0, .int .i64 0, .int .i64 0] 37) ∧ Below w.heap.size w w2) := hide ⟨(hb2.block _ (Array.getElem?_eq_some_iff.1 (unhide H1).1).1).trans (unhide H1).1, (hb2.block _ (Array.getElem?_eq_some_iff.1 (unhide H1).2.1).1).trans (unhide H1).2.1, (hb2.block _ (Array.getElem?_eq_some_iff.1 (unhide H1).2.2.1).1).trans (unhide H1).2.2.1, (unhide H1).2.2.2.trans (hb2.mono (unhide H1).2.2.2.size)⟩
  clear b0 b1 n0 n1 n2 n3 r0 r1 r2 r3 r4 f0 f1 f2 f3 f4
  clear hb2 H1 C2
  obtain ⟨b0, b1⟩ := row2b (unhide H2).1
  obtain ⟨n0, n1, n2, n3⟩ := row4g (unhide H2).2.1
  obtain ⟨r0, r1, r2, r3, r4⟩ := row5b (unhide H2).2.2.1
  have f0 := frz (unhide H2).2.2.1 0
  have f1 := frz (unhide H2).2.2.1 1
  have f2 := frz (unhide H2).2.2.1 2
  have f3 := frz (unhide H2).2.2.1 3
  have f4 := frz (unhide H2).2.2.1 4
  cases hfo : fgOk ⟨s, b, fn, t⟩
  · have EO : Hid (o = errB 1) := hide (by rw [← unhide HO]; unfold hearB; rw [if_neg (by rw [hfo]; simp)])
    have HX := hide (And.intro (unhide H2).2.2.1 (unhide H2).2.2.2)
    clear HH CP H2
    go_wp2
    obtain ⟨k2, hB2⟩ := unhide HX
    refine bodyPost_ret (v := .agg #[.slice none 0 0, .slice none 0 0, .slice none 0 0, .int .i64 0, .int .i64 1]) (by simp [results, Try.results21, asAddr, loadBo (set5_bo k2 _ _ _ _ _)]) rfl ?_
    rw [unhide EO]
    exact ⟨none, 0, none, 0, none, 0, rfl, Or.inl ⟨_, _, rfl, rfl⟩, ⟨⟨_, _, rfl⟩, fun i h => by cases h⟩, ⟨Nat.le_refl _, Or.inl rfl⟩, Or.inl ⟨_, _, rfl, rfl⟩, (fun g hg => by cases hg), (fun g hg => by cases hg), (fun g hg => by cases hg), set5_bl hB2 (by omega) _ _ _ _ _⟩
  by_cases hneg : link < 0
  · have EO : Hid (o = errB 1) := hide (by rw [← unhide HO]; unfold hearB; rw [if_neg (fun h => by omega)])
    have HX := hide (And.intro (unhide H2).2.2.1 (unhide H2).2.2.2)
    clear HH CP H2
    go_wp2
    obtain ⟨k2, hB2⟩ := unhide HX
    refine bodyPost_ret (v := .agg #[.slice none 0 0, .slice none 0 0, .slice none 0 0, .int .i64 0, .int .i64 1]) (by simp [results, Try.results21, asAddr, loadBo (set5_bo k2 _ _ _ _ _)]) rfl ?_
    rw [unhide EO]
    exact ⟨none, 0, none, 0, none, 0, rfl, Or.inl ⟨_, _, rfl, rfl⟩, ⟨⟨_, _, rfl⟩, fun i h => by cases h⟩, ⟨Nat.le_refl _, Or.inl rfl⟩, Or.inl ⟨_, _, rfl, rfl⟩, (fun g hg => by cases hg), (fun g hg => by cases hg), (fun g hg => by cases hg), set5_bl hB2 (by omega) _ _ _ _ _⟩
  by_cases hge : (L.length : Int) ≤ link
  · have EO : Hid (o = errB 1) := hide (by rw [← unhide HO]; unfold hearB; rw [if_neg (fun h => by omega)])
    have HX := hide (And.intro (unhide H2).2.2.1 (unhide H2).2.2.2)
    clear HH CP H2
    go_wp2
    obtain ⟨k2, hB2⟩ := unhide HX
    refine bodyPost_ret (v := .agg #[.slice none 0 0, .slice none 0 0, .slice none 0 0, .int .i64 0, .int .i64 1]) (by simp [results, Try.results21, asAddr, loadBo (set5_bo k2 _ _ _ _ _)]) rfl ?_
    rw [unhide EO]
    exact ⟨none, 0, none, 0, none, 0, rfl, Or.inl ⟨_, _, rfl, rfl⟩, ⟨⟨_, _, rfl⟩, fun i h => by cases h⟩, ⟨Nat.le_refl _, Or.inl rfl⟩, Or.inl ⟨_, _, rfl, rfl⟩, (fun g hg => by cases hg), (fun g hg => by cases hg), (fun g hg => by cases hg), set5_bl hB2 (by omega) _ _ _ _ _⟩
  have hin : 0 ≤ link ∧ link < (L.length : Int) := by omega
  obtain ⟨i, ei⟩ : ∃ i : Nat, (i : Int) = link := ⟨link.toNat, by omega⟩
  subst ei
  have hi : i < L.length := by omega
  have ho : (if s ≤ L[i] then errB 8 else okB L F i ⟨s, b, fn, t⟩) = o := by
    have h := unhide HO
    unfold hearB at h
    rw [if_pos ⟨hbd, hfo, hin⟩, Int.toNat_natCast, List.getElem?_eq_getElem hi, Option.getD_some] at h
    exact h
  obtain ⟨xg, xc, ev, cL⟩ := getI ((unhide HH).1.below (unhide H2).2.2.2 rfl) i hi
  injection ev with ev _ ev2
  subst ev
  clear ev2
  have hi2 : (i : Int) < (L.length : Int) := hin.2
  have HI := hide fun z (hb : Below w.heap.size w z) => getI ((unhide HH).1.below hb rfl) i hi
  clear cL
  have HS3 : Hid (∀ z : World, (z.heap[w.heap.size]? = some (.cells #[.slice (some ⟨xg, 0, none⟩) L.length cx, .slice ay F.length cy] 29) ∧ z.heap[w.heap.size + 1]? = some (.cells #[.int .i64 s, .bool b, .bool fn, .string t] 33) ∧ z.heap[w.heap.size + 1 + 1]? = some (.cells #[.slice none 0 0, .slice none 0 0, .slice none 0 0, .int .i64 0, .int .i64 0] 37) ∧ Below w.heap.size w z) → (z.cell? ⟨w.heap.size, 0, none⟩ = some (.slice (some ⟨xg, 0, none⟩) L.length cx) ∧ z.cell? ⟨w.heap.size + 1, 0, none⟩ = some (.int .i64 s)) ∧ z.cell? ⟨xg, i, none⟩ = some (.int .i64 L[i])) := hide fun z h => by
    obtain ⟨g, c, ev, cL⟩ := unhide HI z h.2.2.2
    cases ev
    exact ⟨⟨(row2b h.1).1, (row4g h.2.1).1⟩, cL⟩
  go_upto_region 3 with fail
  clear b0 b1 n0 n1 n2 n3 r0 r1 r2 r3 r4 f0 f1 f2 f3 f4
  go_cut [45] (fun x wx => x = .bool (decide (s ≤ L[i])) ∧ (wx.heap[w.heap.size]? = some (.cells #[.slice (some ⟨xg, 0, none⟩) L.length cx, .slice ay F.length cy] 29) ∧ wx.heap[w.heap.size + 1]? = some (.cells #[.int .i64 s, .bool b, .bool fn, .string t] 33) ∧ wx.heap[w.heap.size + 1 + 1]? = some (.cells #[.slice none 0 0, .slice none 0 0, .slice none 0 0, .int .i64 0, .int .i64 0] 37) ∧ Below w.heap.size w wx))
  case first =>
    refine wp_region_held_drew (S := fun z => (z.cell? ⟨w.heap.size, 0, none⟩ = some (.slice (some ⟨xg, 0, none⟩) L.length cx) ∧ z.cell? ⟨w.heap.size + 1, 0, none⟩ = some (.int .i64 s)) ∧ z.cell? ⟨xg, i, none⟩ = some (.int .i64 L[i])) (by kernel_rfl) (unhide HS3 _ ⟨(unhide H2).1, (unhide H2).2.1, (unhide H2).2.2.1, (unhide H2).2.2.2.drew⟩) (fun hHeld => ?_)
    have D0 : Hid (w2.drew.heap[w.heap.size]? = some (.cells #[.slice (some ⟨xg, 0, none⟩) L.length cx, .slice ay F.length cy] 29) ∧ w2.drew.heap[w.heap.size + 1]? = some (.cells #[.int .i64 s, .bool b, .bool fn, .string t] 33) ∧ w2.drew.heap[w.heap.size + 1 + 1]? = some (.cells #[.slice none 0 0, .slice none 0 0, .slice none 0 0, .int .i64 0, .int .i64 0] 37) ∧ Below w.heap.size w w2.drew) := hide ⟨(unhide H2).1, (unhide H2).2.1, (unhide H2).2.2.1, (unhide H2).2.2.2.drew⟩
    generalize w2.drew = yy at D0 hHeld ⊢
    clear H2
    generalize L[i] = y at *
    refine wpAnyH_take (i := 0) (v := ?vhq1_0) rfl (by kernel_rfl) (by kernel_rfl) (by kernel_rfl) (fun _ _ _ h => h) (Or.inl ⟨by rfl, ?hyhq1_0⟩) (by assumption) ?_
    case hyhq1_0 =>
      intro w hSw
      try dsimp only at hSw
      go_simp
      try with_reducible rfl
    try simp only [Act.put, List.setIfInBounds_toArray, List.set_cons_zero, List.set_cons_succ, List.getElem_toArray, List.getElem_cons_zero]
    refine wpAnyH_take (i := 1) (v := ?vhq2_1) rfl (by kernel_rfl) (by kernel_rfl) (by kernel_rfl) (fun _ _ _ h => h) (Or.inl ⟨by rfl, ?hyhq2_1⟩) (by assumption) ?_
    case hyhq2_1 =>
      intro w hSw
      try dsimp only at hSw
      go_simp
      try with_reducible rfl
    try simp only [Act.put, List.setIfInBounds_toArray, List.set_cons_zero, List.set_cons_succ, List.getElem_toArray, List.getElem_cons_zero, List.getElem_cons_succ]
    refine wpAnyH_take (i := 2) (v := ?vhq3_2) rfl (by kernel_rfl) (by kernel_rfl) (by kernel_rfl) (fun _ _ _ h => h) (Or.inl ⟨by rfl, ?hyhq3_2⟩) (by assumption) ?_
    case hyhq3_2 =>
      intro w hSw
      try dsimp only at hSw
      go_simp
      try with_reducible rfl
    try simp only [Act.put, List.setIfInBounds_toArray, List.set_cons_zero, List.set_cons_succ, List.getElem_toArray, List.getElem_cons_zero, List.getElem_cons_succ]
    refine wpAnyH_take (i := 3) (v := ?vhq4_3) rfl (by kernel_rfl) (by kernel_rfl) (by kernel_rfl) (fun _ _ _ h => h) (Or.inl ⟨by rfl, ?hyhq4_3⟩) (by assumption) ?_
    case hyhq4_3 =>
      intro w hSw
      try dsimp only at hSw
      go_simp
      try with_reducible rfl
    try simp only [Act.put, List.setIfInBounds_toArray, List.set_cons_zero, List.set_cons_succ, List.getElem_toArray, List.getElem_cons_zero, List.getElem_cons_succ]
    refine wpAnyH_take (i := 4) (v := ?vhq5_4) rfl (by kernel_rfl) (by kernel_rfl) (by kernel_rfl) (fun _ _ _ h => h) (Or.inl ⟨by rfl, ?hyhq5_4⟩) (by assumption) ?_
    case hyhq5_4 =>
      intro w hSw
      try dsimp only at hSw
      go_simp
      try with_reducible rfl
    try simp only [Act.put, List.setIfInBounds_toArray, List.set_cons_zero, List.set_cons_succ, List.getElem_toArray, List.getElem_cons_zero, List.getElem_cons_succ]
    refine wpAnyH_take (i := 5) (v := ?vhq6_5) rfl (by kernel_rfl) (by kernel_rfl) (by kernel_rfl) (fun _ _ _ h => h) (Or.inl ⟨by rfl, ?hyhq6_5⟩) (by assumption) ?_
    case hyhq6_5 =>
      intro w hSw
      try dsimp only at hSw
      go_simp
      try with_reducible rfl
    try simp only [Act.put, List.setIfInBounds_toArray, List.set_cons_zero, List.set_cons_succ, List.getElem_toArray, List.getElem_cons_zero, List.getElem_cons_succ]
    refine wpAnyH_take (i := 6) (v := ?vhq7_6) rfl (by kernel_rfl) (by kernel_rfl) (by kernel_rfl) (fun _ _ _ h => h) (Or.inl ⟨by rfl, ?hyhq7_6⟩) (by assumption) ?_
    case hyhq7_6 =>
      intro w hSw
      try dsimp only at hSw
      go_simp
      try with_reducible rfl
    try simp only [Act.put, List.setIfInBounds_toArray, List.set_cons_zero, List.set_cons_succ, List.getElem_toArray, List.getElem_cons_zero, List.getElem_cons_succ]
    refine wpAnyH_take (i := 7) (v := ?vhq8_7) rfl (by kernel_rfl) (by kernel_rfl) (by kernel_rfl) (fun _ _ _ h => h) (Or.inl ⟨by rfl, ?hyhq8_7⟩) (by assumption) ?_
    case hyhq8_7 =>
      intro w hSw
      try dsimp only at hSw
      go_simp
      try with_reducible rfl
    try simp only [Act.put, List.setIfInBounds_toArray, List.set_cons_zero, List.set_cons_succ, List.getElem_toArray, List.getElem_cons_zero, List.getElem_cons_succ]
    refine wpAnyH_done (by kernel_rfl) ?_ _
    go_wp2_with fail
    go_meet
    exact ⟨rfl, unhide D0⟩
  case rest =>
  obtain ⟨ex, hcut⟩ := hcut
  subst ex
  clear H2 HI HS3 w2
  obtain ⟨w2, ew⟩ : ∃ z, z = wc := ⟨_, rfl⟩
  subst ew
  have H2 := hide hcut
  clear hcut
  obtain ⟨b0, b1⟩ := row2b (unhide H2).1
  obtain ⟨n0, n1, n2, n3⟩ := row4g (unhide H2).2.1
  obtain ⟨r0, r1, r2, r3, r4⟩ := row5b (unhide H2).2.2.1
  have f0 := frz (unhide H2).2.2.1 0
  have f1 := frz (unhide H2).2.2.1 1
  have f2 := frz (unhide H2).2.2.1 2
  have f3 := frz (unhide H2).2.2.1 3
  have f4 := frz (unhide H2).2.2.1 4
  by_cases hs : s ≤ L[i]
  · have EO : Hid (o = errB 8) := hide (by rw [← ho, if_pos hs])
    have ds : decide (s ≤ L[i]) = true := decide_eq_true hs
    clear ho hs
    rw [ds]
    clear ds
    have HX := hide (And.intro (unhide H2).2.2.1 (unhide H2).2.2.2)
    clear HH CP H2 hbd hfo hin
    go_wp2
    obtain ⟨k2, hB2⟩ := unhide HX
    refine bodyPost_ret (v := .agg #[.slice none 0 0, .slice none 0 0, .slice none 0 0, .int .i64 0, .int .i64 8]) (by simp [results, Try.results21, asAddr, loadBo (set5_bo k2 _ _ _ _ _)]) rfl ?_
    rw [unhide EO]
    exact ⟨none, 0, none, 0, none, 0, rfl, Or.inl ⟨_, _, rfl, rfl⟩, ⟨⟨_, _, rfl⟩, fun i h => by cases h⟩, ⟨Nat.le_refl _, Or.inl rfl⟩, Or.inl ⟨_, _, rfl, rfl⟩, (fun g hg => by cases hg), (fun g hg => by cases hg), (fun g hg => by cases hg), set5_bl hB2 (by omega) _ _ _ _ _⟩
  have ds : decide (s ≤ L[i]) = false := decide_eq_false hs
  rw [ds]
  clear ds
  have EO : Hid (o = okB L F i ⟨s, b, fn, t⟩) := hide (by rw [← ho, if_neg hs])
  clear ho
  have hok := bdOk_ok hbd
  have hpm := ptOk_mem hok.2
  have hln : 1 ≤ L.length ∧ L.length ≤ 8 := hok.1.1
  have hlv : ∀ x ∈ L, -1 ≤ x := fun x hx => by
    obtain ⟨j, hj, e⟩ := List.getElem_of_mem hx
    rw [← e]
    exact (hok.1.2 j hj).1
  have hfl : F.length ≤ 40 := hok.2.1
  have hso := (of_decide_eq_true hfo).1
  obtain ⟨hX0, hE0, hbX, hsX⟩ := new2b w2 (.cells #[.slice none 0 0, .slice none 0 0, .slice none 0 0, .int .i64 0, .int .i64 0] 37) (.cells #[] 2)
  have hw2 := (unhide H2).2.2.2
  have hA2 : w.heap.size + 1 + 1 < w2.heap.size := (Array.getElem?_eq_some_iff.1 (unhide H2).2.2.1).1
  have hown0 : ((w2.alloc (.cells #[.slice none 0 0, .slice none 0 0, .slice none 0 0, .int .i64 0, .int .i64 0] 37)).alloc (.cells #[] 2)).ownsRow w2.heap.size 2 1 (.slice (some ⟨w2.heap.size + 1, 0, none⟩) 0 0) ([] : List Int).length (icells []) := ⟨rfl, Or.inr ⟨w2.heap.size + 1, 0, #[], rfl, Nat.le_succ _, hE0, Nat.le_refl _, Nat.zero_le _, rfl, rfl⟩⟩
  have H3 := hide (And.intro hown0 (And.intro hX0 (And.intro hbX ((unhide HH).1.below (hw2.trans (hbX.mono hw2.size)) rfl))))
  have hsz3 : ((w2.alloc (.cells #[.slice none 0 0, .slice none 0 0, .slice none 0 0, .int .i64 0, .int .i64 0] 37)).alloc (.cells #[] 2)).heap.size = w2.heap.size + 2 := hsX
  have b3 := (row2b ((hbX.block _ (by omega)).trans (unhide H2).1)).1
  clear b0 b1 n0 n1 n2 n3 r0 r1 r2 r3 r4 f0 f1 f2 f3 f4
  clear hown0 hX0 hE0 hbX hsX hok hs
  go_wp2_with (first
    | (at_builtin; refine append_is rfl _ _ rfl w2.heap.size _ _ [] L rfl rfl (unhide H3).1 (unhide H3).2.2.2 (by simp) hL (by rw [hsz3]; omega) ?_))
  rintro v4 w4 ho4 hg4
  have ho4' : w4.ownsRow w2.heap.size 2 1 v4 L.length (icells L) := by simpa using ho4
  have hB4 : Below w2.heap.size w2 w4 := (unhide H3).2.2.1.grown hg4 (unhide H3).2.2.1.size (fun k hk => by have e' : w2.heap.size + 1 = k := Option.some.inj hk; omega)
  have hX4 : w4.heap[w2.heap.size]? = some (.cells #[.slice none 0 0, .slice none 0 0, .slice none 0 0, .int .i64 0, .int .i64 0] 37) := (hg4.block _ (Nat.lt_of_lt_of_eq (Nat.lt_add_of_pos_right (by decide)) hsz3.symm) (fun e => by have e' : w2.heap.size = w2.heap.size + 1 := Option.some.inj e; omega)).trans (unhide H3).2.1
  obtain ⟨la, lc, ev⟩ := own_form ho4'
  subst ev
  obtain ⟨lg, cur, ea, hlg, e3, hcs⟩ := own_cell ho4' hi
  subst ea
  have cL : w4.cell? ⟨lg, i, none⟩ = some (cur[i]'hcs) := by rw [cell_of_row _ _ _ _ _ _ e3]; exact Array.getElem?_eq_getElem hcs
  have fL : w4.frozen? ⟨lg, i, none⟩ = false := frz e3 i
  have n0 := (row4g ((hB4.block _ (by omega)).trans (unhide H2).2.1)).1
  have HZ : Hid ((w4.setCell ⟨lg, i, none⟩ (.int .i64 s)).ownsRow w2.heap.size 2 1 (.slice (some ⟨lg, 0, none⟩) (L.set i s).length lc) (L.set i s).length (icells (L.set i s)) ∧ (w4.setCell ⟨lg, i, none⟩ (.int .i64 s)).heap[w2.heap.size]? = some (.cells #[.slice none 0 0, .slice none 0 0, .slice none 0 0, .int .i64 0, .int .i64 0] 37) ∧ Below w2.heap.size w2 (w4.setCell ⟨lg, i, none⟩ (.int .i64 s))) := hide ⟨own_seti ho4' hi, (heap_setCell_other _ _ _ _ (kind_ne hX4 e3 (by decide))).trans hX4, hB4.setCell (p := ⟨lg, i, none⟩) hlg _⟩
  clear ho4 ho4' hg4 hB4 hX4 hlg e3 H3 b3
  go_upto_region 8 with fail
  refine gen_world (fun z => z.ownsRow w2.heap.size 2 1 (.slice (some ⟨lg, 0, none⟩) (L.set i s).length lc) (L.set i s).length (icells (L.set i s)) ∧ z.heap[w2.heap.size]? = some (.cells #[.slice none 0 0, .slice none 0 0, .slice none 0 0, .int .i64 0, .int .i64 0] 37) ∧ Below w2.heap.size w2 z) (unhide HZ) ?_
  clear HZ cL fL n0
  intro z hz
  have hL1 : (L.set i s).length = L.length := List.length_set
  have hlv1 : ∀ x ∈ L.set i s, -1 ≤ x := fun x hx => by
    rcases List.mem_or_eq_of_mem_set hx with h | h
    · exact hlv x h
    · omega
  unfold okB at EO
  dsimp only at EO
  generalize L.set i s = L1 at *
  have h01 : 0 < L1.length := by omega
  have em : (L1[0]?).getD 0 = L1[0] := by rw [List.getElem?_eq_getElem h01, Option.getD_some]
  rw [em] at EO
  clear em
  have HLI := hide (HoldsI.own hz.1)
  obtain ⟨lg0, lc0, ev, c0⟩ := getI (HoldsI.own hz.1) 0 h01
  cases ev
  have HZ := hide hz
  rw [hL1] at hz
  clear hz
  have hmge : -1 ≤ minP L1[0] L1 := minP_ge (-1) L1 _ (hlv1 _ (List.getElem_mem h01)) hlv1
  generalize hy0 : L1[0] = y0 at c0 EO hmge
  go_upto_region 10 with fail
  go_loopg [9, 10] L1.length (fun gk x y wr => ∃ j : Nat, y = .int .i64 (j : Nat) ∧ j + gk = L1.length ∧ x = .int .i64 (minP y0 (L1.take j)) ∧ wr = z)
  case atStart => exact ⟨0, rfl, Nat.zero_add _, rfl, rfl⟩
  case round =>
    obtain ⟨j, rfl, hjg, rfl, hw⟩ := hrel
    replace hw := hw.symm
    subst hw
    clear c0
    by_cases hlt : j < L1.length
    · have e1 : (j : Int) < (L1.length : Int) := by omega
      obtain ⟨g', cp', ev, c1⟩ := getI (unhide HLI) j hlt
      cases ev
      have htk : L1.take (j + 1) = L1.take j ++ [L1[j]] := by rw [List.take_succ_eq_append_getElem hlt]
      generalize L1[j] = y at c1 htk
      have hms := minP_snoc y0 (L1.take j) y
      rw [← htk] at hms
      generalize minP y0 (L1.take j) = x at hms ⊢
      have HM := hide hms
      have CM := sMinB x y z
      clear hms htk
      go_wp2_with fail
      refine CM.mono ?_
      rintro e z' ⟨rfl, hw⟩
      replace hw := hw.symm
      subst hw
      clear c1 CM
      go_wp2_with fail
      go_roundg (gk - 1)
      case measure => omega
      case rel => exact ⟨j + 1, by push_cast; rfl, by omega, by rw [unhide HM], rfl⟩
    · have e1 : ¬ ((j : Int) < (L1.length : Int)) := by omega
      have ej : j = L1.length := by omega
      rw [ej, List.take_length]
      subst ej
      generalize minP y0 L1 = m at *
      have hBw := (unhide H2).2.2.2.trans ((unhide HZ).2.2.mono (unhide H2).2.2.2.size)
      obtain ⟨_, b1⟩ := row2b (((unhide HZ).2.2.block _ (by omega)).trans (unhide H2).1)
      obtain ⟨n0, n1, n2, n3⟩ := row4g (((unhide HZ).2.2.block _ (by omega)).trans (unhide H2).2.1)
      have C := unhide CP z hBw (by omega)
      have HP := hide (putP_ok hpm hfo)
      have hpl := putP_len F ⟨s, b, fn, t⟩
      generalize putP F ⟨s, b, fn, t⟩ = P at *
      have HB := hide hBw
      clear hBw HH CP
      go_wp2_with fail
      refine C.mono ?_
      rintro e z3 ⟨pv, rfl, hp3, hb3⟩
      obtain ⟨pa, pc, ev⟩ := own_form hp3
      subst ev
      have hpc := own_cap hp3
      have hbE := (Below.refl z3.heap.size z3).alloc (Nat.le_refl _) (.cells #[] 33)
      have HM0 : Hid (Mx w w2.heap.size z3.heap.size w2.heap.size (.slice (some ⟨lg, 0, none⟩) L1.length lc) (.slice pa P.length pc) L1 P (.slice (some ⟨z3.heap.size, 0, none⟩) 0 0) [] (.slice none 0 0) [] 0 (z3.alloc (.cells #[] 33))) := hide (by
        have hz := unhide HZ
        have hb4 := hb3.trans (hbE.mono hb3.size)
        have hwz := (unhide HB)
        refine ⟨(hb4.block _ (Array.getElem?_eq_some_iff.1 hz.2.1).1).trans hz.2.1, ?_, by omega, own_below hb4 hz.1, own_lowB (own_below hbE hp3) hz.2.2.size, ⟨rfl, Or.inr ⟨z3.heap.size, 0, #[], rfl, Nat.le_refl _, heap_alloc_new z3 _, Nat.le_refl _, Nat.zero_le _, rfl, rfl⟩⟩, fun g hg => (hp3.lt g hg).2, World.ownsRow_nil _ _ _ _, hwz.trans (hb4.mono hwz.size), (unhide H2).2.2.2.size, Nat.le_trans hz.2.2.size hb3.size, Nat.le_refl _, hbE.size⟩
        have h5 := hz.2.2.trans (hb4.mono hz.2.2.size)
        exact (h5.block _ hA2).trans (unhide H2).2.2.1)
      clear hp3 hb3 hbE HZ HB H2 C b1 n0 n1 n2 n3 HLI hpm hfo hbd hlv hlv1 hin hi2 hneg hge hi HO hy0
      generalize hlvv : (.slice (some ⟨lg, 0, none⟩) L1.length lc : Value) = lv at *
      generalize hb0 : w2.heap.size = b0 at *
      generalize hb1 : z3.heap.size = b1 at *
      go_upto_region 16 with fail
      refine gen_world (fun z => Mx w b0 b1 b0 lv (.slice pa P.length pc) L1 P (.slice (some ⟨b1, 0, none⟩) 0 0) [] (.slice none 0 0) [] 0 z) (unhide HM0) ?_
      clear HM0
      intro z4 hz4
      have HM0 := hide hz4
      clear hz4
      have hPo : ∀ f ∈ P, 0 ≤ f.seq ∧ f.seq ≤ 16777215 := fun f hf => (of_decide_eq_true (unhide HP f hf)).1
      have hPl : P.length ≤ 1000 := by omega
      go_loopg [12, 13] P.length (fun gk x y wr => ∃ (dn l st : List Fg) (G : List ByteArray) (c : Nat) (gv : Value), st.length + l.length ≤ P.length ∧ P = dn ++ l ∧ l.length = gk ∧ y = .int .i64 (dn.length : Nat) ∧ Sm m P st l G c (preP P dn.length) ∧ Mx w b0 b1 b0 lv (.slice pa P.length pc) L1 P x st gv G (c : Int) wr)
      case atStart => exact ⟨[], P, [], [], 0, .slice none 0 0, by simp, rfl, rfl, rfl, ⟨rfl, rfl, (Nat.zero_add _).symm, by simp, by simp, Nat.le_refl _, fun f hf => unhide HP f hf⟩, unhide HM0⟩
      case round =>
        obtain ⟨dn, l, st, G, c, gv, hstn, hPd, hgl, rfl, hsm, hmx⟩ := hrel
        obtain ⟨xa, xc, ev⟩ := own_form hmx.s
        subst ev
        have HMX := hide hmx
        have HSL := hide (And.intro hstn hsm)
        clear hmx HM0
        cases l with
        | nil =>
          have e1 : ¬ ((dn.length : Int) < (P.length : Int)) := by
            have h : P.length = dn.length := by rw [hPd]; simp
            omega
          have EO1 : Hid (o = ⟨L1, st.drop (st.length - 40), G, c + (st.length - 40), 0⟩) := hide (by
            obtain ⟨k1, k2, k3, _⟩ := hsm
            rw [settle_nil] at k1 k2 k3
            dsimp only at k1 k2 k3
            rw [List.append_nil] at k1 k2
            rw [Nat.add_zero] at k3
            rw [unhide EO, k1, k2, k3])
          obtain ⟨ga, gc, ev⟩ := own_form (unhide HMX).g
          subst ev
          have hxc := own_cap (unhide HMX).s
          have hstl : st.length ≤ 1000 := by have := (unhide HSL).1; omega
          have hcl : c ≤ 1000 := by have := hsm.n2; rw [List.length_nil] at this; omega
          clear hsm EO hgl hPd hstn
          by_cases h40 : 40 < st.length
          · have g40 : (40 : Int) < (st.length : Int) := by omega
            have cx3 := (row5b (unhide HMX).x).2.2.2.1
            have fx3 := frz (unhide HMX).x 3
            obtain ⟨d, hd⟩ : ∃ d, d = st.length - 40 := ⟨_, rfl⟩
            obtain ⟨ya, hya⟩ : ∃ ya : Option Addr, ya = (if xc = d then xa else xa.map (·.add (d * 4))) := ⟨_, rfl⟩
            obtain ⟨nd, hnd0⟩ : ∃ nd, nd = st.length - d := ⟨_, rfl⟩
            obtain ⟨yc, hyc0⟩ : ∃ yc, yc = xc - d := ⟨_, rfl⟩
            have hs1 : ∀ z : World, (Instr.slice 25 (.slice xa st.length xc) (some (.int .i64 ((st.length : Int) - 40))) none none).run Try.prog z = .ok (.slice ya nd yc) z := fun z => by
              rw [hya, hnd0, hyc0]
              have h := slice_gl z xa st.length xc d (by omega)
              rw [show ((d : Nat) : Int) = (st.length : Int) - 40 by omega] at h
              exact h
            have hnd : (st.drop d).length = nd := by rw [List.length_drop, hnd0]
            have HYF : Hid (∀ z : World, z.ownsRow b1 33 4 (.slice xa st.length xc) st.length (fgcells st) → HoldsF z (.slice ya nd yc) (st.drop d)) := hide fun z hz => by
              have h := ((HoldsG.own hz).f).cut (lo := d) (hi := st.length) (by omega) (Nat.le_refl _) hxc
              rw [List.take_of_length_le (by rw [List.length_drop]; omega)] at h
              rw [hya, hnd0, hyc0]
              exact h
            have HYR : Hid (∀ z : World, z.ownsRow b1 33 4 (.slice xa st.length xc) st.length (fgcells st) → RoomF z (.slice ya nd yc)) := hide fun z hz => by
              rw [hya, hnd0, hyc0]
              exact RoomF.cut hz (by omega)
            have HYO : Hid (∀ g, (Value.slice ya (st.drop d).length yc).ownBlock = some g → b1 ≤ g) := hide fun g hg => by
              rw [hya, ownb_cut xa _ _ _ _ st.length xc] at hg
              exact ((unhide HMX).s.lt g hg).1
            have hyc : nd ≤ yc := by omega
            have ecast : (c : Int) + ((st.length : Int) - 40) = ((c + (st.length - 40) : Nat) : Int) := by omega
            have HM8 : Hid (Mx w b0 b1 b0 lv (.slice pa P.length pc) L1 P (.slice xa st.length xc) st (.slice ga G.length gc) G ((c + (st.length - 40) : Nat) : Int) (wr.setCell ⟨b0, 3, none⟩ (.int .i64 ((c : Int) + ((st.length : Int) - 40))))) := hide (by rw [← ecast]; exact (unhide HMX).lost _)
            have EO2 : Hid (o = ⟨L1, st.drop d, G, c + (st.length - 40), 0⟩) := hide (by rw [unhide EO1, ← hd])
            have HDD := hide (And.intro hd (And.intro hya (And.intro hnd0 hyc0)))
            clear hd hya hnd0 hyc0 ecast HMX EO1
            go_upto_region 33 with fail
            refine gen_world (fun z => Mx w b0 b1 b0 lv (.slice pa P.length pc) L1 P (.slice xa st.length xc) st (.slice ga G.length gc) G ((c + (st.length - 40) : Nat) : Int) z) (unhide HM8) ?_
            clear HM8 cx3 fx3 hs1
            intro z8 hz8
            have HM8 := hide hz8
            clear hz8
            generalize c + (st.length - 40) = c8 at *
            obtain ⟨x0, x1, x2, x3, x4⟩ := row5b (unhide HM8).x
            obtain ⟨r0, r1, r2, r3, r4⟩ := row5b (unhide HM8).r
            have g0 := frz (unhide HM8).x 0
            have g1 := frz (unhide HM8).x 1
            have f0 := frz (unhide HM8).r 0
            have f1 := frz (unhide HM8).r 1
            have f2 := frz (unhide HM8).r 2
            have f3 := frz (unhide HM8).r 3
            have f4 := frz (unhide HM8).r 4
            have nX : ¬ (b0 = w.heap.size + 1 + 1) := (unhide HM8).n
            have nX2 : ¬ (w.heap.size + 1 + 1 = b0) := fun e => nX e.symm
            generalize hgl8 : G.length = ng at *
            clear hPo HP HSL
            go_wp2
            have hm := unhide HM8
            have kX : ((z8.setCell ⟨b0, 0, none⟩ (.slice (some ⟨lg, 0, none⟩) L.length lc)).setCell ⟨b0, 1, none⟩ (.slice ya nd yc)).heap[b0]? = some (.cells #[.slice (some ⟨lg, 0, none⟩) L.length lc, .slice ya nd yc, .slice ga ng gc, .int .i64 (c8 : Nat), .int .i64 0] 37) := heap_setCell_same _ _ 1 _ _ _ (heap_setCell_same _ _ 0 _ _ _ hm.x)
            have kR : ((z8.setCell ⟨b0, 0, none⟩ (.slice (some ⟨lg, 0, none⟩) L.length lc)).setCell ⟨b0, 1, none⟩ (.slice ya nd yc)).heap[w.heap.size + 1 + 1]? = some (.cells #[.slice none 0 0, .slice none 0 0, .slice none 0 0, .int .i64 0, .int .i64 0] 37) := (heap_setCell_other _ _ _ _ nX2).trans ((heap_setCell_other _ _ _ _ nX2).trans hm.r)
            have ol := own_setc (own_setc hm.l hm.x (by decide) (i := 0) (.slice (some ⟨lg, 0, none⟩) L.length lc)) (heap_setCell_same _ _ 0 _ _ _ hm.x) (by decide) (i := 1) (.slice ya nd yc)
            have os := own_setc (own_setc hm.s hm.x (by decide) (i := 0) (.slice (some ⟨lg, 0, none⟩) L.length lc)) (heap_setCell_same _ _ 0 _ _ _ hm.x) (by decide) (i := 1) (.slice ya nd yc)
            have og := own_setc (own_setc hm.g hm.x (by decide) (i := 0) (.slice (some ⟨lg, 0, none⟩) L.length lc)) (heap_setCell_same _ _ 0 _ _ _ hm.x) (by decide) (i := 1) (.slice ya nd yc)
            have hb8 : Below w.heap.size w ((z8.setCell ⟨b0, 0, none⟩ (.slice (some ⟨lg, 0, none⟩) L.length lc)).setCell ⟨b0, 1, none⟩ (.slice ya nd yc)) := (hm.b.setCell (p := ⟨b0, 0, none⟩) hm.q0 _).setCell (p := ⟨b0, 1, none⟩) hm.q0 _
            refine bodyPost_ret (v := .agg #[.slice (some ⟨lg, 0, none⟩) L.length lc, .slice ya nd yc, .slice ga ng gc, .int .i64 (c8 : Nat), .int .i64 0]) (by simp [results, Try.results21, asAddr, loadBo (set5_bo kR _ _ _ _ _)]) rfl ?_
            rw [unhide EO2]
            subst hlvv
            refine ⟨some ⟨lg, 0, none⟩, lc, ya, yc, ga, gc, ?_, HoldsI.own (own_set5 kR (by decide) _ _ _ _ _ ol), ?_, ?_, ?_, fun g hg => Nat.le_trans hm.q0 (ol.lt g hg).1, fun g hg => Nat.le_trans hm.q0 (Nat.le_trans hm.q1 (unhide HYO g hg)), fun g hg => Nat.le_trans hm.q0 (og.lt g (by rw [← hgl8]; exact hg)).1, set5_bl hb8 (by omega) _ _ _ _ _⟩
            · show _ = Ending.returned (.agg #[.slice _ L1.length _, .slice _ (st.drop d).length _, .slice _ G.length _, _, _])
              rw [hL1, hnd, hgl8]
            · show HoldsF _ (.slice ya (st.drop d).length yc) (st.drop d)
              rw [hnd]
              exact unhide HYF _ (own_set5 kR (by decide) _ _ _ _ _ os)
            · show (st.drop d).length ≤ yc ∧ RoomF _ (.slice ya (st.drop d).length yc)
              rw [hnd]
              exact ⟨hyc, unhide HYR _ (own_set5 kR (by decide) _ _ _ _ _ os)⟩
            · show HoldsT _ (.slice ga G.length gc) G
              have h := own_set5 kR (by decide) (.slice (some ⟨lg, 0, none⟩) L.length lc) (.slice ya nd yc) (.slice ga ng gc) (.int .i64 (c8 : Nat)) (.int .i64 0) og
              rw [hgl8]
              exact HoldsT.own h
          · have g40 : ¬ ((40 : Int) < (st.length : Int)) := by omega
            obtain ⟨d, hd⟩ : ∃ d, d = 0 := ⟨_, rfl⟩
            have hnd : (st.drop d).length = st.length := by rw [hd, List.drop_zero]
            have hs40 : st.length - 40 = 0 := by omega
            have EO2 : Hid (o = ⟨L1, st.drop d, G, c, 0⟩) := hide (by rw [unhide EO1, hs40, hd, Nat.add_zero])
            have HYF : Hid (∀ z : World, z.ownsRow b1 33 4 (.slice xa st.length xc) st.length (fgcells st) → HoldsF z (.slice xa st.length xc) (st.drop d)) := hide fun z hz => by
              rw [hd, List.drop_zero]
              exact (HoldsG.own hz).f
            have HYR : Hid (∀ z : World, z.ownsRow b1 33 4 (.slice xa st.length xc) st.length (fgcells st) → RoomF z (.slice xa st.length xc)) := hide fun z hz => RoomF.own hz
            have HYO : Hid (∀ g, (Value.slice xa (st.drop d).length xc).ownBlock = some g → b1 ≤ g) := hide fun g hg => ((unhide HMX).s.lt g (by rw [hnd] at hg; exact hg)).1
            have hyc : st.length ≤ xc := hxc
            have HM8 := HMX
            have HDD := hide hd
            have HND := hide hnd
            clear hd EO1 HMX hs40 hnd
            go_upto_region 33 with fail
            obtain ⟨x0, x1, x2, x3, x4⟩ := row5b (unhide HM8).x
            obtain ⟨r0, r1, r2, r3, r4⟩ := row5b (unhide HM8).r
            have g0 := frz (unhide HM8).x 0
            have g1 := frz (unhide HM8).x 1
            have f0 := frz (unhide HM8).r 0
            have f1 := frz (unhide HM8).r 1
            have f2 := frz (unhide HM8).r 2
            have f3 := frz (unhide HM8).r 3
            have f4 := frz (unhide HM8).r 4
            have nX : ¬ (b0 = w.heap.size + 1 + 1) := (unhide HM8).n
            have nX2 : ¬ (w.heap.size + 1 + 1 = b0) := fun e => nX e.symm
            generalize hgl8 : G.length = ng at *
            clear hPo HP HSL
            go_wp2
            have hm := unhide HM8
            have hnd := unhide HND
            have kX : ((wr.setCell ⟨b0, 0, none⟩ (.slice (some ⟨lg, 0, none⟩) L.length lc)).setCell ⟨b0, 1, none⟩ (.slice xa st.length xc)).heap[b0]? = some (.cells #[.slice (some ⟨lg, 0, none⟩) L.length lc, .slice xa st.length xc, .slice ga ng gc, .int .i64 (c : Nat), .int .i64 0] 37) := heap_setCell_same _ _ 1 _ _ _ (heap_setCell_same _ _ 0 _ _ _ hm.x)
            have kR : ((wr.setCell ⟨b0, 0, none⟩ (.slice (some ⟨lg, 0, none⟩) L.length lc)).setCell ⟨b0, 1, none⟩ (.slice xa st.length xc)).heap[w.heap.size + 1 + 1]? = some (.cells #[.slice none 0 0, .slice none 0 0, .slice none 0 0, .int .i64 0, .int .i64 0] 37) := (heap_setCell_other _ _ _ _ nX2).trans ((heap_setCell_other _ _ _ _ nX2).trans hm.r)
            have ol := own_setc (own_setc hm.l hm.x (by decide) (i := 0) (.slice (some ⟨lg, 0, none⟩) L.length lc)) (heap_setCell_same _ _ 0 _ _ _ hm.x) (by decide) (i := 1) (.slice xa st.length xc)
            have os := own_setc (own_setc hm.s hm.x (by decide) (i := 0) (.slice (some ⟨lg, 0, none⟩) L.length lc)) (heap_setCell_same _ _ 0 _ _ _ hm.x) (by decide) (i := 1) (.slice xa st.length xc)
            have og := own_setc (own_setc hm.g hm.x (by decide) (i := 0) (.slice (some ⟨lg, 0, none⟩) L.length lc)) (heap_setCell_same _ _ 0 _ _ _ hm.x) (by decide) (i := 1) (.slice xa st.length xc)
            have hb8 : Below w.heap.size w ((wr.setCell ⟨b0, 0, none⟩ (.slice (some ⟨lg, 0, none⟩) L.length lc)).setCell ⟨b0, 1, none⟩ (.slice xa st.length xc)) := (hm.b.setCell (p := ⟨b0, 0, none⟩) hm.q0 _).setCell (p := ⟨b0, 1, none⟩) hm.q0 _
            refine bodyPost_ret (v := .agg #[.slice (some ⟨lg, 0, none⟩) L.length lc, .slice xa st.length xc, .slice ga ng gc, .int .i64 (c : Nat), .int .i64 0]) (by simp [results, Try.results21, asAddr, loadBo (set5_bo kR _ _ _ _ _)]) rfl ?_
            rw [unhide EO2]
            subst hlvv
            refine ⟨some ⟨lg, 0, none⟩, lc, xa, xc, ga, gc, ?_, HoldsI.own (own_set5 kR (by decide) _ _ _ _ _ ol), ?_, ?_, ?_, fun g hg => Nat.le_trans hm.q0 (ol.lt g hg).1, fun g hg => Nat.le_trans hm.q0 (Nat.le_trans hm.q1 (unhide HYO g hg)), fun g hg => Nat.le_trans hm.q0 (og.lt g (by rw [← hgl8]; exact hg)).1, set5_bl hb8 (by omega) _ _ _ _ _⟩
            · show _ = Ending.returned (.agg #[.slice _ L1.length _, .slice _ (st.drop d).length _, .slice _ G.length _, _, _])
              rw [hL1, hnd, hgl8]
            · show HoldsF _ (.slice xa (st.drop d).length xc) (st.drop d)
              rw [hnd]
              exact unhide HYF _ (own_set5 kR (by decide) _ _ _ _ _ os)
            · show (st.drop d).length ≤ xc ∧ RoomF _ (.slice xa (st.drop d).length xc)
              rw [hnd]
              exact ⟨hyc, unhide HYR _ (own_set5 kR (by decide) _ _ _ _ _ os)⟩
            · show HoldsT _ (.slice ga G.length gc) G
              have h := own_set5 kR (by decide) (.slice (some ⟨lg, 0, none⟩) L.length lc) (.slice xa st.length xc) (.slice ga ng gc) (.int .i64 (c : Nat)) (.int .i64 0) og
              rw [hgl8]
              exact HoldsT.own h
        | cons a l1 =>
          obtain ⟨hiP, hgi0, hdi, hkP, hgk0, hdk, hpre, hcut, hPd2⟩ := run_at hPd
          have hrn := runP_len a l1
          have hgi : P[dn.length] = a := Option.some.inj ((List.getElem?_eq_getElem hiP).symm.trans hgi0)
          have hgk : P[dn.length + (runP a l1).1.length] = lastP a (runP a l1).1 := Option.some.inj ((List.getElem?_eq_getElem hkP).symm.trans hgk0)
          have CR := sRunB wr P pa pc dn.length (HoldsG.own (unhide HMX).p) hiP hPl hPo
          rw [hgi, hdi] at CR
          have CD := hide fun (z : World) (h : HoldsG z (.slice pa P.length pc) P) => sDeadB z P pa pc dn.length (dn.length + (runP a l1).1.length) m h hiP hkP hPl hPo hmge
          rw [hgi, hgk, hdk] at CD
          have hT := hide fun h1 => hsm.take h1
          have hLo := hide fun h1 h2 => hsm.lose h1 h2
          have hKe := hide fun h1 h2 => hsm.keep h1 h2
          have hg1 := hsm.n1
          have hc1 := hsm.n2
          have hok1 := hsm.ok'
          clear hsm hgi hgk hdi hdk hPd
          generalize (runP a l1).1 = r at *
          generalize (runP a l1).2 = rest at *
          have ekk : dn.length + 1 + r.length = dn.length + r.length + 1 := by omega
          rw [ekk] at CR
          have hdl : (dn ++ a :: r).length = dn.length + r.length + 1 := by rw [List.length_append, List.length_cons]; omega
          obtain ⟨i, hii⟩ : ∃ i, dn.length = i := ⟨_, rfl⟩
          obtain ⟨kk, hkk⟩ : ∃ kk, i + r.length = kk := ⟨_, rfl⟩
          simp only [hii] at hiP hkP hgi0 hgk0 hpre hcut CR CD hdl hLo hKe ⊢
          simp only [hkk] at hkP hgk0 hpre CR CD hdl
          have HE := hide (And.intro hPd2 (And.intro hpre (And.intro hcut (And.intro hdl hkk))))
          clear hPd2 hpre hcut hdl ekk hii
          have hcell : Hid (∀ z : World, z.ownsRow b0 33 4 (.slice pa P.length pc) P.length (fgcells P) → ∀ (jj : Nat) (y : Fg), P[jj]? = some y → ∃ g, pa = some ⟨g, 0, none⟩ ∧ z.cell? ⟨g, jj * 4 + 1, none⟩ = some (.bool y.beg) ∧ z.cell? ⟨g, jj * 4 + 2, none⟩ = some (.bool y.fin) ∧ z.cell? ⟨g, jj * 4 + 3, none⟩ = some (.string y.text)) := hide fun z hz jj y hy => by
            obtain ⟨hjj, ey⟩ := List.getElem?_eq_some_iff.1 hy
            obtain ⟨g, cp', ev, _, c1, c2, c3⟩ := getG (HoldsG.own hz) jj hjj
            injection ev with ev _ _
            rw [ey] at c1 c2 c3
            exact ⟨g, ev, c1, c2, c3⟩
          have e1 : (i : Int) < (P.length : Int) := by omega
          go_wp2_with fail
          refine CR.mono ?_
          rintro e w5 ⟨rfl, hb5⟩
          have H5 := hide ((unhide HMX).step hb5)
          obtain ⟨pg, epa, ca, _, _⟩ := unhide hcell _ (unhide H5).p i a hgi0
          subst epa
          obtain ⟨pg', epa, _, cz, _⟩ := unhide hcell _ (unhide H5).p kk (lastP a r) hgk0
          cases epa
          have hix1 : ((kk + 1 : Nat) : Int) - 1 = (kk : Int) := by omega
          have hix2 : (kk : Int) < (P.length : Int) := by omega
          have hix3 : (kk : Int) + 1 - 1 = (kk : Int) := by omega
          have hstl : st.length ≤ 1000 := by have := (unhide HSL).1; omega
          have hst2 : st.length + (l1.length + 1) ≤ P.length := (unhide HSL).1
          have hme : rest.length < gk := by rw [List.length_cons] at hgl; omega
          clear hb5 CR HMX hgl
          obtain ⟨a1, a2, a3, a4⟩ := a
          have hst0 : Hid (st.length ≤ 1000) := hide hstl
          generalize hzz : lastP ⟨a1, a2, a3, a4⟩ r = zz at *
          obtain ⟨z1, z2, z3, z4⟩ := zz
          dsimp only at ca cz
          obtain ⟨dd, hdd⟩ : ∃ dd : Bool, dd = (aheadD m P i ⟨a1, a2, a3, a4⟩ || behindD m ⟨z1, z2, z3, z4⟩ rest) := ⟨_, rfl⟩
          rw [← hdd] at CD
          have HDD : Hid (deadP m (preP P i) ⟨a1, a2, a3, a4⟩ ⟨z1, z2, z3, z4⟩ rest = dd) := hide (by rw [dead_eq, hdd])
          have hikk : i + r.length = kk := (unhide HE).2.2.2.2
          have HOK : Hid (∀ f ∈ (⟨a1, a2, a3, a4⟩ : Fg) :: r, fgOk f = true) := hide fun f hf => hok1 f (Or.inr (Or.inl hf))
          clear hdd hzz hok1
          cases a2
          · go_wp2_with fail
            refine (unhide CD _ (HoldsG.own (unhide H5).p)).mono ?_
            rintro e w5' ⟨rfl, hw⟩
            replace hw := hw.symm
            subst hw
            cases dd
            · clear hT hLo CD ca cz
              obtain ⟨ys, hys1⟩ : ∃ ys : Value, ys = .slice (if pc = i then some ⟨pg, 0, none⟩ else (some (⟨pg, 0, none⟩ : Addr)).map (·.add (i * 4))) (kk + 1 - i) (pc - i) := ⟨_, rfl⟩
              have hs1 : ∀ z : World, (Instr.slice 25 (.slice (some ⟨pg, 0, none⟩) P.length pc) (some (.int .i64 (i : Nat))) (some (.int .i64 ((kk : Int) + 1))) none).run Try.prog z = .ok ys z := fun z => by
                rw [hys1]
                have h := slice_glh z (some ⟨pg, 0, none⟩) P.length pc i (kk + 1) (by omega) (by omega)
                rw [show ((kk + 1 : Nat) : Int) = (kk : Int) + 1 by omega] at h
                exact h
              have HYS : Hid (∀ z, HoldsG z (.slice (some ⟨pg, 0, none⟩) P.length pc) P → HoldsF z ys (⟨a1, false, a3, a4⟩ :: r)) := hide fun z hz => by
                have h := (hz.f).cut (lo := i) (hi := kk + 1) (by omega) (by omega) hpc
                rw [show kk + 1 - i = r.length + 1 by omega, (unhide HE).2.2.1] at h
                rw [hys1, show kk + 1 - i = r.length + 1 by omega]
                exact h
              have hst1 : st.length ≤ 1048576 := by have := (unhide hst0); omega
              clear hys1
              go_wp2_with (first
                | (at_builtin; refine append_gs rfl _ _ rfl b1 _ ys st (⟨a1, false, a3, a4⟩ :: r) rfl rfl (unhide H5).s (unhide HYS _ (HoldsG.own (unhide H5).p)) hst1 (by rw [List.length_cons]; omega) (unhide H5).bz ?_))
              rintro v6 w6 ho6 hg6
              have ho6' : w6.ownsRow b1 33 4 v6 (st ++ ⟨a1, false, a3, a4⟩ :: r).length (fgcells (st ++ ⟨a1, false, a3, a4⟩ :: r)) := by
                first
                  | exact ho6
                  | (have e : (st ++ ⟨a1, false, a3, a4⟩ :: r).length = st.length + (r.length + 1) := by rw [List.length_append, List.length_cons]
                     rw [e]; exact ho6)
              have H6 := hide ((unhide H5).stay hg6 ho6')
              obtain ⟨xa6, xc6, ev⟩ := own_form ho6
              subst ev
              clear ho6 ho6' hg6 hs1 HYS
              go_wp2_with fail
              go_roundg rest.length
              case measure => exact hme
              case rel => exact ⟨dn ++ ⟨a1, false, a3, a4⟩ :: r, rest, _, G, c, _, by rw [List.length_append, List.length_cons]; omega, (unhide HE).1, rfl, by rw [(unhide HE).2.2.2.1]; push_cast; rfl, by rw [(unhide HE).2.2.2.1, (unhide HE).2.1]; exact unhide hKe rfl (unhide HDD), unhide H6⟩
            · have cx3 := (row5b (unhide H5).x).2.2.2.1
              have fx3 := frz (unhide H5).x 3
              have ecast : (c : Int) + ((kk : Int) + 1 - (i : Int)) = ((c + (r.length + 1) : Nat) : Int) := by omega
              have HLL := hide (unhide hLo rfl (unhide HDD))
              have HMM : Hid (Mx w b0 b1 b0 lv (.slice (some ⟨pg, 0, none⟩) P.length pc) L1 P (.slice xa st.length xc) st gv G ((c + (r.length + 1) : Nat) : Int) (w5.setCell ⟨b0, 3, none⟩ (.int .i64 ((c : Int) + ((kk : Int) + 1 - (i : Int)))))) := hide (by rw [← ecast]; exact (unhide H5).lost _)
              clear hT hKe CD ca cz hLo ecast
              go_wp2_with fail
              go_roundg rest.length
              case measure => exact hme
              case rel => exact ⟨dn ++ ⟨a1, false, a3, a4⟩ :: r, rest, st, G, _, _, by omega, (unhide HE).1, rfl, by rw [(unhide HE).2.2.2.1]; push_cast; rfl, by rw [(unhide HE).2.2.2.1, (unhide HE).2.1]; exact unhide HLL, unhide HMM⟩
          · cases z3
            · go_wp2_with fail
              refine (unhide CD _ (HoldsG.own (unhide H5).p)).mono ?_
              rintro e w5' ⟨rfl, hw⟩
              replace hw := hw.symm
              subst hw
              cases dd
              · clear hT hLo CD ca cz
                obtain ⟨ys, hys1⟩ : ∃ ys : Value, ys = .slice (if pc = i then some ⟨pg, 0, none⟩ else (some (⟨pg, 0, none⟩ : Addr)).map (·.add (i * 4))) (kk + 1 - i) (pc - i) := ⟨_, rfl⟩
                have hs1 : ∀ z : World, (Instr.slice 25 (.slice (some ⟨pg, 0, none⟩) P.length pc) (some (.int .i64 (i : Nat))) (some (.int .i64 ((kk : Int) + 1))) none).run Try.prog z = .ok ys z := fun z => by
                  rw [hys1]
                  have h := slice_glh z (some ⟨pg, 0, none⟩) P.length pc i (kk + 1) (by omega) (by omega)
                  rw [show ((kk + 1 : Nat) : Int) = (kk : Int) + 1 by omega] at h
                  exact h
                have HYS : Hid (∀ z, HoldsG z (.slice (some ⟨pg, 0, none⟩) P.length pc) P → HoldsF z ys (⟨a1, true, a3, a4⟩ :: r)) := hide fun z hz => by
                  have h := (hz.f).cut (lo := i) (hi := kk + 1) (by omega) (by omega) hpc
                  rw [show kk + 1 - i = r.length + 1 by omega, (unhide HE).2.2.1] at h
                  rw [hys1, show kk + 1 - i = r.length + 1 by omega]
                  exact h
                have hst1 : st.length ≤ 1048576 := by have := (unhide hst0); omega
                clear hys1
                go_wp2_with (first
                  | (at_builtin; refine append_gs rfl _ _ rfl b1 _ ys st (⟨a1, true, a3, a4⟩ :: r) rfl rfl (unhide H5).s (unhide HYS _ (HoldsG.own (unhide H5).p)) hst1 (by rw [List.length_cons]; omega) (unhide H5).bz ?_))
                rintro v6 w6 ho6 hg6
                have ho6' : w6.ownsRow b1 33 4 v6 (st ++ ⟨a1, true, a3, a4⟩ :: r).length (fgcells (st ++ ⟨a1, true, a3, a4⟩ :: r)) := by
                  first
                    | exact ho6
                    | (have e : (st ++ ⟨a1, true, a3, a4⟩ :: r).length = st.length + (r.length + 1) := by rw [List.length_append, List.length_cons]
                       rw [e]; exact ho6)
                have H6 := hide ((unhide H5).stay hg6 ho6')
                obtain ⟨xa6, xc6, ev⟩ := own_form ho6
                subst ev
                clear ho6 ho6' hg6 hs1 HYS
                go_wp2_with fail
                go_roundg rest.length
                case measure => exact hme
                case rel => exact ⟨dn ++ ⟨a1, true, a3, a4⟩ :: r, rest, _, G, c, _, by rw [List.length_append, List.length_cons]; omega, (unhide HE).1, rfl, by rw [(unhide HE).2.2.2.1]; push_cast; rfl, by rw [(unhide HE).2.2.2.1, (unhide HE).2.1]; exact unhide hKe rfl (unhide HDD), unhide H6⟩
              · have cx3 := (row5b (unhide H5).x).2.2.2.1
                have fx3 := frz (unhide H5).x 3
                have ecast : (c : Int) + ((kk : Int) + 1 - (i : Int)) = ((c + (r.length + 1) : Nat) : Int) := by omega
                have HLL := hide (unhide hLo rfl (unhide HDD))
                have HMM : Hid (Mx w b0 b1 b0 lv (.slice (some ⟨pg, 0, none⟩) P.length pc) L1 P (.slice xa st.length xc) st gv G ((c + (r.length + 1) : Nat) : Int) (w5.setCell ⟨b0, 3, none⟩ (.int .i64 ((c : Int) + ((kk : Int) + 1 - (i : Int)))))) := hide (by rw [← ecast]; exact (unhide H5).lost _)
                clear hT hKe CD ca cz hLo ecast
                go_wp2_with fail
                go_roundg rest.length
                case measure => exact hme
                case rel => exact ⟨dn ++ ⟨a1, true, a3, a4⟩ :: r, rest, st, G, _, _, by omega, (unhide HE).1, rfl, by rw [(unhide HE).2.2.2.1]; push_cast; rfl, by rw [(unhide HE).2.2.2.1, (unhide HE).2.1]; exact unhide HLL, unhide HMM⟩
            · have hstr : ∀ z : World, z = z := fun z => rfl
              clear hstr
              obtain ⟨ga, gc, ev⟩ := own_form (unhide H5).g
              subst ev
              go_upto_region 22 with fail
              go_loopg [15, 16] (r.length + 1) (fun g2 x y wr2 => ∃ (j jj : Nat), i + jj = j ∧ y = .int .i64 (j : Nat) ∧ jj + g2 = r.length + 1 ∧ x = .string (catP (((⟨a1, true, a3, a4⟩ : Fg) :: r).take jj)) ∧ wr2 = w5)
              case atStart => exact ⟨i, 0, Nat.add_zero _, rfl, Nat.zero_add _, rfl, rfl⟩
              case round =>
                obtain ⟨j, jj, hjj, rfl, hjg, rfl, hw⟩ := hrel
                replace hw := hw.symm
                subst hw
                by_cases hlt : jj < r.length + 1
                · have hje : (j : Int) < (kk : Int) + 1 := by omega
                  have hje2 : (j : Int) < ((kk + 1 : Nat) : Int) := by omega
                  have hjP : (j : Int) < (P.length : Int) := by omega
                  have hlt2 : jj < ((⟨a1, true, a3, a4⟩ : Fg) :: r).length := by rw [List.length_cons]; exact hlt
                  have hPj : P[j]? = some (((⟨a1, true, a3, a4⟩ : Fg) :: r)[jj]) := by
                    have h := (unhide HE).2.2.1
                    have e : ((P.drop i).take (r.length + 1))[jj]? = P[j]? := by rw [List.getElem?_take, if_pos hlt, List.getElem?_drop, hjj]
                    rw [← e, h]
                    exact List.getElem?_eq_getElem hlt2
                  have htk : ((⟨a1, true, a3, a4⟩ : Fg) :: r).take (jj + 1) = ((⟨a1, true, a3, a4⟩ : Fg) :: r).take jj ++ [((⟨a1, true, a3, a4⟩ : Fg) :: r)[jj]] := List.take_succ_eq_append_getElem hlt2
                  have hfs := (of_decide_eq_true (unhide HOK _ (List.getElem_mem hlt2))).2
                  have hcs : (catP (((⟨a1, true, a3, a4⟩ : Fg) :: r).take jj)).size ≤ 200 * 1001 := by
                    have h1 := catP_size (((⟨a1, true, a3, a4⟩ : Fg) :: r).take jj) (fun x hx => (of_decide_eq_true (unhide HOK x (List.mem_of_mem_take hx))).2)
                    have h2 : (((⟨a1, true, a3, a4⟩ : Fg) :: r).take jj).length ≤ 1001 := by rw [List.length_take, List.length_cons]; omega
                    exact Nat.le_trans h1 (Nat.mul_le_mul_left _ h2)
                  generalize ((⟨a1, true, a3, a4⟩ : Fg) :: r)[jj] = fr at hPj htk hfs
                  obtain ⟨pg2, epa, _, _, ct⟩ := unhide hcell _ (unhide H5).p j fr hPj
                  cases epa
                  have hcat := catP_snoc (((⟨a1, true, a3, a4⟩ : Fg) :: r).take jj) fr
                  rw [← htk] at hcat
                  generalize catP (((⟨a1, true, a3, a4⟩ : Fg) :: r).take jj) = tx at hcat hcs ⊢
                  obtain ⟨f1, f2, f3, f4⟩ := fr
                  dsimp only at ct hcat hfs
                  have hcl : ¬ (tx.size + f4.size > 9223372036854775807) := by omega
                  have HCT := hide hcat
                  clear hcat htk hPj
                  go_wp2_with fail
                  go_roundg (gk - 1)
                  case measure => omega
                  case rel => exact ⟨j + 1, jj + 1, by omega, by push_cast; rfl, by omega, by rw [unhide HCT], rfl⟩
                · have ej : jj = r.length + 1 := by omega
                  have hje : ¬ ((j : Int) < (kk : Int) + 1) := by omega
                  have hje2 : ¬ ((j : Int) < ((kk + 1 : Nat) : Int)) := by omega
                  have hall : ((⟨a1, true, a3, a4⟩ : Fg) :: r).take jj = (⟨a1, true, a3, a4⟩ : Fg) :: r := List.take_of_length_le (by rw [List.length_cons]; omega)
                  rw [hall]
                  have HTT := hide (unhide hT rfl)
                  generalize catP ((⟨a1, true, a3, a4⟩ : Fg) :: r) = tx at HTT ⊢
                  have hbA := (Below.refl w5.heap.size w5).alloc (Nat.le_refl _) (.cells #[.string tx] 9)
                  have c2x := (row5b (unhide H5).x).2.2.1
                  have hb05 : b0 ≤ w5.heap.size := Nat.le_trans (unhide H5).q1 (unhide H5).bz
                  have H5A := hide ((unhide H5).step hbA)
                  have HG5 := hide (unhide H5).g
                  clear hbA hall ej hlt hjj hje hjg hLo hKe hT CD
                  go_wp2_with (first
                    | (at_builtin; refine append_txt rfl _ _ rfl b0 _ G G.length rfl rfl (unhide HG5) tx rfl (by omega) hb05 ?_))
                  rintro v6 w6 ho6 hg6
                  have ho6' : w6.ownsRow b0 9 1 v6 (G ++ [tx]).length (scells (G ++ [tx])) := by rw [List.length_append]; exact ho6
                  obtain ⟨hx6, hm6⟩ := (unhide H5A).got hg6 ho6'
                  obtain ⟨ga6, gc6, ev⟩ := own_form ho6
                  subst ev
                  have d2x := (row5b hx6).2.2.1
                  have fx := frz hx6 2
                  have H6 := hide hm6
                  clear hm6 hx6 ho6 ho6' hg6 H5A HG5 c2x
                  go_wp2_with fail
                  go_roundg rest.length
                  case measure => exact hme
                  case rel => exact ⟨dn ++ ⟨a1, true, a3, a4⟩ :: r, rest, st, G ++ [tx], c, _, by omega, (unhide HE).1, rfl, by rw [(unhide HE).2.2.2.1]; push_cast; rfl, by rw [(unhide HE).2.2.2.1, (unhide HE).2.1]; exact unhide HTT, unhide H6⟩
end Go.Proofs.Ytfkeokfmancgiaa
