/- The law FnExactEndRight walked: it returns true, and what lay in memory stands. -/
import Derived.Test.YtakbldleomhggaaEndEq
import Derived.Test.YtakbldleomhggaaEndRi
import Derived.Test.YtakbldleomhggaaEndTo
import Derived.Test.YtakbldleomhggaaEndSz
import Derived.Great.Walk
import Derived.Deep.MidRow
namespace Go.Proofs.Ytakbldleomhggaa
open Go.RowKit
theorem implEndRight (e : En) (x1 x2 : Option Addr) (y1 y2 : Nat) (F1 F2 : List Op.Opt) (w : World) (l1 : F1.length ≤ maxLen) (l2 : F2.length ≤ maxLen) (h1 : HoldsO w (.slice x1 F1.length y1) F1) (h2 : HoldsO w (.slice x2 F2.length y2) F2) :
    Calls Try.prog 32 #[.agg (enC e (.slice x1 F1.length y1) (.slice x2 F2.length y2))] w fun r w' => r = .returned (.bool (enOk e F1 F2)) ∧ Below w.heap.size w w' :=
  implEndRight_of e x1 x2 y1 y2 F1 F2 w l1 l2 h1 h2 eqL
theorem rangeRow {W : World} {E : Nat} {cl : List Value} {T : TypeId} (h : W.heap[E]? = some (.cells cl.toArray T)) : W.rangeAt E 0 cl := by
  intro j u hu
  rw [cell_of_row _ _ _ _ _ _ h, Nat.zero_add, List.getElem?_toArray]
  exact hu
/-- The zero End's cells. -/
abbrev enZ : Array Value := #[.int .i64 0, .int .i64 0, .int .i64 0, .bool false, .bool false, .bool false, .int .i64 0, .int .i64 0, .int .i64 0, .bool false, .bool false, .bool false, .int .i64 0, .int .i64 0, .int .i64 0, .int .i64 0, .int .i64 0, .slice none 0 0, .slice none 0 0, .bool false, .int .i64 0, .int .i64 0, .bool false, .bool false, .bool false, .int .i64 0, .int .i64 0, .bool false, .bool false, .bool false]
theorem infoLE : (Try.prog.info? 57).map (·.size) = some 30 := by kernel_rfl
/-- An End that the law made: its cells, and its rows. -/
structure ToD (e : En) (F1 F2 : List Op.Opt) (cl : List Value) (q : World) : Prop where
  is : ∃ u1 z1 u2 z2, cl = (enC e (.slice u1 F1.length z1) (.slice u2 F2.length z2)).toList ∧ HoldsO q (.slice u1 F1.length z1) F1 ∧ HoldsO q (.slice u2 F2.length z2) F2
theorem ToD.step {e : En} {F1 F2 : List Op.Opt} {cl : List Value} {q q' : World} (h : ToD e F1 F2 cl q) (hb : Below q.heap.size q q') : ToD e F1 F2 cl q' := by
  obtain ⟨u1, z1, u2, z2, h1, h2, h3⟩ := h.is
  exact ⟨u1, z1, u2, z2, h1, h2.below hb rfl, h3.below hb rfl⟩
theorem ToD.len {e : En} {F1 F2 : List Op.Opt} {cl : List Value} {q : World} (h : ToD e F1 F2 cl q) : cl.length = 30 := by
  obtain ⟨u1, z1, u2, z2, h1, h2, h3⟩ := h.is
  rw [h1]
  rfl
theorem ToD.one {e : En} {F1 F2 : List Op.Opt} {cl : List Value} {q : World} (h : ToD e F1 F2 cl q) : cl.toArray.all (·.oneCell') = true := by
  obtain ⟨u1, z1, u2, z2, h1, h2, h3⟩ := h.is
  rw [h1]
  kernel_rfl
set_option maxHeartbeats 4000000 in
set_option maxRecDepth 100000 in
theorem lawEr (e : En) (x1 x2 : Option Addr) (y1 y2 : Nat) (F1 F2 : List Op.Opt) (w : World) (l1 : F1.length ≤ maxLen) (l2 : F2.length ≤ maxLen)
    (h1 : ArgO w (.slice x1 F1.length y1) F1) (h2 : ArgO w (.slice x2 F2.length y2) F2) :
    Calls Try.prog 7 #[.agg (enC e (.slice x1 F1.length y1) (.slice x2 F2.length y2))] w fun r w' => r = .returned (.bool true) ∧ Below w.heap.size w w' := by
  obtain ⟨ca, hca⟩ : ∃ ca : List Value, enC e (.slice x1 F1.length y1) (.slice x2 F2.length y2) = ca.toArray := ⟨_, rfl⟩
  have la : ca.length = 30 := by rw [← List.size_toArray, ← hca]; rfl
  have C0 : Hid (∀ W, Below w.heap.size w W → Calls Try.prog 29 #[.agg ca.toArray, .int .i64 1048576] W fun r w' => ∃ z : Int, r = .returned (.int .i64 z) ∧ (z = -1 ∨ (F1.length ≤ 1048576 ∧ F2.length ≤ 1048576 ∧ ∃ m : Nat, z = (m : Int) ∧ m ≤ 1048576)) ∧ Below W.heap.size W w') :=
    hide fun W hb => by rw [← hca]; exact szEndE e x1 x2 y1 y2 F1 F2 W l1 l2 (h1.below hb) (h2.below hb)
  have CT : Hid (F1.length ≤ 1048576 → F2.length ≤ 1048576 → ∀ W, Below w.heap.size w W → Calls Try.prog 31 #[.agg ca.toArray] W fun r w' => ∃ cl : List Value, r = .returned (.agg cl.toArray) ∧ ToD e F1 F2 cl w' ∧ Below W.heap.size W w') :=
    hide fun k1 k2 W hb => by
      rw [← hca]
      refine (toEnd e x1 x2 y1 y2 F1 F2 W k1 k2 (h1.below hb) (h2.below hb)).mono ?_
      rintro r w' ⟨u1, z1, u2, z2, hr, hh1, hh2, _, _, hbw⟩
      exact ⟨_, hr, ⟨u1, z1, u2, z2, rfl, hh1, hh2⟩, hbw⟩
  have CS : Hid (∀ cl W, ToD e F1 F2 cl W → Calls Try.prog 30 #[.agg cl.toArray] W fun r w' => r = .returned (.bool (enOk e F1 F2)) ∧ Below W.heap.size W w') :=
    hide fun cl W h => by obtain ⟨u1, z1, u2, z2, e1, k1, k2⟩ := h.is; rw [e1]; exact specEndRight e u1 u2 z1 z2 F1 F2 W l1 l2 k1 k2
  have CI : Hid (∀ cl W, ToD e F1 F2 cl W → Calls Try.prog 32 #[.agg cl.toArray] W fun r w' => r = .returned (.bool (enOk e F1 F2)) ∧ Below W.heap.size W w') :=
    hide fun cl W h => by obtain ⟨u1, z1, u2, z2, e1, k1, k2⟩ := h.is; rw [e1]; exact implEndRight e u1 u2 z1 z2 F1 F2 W l1 l2 k1 k2
  have CE : Hid (F1.length ≤ 1048576 → F2.length ≤ 1048576 → ∀ cl cm W, ToD e F1 F2 cl W → ToD e F1 F2 cm W → Calls Try.prog 26 #[.agg cl.toArray, .agg cm.toArray] W fun r w' => r = .returned (.bool true) ∧ Below W.heap.size W w') :=
    hide fun k1 k2 cl cm W h h' => by
      obtain ⟨u1, z1, u2, z2, e1, p1, p2⟩ := h.is
      obtain ⟨v1, r1, v2, r2, e2, q1, q2⟩ := h'.is
      rw [e1, e2]
      exact eqEndE e u1 u2 v1 v2 z1 z2 r1 r2 F1 F2 W (by omega) (by omega) p1 p2 q1 q2
  rw [hca]
  have hA := heap_alloc_new w (.cells ca.toArray 57)
  have hbA : Below w.heap.size w (w.alloc (.cells ca.toArray 57)) := (Below.refl _ _).alloc (Nat.le_refl _) _
  have H0 := hide (And.intro hA hbA)
  clear h1 h2 l1 l2 hA hbA hca
  generalize enOk e F1 F2 = RT at *
  have hsz : ca.toArray.size = 30 := by rw [List.size_toArray]; exact la
  go_enter Try.func7, Try.ntmps7
  go_upto_region 2 with fail
  apply wp_region_lit
  refine wpList_load_row rfl 57 (.tmp 1) rfl w.heap.size rfl 57 ca.toArray (0, 0) _ (unhide H0).1 Try.underlying57 rfl (by rw [hsz]; exact infoLE) ?_
  simp only [Act.put, List.setIfInBounds_toArray, List.set_cons_zero, List.set_cons_succ]
  go_wp2_with fail
  refine (unhide C0 _ (unhide H0).2).mono ?_
  rintro r w1 ⟨z, rfl, hz, hb1⟩
  have hr1 := (hb1.block w.heap.size (Array.getElem?_eq_some_iff.1 (unhide H0).1).1).trans (unhide H0).1
  have hB1 := (unhide H0).2.trans (hb1.mono (unhide H0).2.size)
  have H1 := hide (And.intro hr1 hB1)
  clear hr1 hB1 hb1 H0
  by_cases hz0 : z < 0
  · go_wp2
    go_ret
    exact ⟨rfl, (unhide H1).2⟩
  obtain ⟨k1, k2, _⟩ := hz.resolve_left (by omega)
  replace CT := hide (unhide CT k1 k2)
  replace CE := hide (unhide CE k1 k2)
  clear C0 hz k1 k2
  go_upto_region 5 with fail
  apply wp_region_lit
  refine wpList_load_row rfl 57 (.tmp 1) rfl w.heap.size rfl 57 ca.toArray (0, 0) _ (unhide H1).1 Try.underlying57 rfl (by rw [hsz]; exact infoLE) ?_
  simp only [Act.put, List.setIfInBounds_toArray, List.set_cons_zero, List.set_cons_succ]
  go_wp2_with fail
  refine (unhide CT _ (unhide H1).2).mono ?_
  rintro r w2 ⟨cl0, rfl, hD2, hb2⟩
  have hr2 := (hb2.block w.heap.size (Array.getElem?_eq_some_iff.1 (unhide H1).1).1).trans (unhide H1).1
  have hB2 := (unhide H1).2.trans (hb2.mono (unhide H1).2.size)
  have H2 := hide (And.intro hr2 hB2)
  clear hr2 hB2 hb2 H1
  go_wp2_with fail
  refine (unhide CS _ _ hD2).mono ?_
  rintro r w3 ⟨rfl, hb3⟩
  have hr3 := (hb3.block w.heap.size (Array.getElem?_eq_some_iff.1 (unhide H2).1).1).trans (unhide H2).1
  have hB3 := (unhide H2).2.trans (hb3.mono (unhide H2).2.size)
  have H3 := hide (And.intro hr3 hB3)
  clear hr3 hB3 hb3 H2 hD2 CS
  go_upto_region 6 with fail
  apply wp_region_lit
  refine wpList_load_row rfl 57 (.tmp 1) rfl w.heap.size rfl 57 ca.toArray (0, 0) _ (unhide H3).1 Try.underlying57 rfl (by rw [hsz]; exact infoLE) ?_
  simp only [Act.put, List.setIfInBounds_toArray, List.set_cons_zero, List.set_cons_succ]
  go_wp2_with fail
  refine (unhide CT _ (unhide H3).2).mono ?_
  rintro r w4 ⟨cl, rfl, hD4, hb4⟩
  have hr4 := (hb4.block w.heap.size (Array.getElem?_eq_some_iff.1 (unhide H3).1).1).trans (unhide H3).1
  have hB4 := (unhide H3).2.trans (hb4.mono (unhide H3).2.size)
  have lc := hD4.len
  have hcz : cl.toArray.size = 30 := by rw [List.size_toArray]; exact lc
  have h1c := hD4.one
  have hnE := setRow_heap (w4.alloc (.cells enZ 50)) w4.heap.size enZ cl.toArray 50 (0, 0) (heap_alloc_new w4 _)
  have hbE : Below w4.heap.size w4 ((w4.alloc (.cells enZ 50)).setRow w4.heap.size cl.toArray) := below_row ((Below.refl _ _).alloc (Nat.le_refl _) _) (Nat.le_refl _) _
  have H5 := hide (And.intro ((hbE.block w.heap.size (Array.getElem?_eq_some_iff.1 hr4).1).trans hr4) (And.intro (hB4.trans (hbE.mono hB4.size)) (And.intro hnE (hD4.step hbE))))
  clear hnE hbE hr4 hB4 hD4 hb4 H3
  go_wp2_with (first
    | (refine wpList_store_rowTo rfl 50 (.tmp 5) (.tmp 16) rfl rfl w4.heap.size cl.toArray rfl rfl 50 enZ (heap_alloc_new w4 _) (by rw [hcz]; exact infoE) (by rw [hcz]; rfl) h1c ?_)
    | (refine wpList_load_row rfl 50 (.tmp 5) rfl w4.heap.size rfl 50 cl.toArray (0, 0) _ (unhide H5).2.2.1 Try.underlying50 rfl (by rw [hcz]; exact infoE) ?_))
  refine (unhide CI _ _ (unhide H5).2.2.2).mono ?_
  rintro r w5 ⟨rfl, hb5⟩
  obtain ⟨ha5, hB5, hx5, hD5⟩ := unhide H5
  have H6 := hide (And.intro ((hb5.block w.heap.size (Array.getElem?_eq_some_iff.1 ha5).1).trans ha5) (And.intro (hB5.trans (hb5.mono hB5.size)) (And.intro ((hb5.block w4.heap.size (Array.getElem?_eq_some_iff.1 hx5).1).trans hx5) (hD5.step hb5))))
  clear ha5 hB5 hx5 hD5 hb5 H5 CI
  go_upto_region 10 with fail
  refine gen_world (fun q => q.heap[w.heap.size]? = some (.cells ca.toArray 57) ∧ Below w.heap.size w q ∧ q.heap[w4.heap.size]? = some (.cells cl.toArray 50) ∧ ToD e F1 F2 cl q) ?_ ?_
  · exact unhide H6
  clear H6
  rintro q ⟨qa, qb, qx, qd⟩
  have HQ := hide (And.intro qb qd)
  clear qb qd
  refine wp_region_held_drew (S := fun z => z.heap[w.heap.size]? = some (.cells ca.toArray 57) ∧ z.heap[w4.heap.size]? = some (.cells cl.toArray 50)) (by kernel_rfl) ?_ (fun hHeld => ?_)
  · exact ⟨qa, qx⟩
  refine wpAnyH_take (i := 0) (v := .agg cl.toArray) rfl (by kernel_rfl) (by kernel_rfl) (by kernel_rfl) (fun _ _ _ h => h) (yieldsIf_load_mid (by rfl) 50 (.tmp 5) rfl w4.heap.size 0 rfl cl _ (fun z hz => rangeRow hz.2) Try.underlying50 rfl (by rw [lc]; exact infoE)) (by assumption) ?_
  try simp only [Act.put, List.setIfInBounds_toArray, List.set_cons_zero, List.set_cons_succ, List.getElem_toArray, List.getElem_cons_zero]
  refine wpAnyH_take (i := 1) (v := .agg ca.toArray) rfl (by kernel_rfl) (by kernel_rfl) (by kernel_rfl) (fun _ _ _ h => h) (yieldsIf_load_mid (by rfl) 57 (.tmp 1) rfl w.heap.size 0 rfl ca _ (fun z hz => rangeRow hz.1) Try.underlying57 rfl (by rw [la]; exact infoLE)) (by assumption) ?_
  try simp only [Act.put, List.setIfInBounds_toArray, List.getElem_toArray]
  refine wpAnyH_ready (rs := [2]) (by kernel_rfl) (by simp) ?_
  refine AllReadyH.cons rfl (fun K hK => ?_) AllReadyH.nil
  go_simp
  refine (unhide CT _ ((unhide HQ).1.trans ((Below.refl _ _).drew.mono (unhide HQ).1.size))).mono ?_
  rintro r w6 ⟨cm, rfl, hD6, hb6⟩
  have hB6 : Below q.heap.size q w6 := (Below.refl _ _).drew.trans hb6
  have HQ6 := hide (And.intro ((unhide HQ).1.trans (hB6.mono (unhide HQ).1.size)) (And.intro ((unhide HQ).2.step hB6) hD6))
  have qa6 := (hB6.block w.heap.size (Array.getElem?_eq_some_iff.1 qa).1).trans qa
  have qx6 := (hB6.block w4.heap.size (Array.getElem?_eq_some_iff.1 qx).1).trans qx
  clear hb6 hD6 hB6
  go_wp2_with fail
  refine hK.out _ _ ?_ (fun hHeld6 => ?_)
  · exact ⟨qa6, qx6⟩
  clear hK K
  try simp only [Act.put, List.setIfInBounds_toArray, List.set_cons_zero, List.set_cons_succ, List.getElem_toArray, List.getElem_cons_zero]
  refine wpAnyH_ready (rs := [3]) (by kernel_rfl) (by simp) ?_
  refine AllReadyH.cons rfl (fun K hK => ?_) AllReadyH.nil
  go_simp
  refine (unhide CE _ _ _ (unhide HQ6).2.1 (unhide HQ6).2.2).mono ?_
  rintro r w7 ⟨rfl, hb7⟩
  go_wp2_with fail
  refine hK.out _ _ ?_ (fun hHeld7 => ?_)
  · exact ⟨(hb7.block w.heap.size (Array.getElem?_eq_some_iff.1 qa6).1).trans qa6, (hb7.block w4.heap.size (Array.getElem?_eq_some_iff.1 qx6).1).trans qx6⟩
  clear hK K
  refine wpAnyH_take (i := 4) (v := ?v4) rfl (by kernel_rfl) (by kernel_rfl) (by kernel_rfl) (fun _ _ _ h => h) (Or.inl ⟨by rfl, ?hy4⟩) (by assumption) ?_
  case hy4 =>
    intro w hSw
    try dsimp only at hSw
    go_simp
    try with_reducible rfl
  try simp only [Act.put, List.setIfInBounds_toArray, List.getElem_toArray]
  refine wpAnyH_done (by kernel_rfl) ?_ _
  go_wp2
  go_ret
  exact ⟨rfl, (unhide HQ6).1.trans (hb7.mono (unhide HQ6).1.size)⟩
end Go.Proofs.Ytakbldleomhggaa
