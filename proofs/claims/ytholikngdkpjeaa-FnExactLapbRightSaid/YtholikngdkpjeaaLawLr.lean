/- The law FnExactLapbRight walked: it returns true, and what lay in memory stands. -/
import Derived.Test.YtholikngdkpjeaaLpX
import Derived.Test.YtholikngdkpjeaaLpS
import Derived.Deep.DeepCutAuto
namespace Go.Proofs.Ytholikngdkpjeaa
open Go.RowKit
/-- An end that the law made, wherever. -/
def ToD (p : Lp) (L : List ByteArray) (cl : List Value) (q : World) : Prop := ∃ lo hi, ToL p L lo hi cl q
theorem ToD.step {p : Lp} {L : List ByteArray} {cl : List Value} {q q' : World} (h : ToD p L cl q) (hb : Below q.heap.size q q') : ToD p L cl q' := by
  obtain ⟨lo, hi, h⟩ := h
  exact ⟨lo, hi, h.step hb⟩
theorem ToD.len {p : Lp} {L : List ByteArray} {cl : List Value} {q : World} (h : ToD p L cl q) : cl.length = 6 := by
  obtain ⟨lo, hi, h⟩ := h
  exact h.len
theorem ToD.one {p : Lp} {L : List ByteArray} {cl : List Value} {q : World} (h : ToD p L cl q) : cl.toArray.all (·.oneCell') = true := by
  obtain ⟨lo, hi, h⟩ := h
  exact h.one
set_option maxHeartbeats 4000000 in
set_option maxRecDepth 100000 in
theorem lawLr (p : Lp) (x1 : Option Addr) (y1 : Nat) (L : List ByteArray) (w : World) (l1 : L.length ≤ maxLen)
    (h1 : ArgT w (.slice x1 L.length y1) L) :
    Calls Try.prog 4 #[.agg (lpC p (.slice x1 L.length y1))] w fun r w' => r = .returned (.bool true) ∧ Below w.heap.size w w' := by
  obtain ⟨ca, hca⟩ : ∃ ca : List Value, lpC p (.slice x1 L.length y1) = ca.toArray := ⟨_, rfl⟩
  have la : ca.length = 6 := by rw [← List.size_toArray, ← hca]; rfl
  have C0 : Hid (∀ W, Below w.heap.size w W → Calls Try.prog 14 #[.agg ca.toArray, .int .i64 1048576] W fun r w' => ∃ z : Int, r = .returned (.int .i64 z) ∧ (z = -1 ∨ (L.length ≤ 1048576 ∧ ∃ m : Nat, z = (m : Int) ∧ m ≤ 1048576)) ∧ Below W.heap.size W w') :=
    hide fun W hb => by rw [← hca]; exact szLp p x1 y1 L W l1 (h1.below hb)
  have CT : Hid (L.length ≤ 1048576 → ∀ W, Below w.heap.size w W → Calls Try.prog 16 #[.agg ca.toArray] W fun r w' => ∃ cl : List Value, r = .returned (.agg cl.toArray) ∧ ToD p L cl w' ∧ Below W.heap.size W w') :=
    hide fun k1 W hb => by
      rw [← hca]
      refine (toL p x1 y1 L W k1 (h1.below hb)).mono ?_
      rintro r w' ⟨cl, hr, hh1, hbw⟩
      exact ⟨_, hr, ⟨_, _, hh1⟩, hbw⟩
  have CS : Hid (L.length ≤ 1048576 → ∀ cl W, ToD p L cl W → Calls Try.prog 15 #[.agg cl.toArray] W fun r w' => r = .returned (.bool (lpOk p L)) ∧ Below W.heap.size W w') :=
    hide fun hk cl W h => by obtain ⟨lo, hi, u1, z1, e1, k1, _⟩ := h; rw [e1]; exact sLpRight p u1 z1 L W (by assumption) k1
  have CI : Hid (L.length ≤ 1048576 → ∀ cl W, ToD p L cl W → Calls Try.prog 17 #[.agg cl.toArray] W fun r w' => r = .returned (.bool (lpOk p L)) ∧ Below W.heap.size W w') :=
    hide fun hk cl W h => by obtain ⟨lo, hi, u1, z1, e1, k1, _⟩ := h; rw [e1]; exact iLpRight p u1 z1 L W (by assumption) k1
  have CE : Hid (L.length ≤ 1048576 → ∀ cl cm W, ToD p L cl W → ToD p L cm W → Calls Try.prog 11 #[.agg cl.toArray, .agg cm.toArray] W fun r w' => r = .returned (.bool true) ∧ Below W.heap.size W w') :=
    hide fun k1 cl cm W h h' => by
      obtain ⟨_, _, h⟩ := h
      obtain ⟨_, _, h'⟩ := h'
      exact eqL k1 h h'
  rw [hca]
  have hA := heap_alloc_new w (.cells ca.toArray 29)
  have hbA : Below w.heap.size w (w.alloc (.cells ca.toArray 29)) := (Below.refl _ _).alloc (Nat.le_refl _) _
  have H0 := hide (And.intro hA hbA)
  clear h1 l1 hA hbA hca
  generalize lpOk p L = RT at *
  have hsz : ca.toArray.size = 6 := by rw [List.size_toArray]; exact la
  go_enter Try.func4, Try.ntmps4
  go_upto_region 2 with fail
  apply wp_region_lit
  refine wpList_load_row rfl 29 (.tmp 1) rfl w.heap.size rfl 29 ca.toArray (0, 0) _ (unhide H0).1 Try.underlying29 rfl (by rw [hsz]; exact infoLL) ?_
  simp only [Act.put, List.setIfInBounds_toArray, List.set_cons_zero, List.set_cons_succ]
  go_wp2_with fail
  refine (unhide C0 _ (unhide H0).2).mono ?_
  rintro r w1 ⟨z, rfl, hz, hb1⟩
  have hr1 := (hb1.block w.heap.size (Array.getElem?_eq_some_iff.1 (unhide H0).1).1).trans (unhide H0).1
  have hB1 := (unhide H0).2.trans (hb1.mono (unhide H0).2.size)
  have H1 := hide (And.intro hr1 hB1)
  clear hr1 hB1 hb1 H0
  by_cases hz0 : z < 0
  · go_wp2
    go_ret
    exact ⟨rfl, (unhide H1).2⟩
  obtain ⟨k1, _⟩ := hz.resolve_left (by omega)
  replace CT := hide (unhide CT k1)
  replace CE := hide (unhide CE k1)
  replace CS := hide (unhide CS k1)
  replace CI := hide (unhide CI k1)
  clear C0 hz k1
  go_upto_region 5 with fail
  apply wp_region_lit
  refine wpList_load_row rfl 29 (.tmp 1) rfl w.heap.size rfl 29 ca.toArray (0, 0) _ (unhide H1).1 Try.underlying29 rfl (by rw [hsz]; exact infoLL) ?_
  simp only [Act.put, List.setIfInBounds_toArray, List.set_cons_zero, List.set_cons_succ]
  go_wp2_with fail
  refine (unhide CT _ (unhide H1).2).mono ?_
  rintro r w2 ⟨cl0, rfl, hD2, hb2⟩
  have hr2 := (hb2.block w.heap.size (Array.getElem?_eq_some_iff.1 (unhide H1).1).1).trans (unhide H1).1
  have hB2 := (unhide H1).2.trans (hb2.mono (unhide H1).2.size)
  have H2 := hide (And.intro hr2 hB2)
  clear hr2 hB2 hb2 H1
  go_wp2_with fail
  refine (unhide CS _ _ hD2).mono ?_
  rintro r w3 ⟨rfl, hb3⟩
  have hr3 := (hb3.block w.heap.size (Array.getElem?_eq_some_iff.1 (unhide H2).1).1).trans (unhide H2).1
  have hB3 := (unhide H2).2.trans (hb3.mono (unhide H2).2.size)
  have H3 := hide (And.intro hr3 hB3)
  clear hr3 hB3 hb3 H2 hD2 CS
  go_upto_region 6 with fail
  apply wp_region_lit
  refine wpList_load_row rfl 29 (.tmp 1) rfl w.heap.size rfl 29 ca.toArray (0, 0) _ (unhide H3).1 Try.underlying29 rfl (by rw [hsz]; exact infoLL) ?_
  simp only [Act.put, List.setIfInBounds_toArray, List.set_cons_zero, List.set_cons_succ]
  go_wp2_with fail
  refine (unhide CT _ (unhide H3).2).mono ?_
  rintro r w4 ⟨cl, rfl, hD4, hb4⟩
  have hr4 := (hb4.block w.heap.size (Array.getElem?_eq_some_iff.1 (unhide H3).1).1).trans (unhide H3).1
  have hB4 := (unhide H3).2.trans (hb4.mono (unhide H3).2.size)
  have lc := hD4.len
  have hcz : cl.toArray.size = 6 := by rw [List.size_toArray]; exact lc
  have h1c := hD4.one
  have hnE := setRow_heap (w4.alloc (.cells lpZ 24)) w4.heap.size lpZ cl.toArray 24 (0, 0) (heap_alloc_new w4 _)
  have hbE : Below w4.heap.size w4 ((w4.alloc (.cells lpZ 24)).setRow w4.heap.size cl.toArray) := below_rowL ((Below.refl _ _).alloc (Nat.le_refl _) _) (Nat.le_refl _) _
  have H5 := hide (And.intro ((hbE.block w.heap.size (Array.getElem?_eq_some_iff.1 hr4).1).trans hr4) (And.intro (hB4.trans (hbE.mono hB4.size)) (And.intro hnE (hD4.step hbE))))
  clear hnE hbE hr4 hB4 hD4 hb4 H3
  go_wp2_with (first
    | (refine wpList_store_rowTo rfl 24 (.tmp 5) (.tmp 16) rfl rfl w4.heap.size cl.toArray rfl rfl 24 lpZ (heap_alloc_new w4 _) (by rw [hcz]; exact infoL) (by rw [hcz]; rfl) h1c ?_)
    | (refine wpList_load_row rfl 24 (.tmp 5) rfl w4.heap.size rfl 24 cl.toArray (0, 0) _ (unhide H5).2.2.1 Try.underlying24 rfl (by rw [hcz]; exact infoL) ?_))
  refine (unhide CI _ _ (unhide H5).2.2.2).mono ?_
  rintro r w5 ⟨rfl, hb5⟩
  obtain ⟨ha5, hB5, hx5, hD5⟩ := unhide H5
  have H6 := hide (And.intro ((hb5.block w.heap.size (Array.getElem?_eq_some_iff.1 ha5).1).trans ha5) (And.intro (hB5.trans (hb5.mono hB5.size)) (And.intro ((hb5.block w4.heap.size (Array.getElem?_eq_some_iff.1 hx5).1).trans hx5) (hD5.step hb5))))
  clear ha5 hB5 hx5 hD5 hb5 H5 CI
  go_upto_region 10 with fail
  refine gen_world (fun q => q.heap[w.heap.size]? = some (.cells ca.toArray 29) ∧ Below w.heap.size w q ∧ q.heap[w4.heap.size]? = some (.cells cl.toArray 24) ∧ ToD p L cl q) ?_ ?_
  · exact unhide H6
  clear H6
  rintro q ⟨qa, qb, qx, qd⟩
  have HQ := hide (And.intro qb qd)
  clear qb qd
  refine wp_region_held_drew (S := fun z => z.heap[w.heap.size]? = some (.cells ca.toArray 29) ∧ z.heap[w4.heap.size]? = some (.cells cl.toArray 24)) (by kernel_rfl) ?_ (fun hHeld => ?_)
  · exact ⟨qa, qx⟩
  refine wpAnyH_take (i := 0) (v := .agg cl.toArray) rfl (by kernel_rfl) (by kernel_rfl) (by kernel_rfl) (fun _ _ _ h => h) (yieldsIf_load_mid (by rfl) 24 (.tmp 5) rfl w4.heap.size 0 rfl cl _ (fun z hz => rangeRowL hz.2) Try.underlying24 rfl (by rw [lc]; exact infoL)) (by assumption) ?_
  try simp only [Act.put, List.setIfInBounds_toArray, List.set_cons_zero, List.set_cons_succ, List.getElem_toArray, List.getElem_cons_zero]
  refine wpAnyH_take (i := 1) (v := .agg ca.toArray) rfl (by kernel_rfl) (by kernel_rfl) (by kernel_rfl) (fun _ _ _ h => h) (yieldsIf_load_mid (by rfl) 29 (.tmp 1) rfl w.heap.size 0 rfl ca _ (fun z hz => rangeRowL hz.1) Try.underlying29 rfl (by rw [la]; exact infoLL)) (by assumption) ?_
  try simp only [Act.put, List.setIfInBounds_toArray, List.getElem_toArray]
  refine wpAnyH_ready (rs := [2]) (by kernel_rfl) (by simp) ?_
  refine AllReadyH.cons rfl (fun K hK => ?_) AllReadyH.nil
  go_simp
  refine (unhide CT _ ((unhide HQ).1.trans ((Below.refl _ _).drew.mono (unhide HQ).1.size))).mono ?_
  rintro r w6 ⟨cm, rfl, hD6, hb6⟩
  have hB6 : Below q.heap.size q w6 := (Below.refl _ _).drew.trans hb6
  have HQ6 := hide (And.intro ((unhide HQ).1.trans (hB6.mono (unhide HQ).1.size)) (And.intro ((unhide HQ).2.step hB6) hD6))
  have qa6 := (hB6.block w.heap.size (Array.getElem?_eq_some_iff.1 qa).1).trans qa
  have qx6 := (hB6.block w4.heap.size (Array.getElem?_eq_some_iff.1 qx).1).trans qx
  clear hb6 hD6 hB6
  go_wp2_with fail
  refine hK.out _ _ ?_ (fun hHeld6 => ?_)
  · exact ⟨qa6, qx6⟩
  clear hK K
  try simp only [Act.put, List.setIfInBounds_toArray, List.set_cons_zero, List.set_cons_succ, List.getElem_toArray, List.getElem_cons_zero]
  refine wpAnyH_ready (rs := [3]) (by kernel_rfl) (by simp) ?_
  refine AllReadyH.cons rfl (fun K hK => ?_) AllReadyH.nil
  go_simp
  refine (unhide CE _ _ _ (unhide HQ6).2.1 (unhide HQ6).2.2).mono ?_
  rintro r w7 ⟨rfl, hb7⟩
  go_wp2_with fail
  refine hK.out _ _ ?_ (fun hHeld7 => ?_)
  · exact ⟨(hb7.block w.heap.size (Array.getElem?_eq_some_iff.1 qa6).1).trans qa6, (hb7.block w4.heap.size (Array.getElem?_eq_some_iff.1 qx6).1).trans qx6⟩
  clear hK K
  refine wpAnyH_take (i := 4) (v := ?v4) rfl (by kernel_rfl) (by kernel_rfl) (by kernel_rfl) (fun _ _ _ h => h) (Or.inl ⟨by rfl, ?hy4⟩) (by assumption) ?_
  case hy4 =>
    intro w hSw
    try dsimp only at hSw
    go_simp
    try with_reducible rfl
  try simp only [Act.put, List.setIfInBounds_toArray, List.getElem_toArray]
  refine wpAnyH_done (by kernel_rfl) ?_ _
  go_wp2
  go_ret
  exact ⟨rfl, (unhide HQ6).1.trans (hb7.mono (unhide HQ6).1.size)⟩
end Go.Proofs.Ytholikngdkpjeaa
