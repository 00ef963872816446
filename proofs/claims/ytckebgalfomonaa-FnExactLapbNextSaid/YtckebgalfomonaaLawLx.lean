/- The law FnExactLapbNext walked: it returns true, and what lay in memory stands. -/
import Derived.Test.YtckebgalfomonaaLpY
import Derived.Test.YtckebgalfomonaaLpK
import Derived.Deep.DeepCutAuto
namespace Go.Proofs.Ytckebgalfomonaa
open Go.RowKit
theorem nextF_len (p : Lp) (L : List ByteArray) : LoB (nextF p L) := by
  unfold nextF
  split
  · rename_i h
    have h20 := (lpRt h).l20
    refine ⟨Nat.le_trans h20 (by show 20 ≤ 100000; omega), ?_, Nat.zero_le _⟩
    show (outs _ _ _ _).length ≤ 100000
    rw [outs_len]
    unfold nextM
    omega
  · exact loErr_len _
set_option maxHeartbeats 16000000 in
set_option maxRecDepth 100000 in
theorem lawLx (p : Lp) (x1 : Option Addr) (y1 : Nat) (L : List ByteArray) (w : World) (l1 : L.length ≤ maxLen)
    (h1 : ArgT w (.slice x1 L.length y1) L) :
    Calls Try.prog 6 #[.agg (lpC p (.slice x1 L.length y1))] w fun r w' => r = .returned (.bool true) ∧ Below w.heap.size w w' := by
  obtain ⟨ca, hca⟩ : ∃ ca : List Value, lpC p (.slice x1 L.length y1) = ca.toArray := ⟨_, rfl⟩
  have la : ca.length = 6 := by rw [← List.size_toArray, ← hca]; rfl
  have hsz : ca.toArray.size = 6 := by rw [List.size_toArray]; exact la
  have C0 : Hid (∀ W, Below w.heap.size w W → Calls Try.prog 13 #[.agg ca.toArray, .int .i64 1048576] W fun r w' => ∃ z : Int, r = .returned (.int .i64 z) ∧ (z = -1 ∨ (L.length ≤ 1048576 ∧ ∃ m : Nat, z = (m : Int) ∧ m ≤ 1048576)) ∧ Below W.heap.size W w') :=
    hide fun W hb => by rw [← hca]; exact szLp p x1 y1 L W l1 (h1.below hb)
  have CT : Hid (L.length ≤ 1048576 → ∀ W, Below w.heap.size w W → Calls Try.prog 15 #[.agg ca.toArray] W fun r w' => ∃ cl : List Value, r = .returned (.agg cl.toArray) ∧ ToL p L W.heap.size w'.heap.size cl w' ∧ Below W.heap.size W w') :=
    hide fun k1 W hb => by rw [← hca]; exact toL p x1 y1 L W k1 (h1.below hb)
  have CS : Hid (L.length ≤ 1048576 → ∀ cl lo hi W, ToL p L lo hi cl W → Calls Try.prog 22 #[.agg cl.toArray] W fun r w' => ∃ cs, r = .returned (.agg cs) ∧ AnM (nextF p L) W.heap.size w'.heap.size cs w' ∧ Below W.heap.size W w' ∧ cs.size = 9 ∧ cs.all (·.oneCell') = true) :=
    hide fun k1 cl lo hi W h => by
      obtain ⟨u1, z1, rfl, p1, _⟩ := h
      refine (sNextL p u1 z1 L W k1 p1.s).mono ?_
      rintro r w' hE
      obtain ⟨v1, v2, v3, rfl, hE'⟩ := hE
      exact ⟨_, rfl, AnM.of ⟨v1, v2, v3, rfl, hE'⟩⟩
  have CI : Hid (L.length ≤ 1048576 → ∀ cl lo hi W, Below w.heap.size w W → ToL p L lo hi cl W → Calls Try.prog 23 #[.agg cl.toArray] W fun r w' => ∃ cs, r = .returned (.agg cs) ∧ AnG (nextF p L) W.heap.size w'.heap.size cs w' ∧ Below W.heap.size W w' ∧ cs.size = 9 ∧ cs.all (·.oneCell') = true) :=
    hide fun k1 cl lo hi W hb h => by
      obtain ⟨u1, z1, rfl, p1, _⟩ := h
      refine (iNextL p u1 z1 L W k1 p1.s).mono ?_
      rintro r w' hE
      obtain ⟨v1, v2, v3, rfl, hE'⟩ := hE
      exact ⟨_, rfl, AnG.of ⟨v1, v2, v3, rfl, hE'⟩⟩
  have hB : LoB (nextF p L) := nextF_len p L
  rw [hca]
  obtain ⟨A, eA⟩ : ∃ A, w.heap.size = A := ⟨_, rfl⟩
  have hA := heap_alloc_new w (.cells ca.toArray 29)
  have hbA : Below w.heap.size w (w.alloc (.cells ca.toArray 29)) := (Below.refl _ _).alloc (Nat.le_refl _) _
  rw [eA] at hA
  have H0 := hide (And.intro hA hbA)
  clear h1 l1 hA hbA hca
  generalize nextF p L = o at *
  go_enter Try.func6, Try.ntmps6
  go_wp2_with (first | (refine wpList_load_row rfl 29 (.tmp 1) rfl A rfl 29 ca.toArray (0, 0) _ (unhide H0).1 Try.underlying29 rfl (by rw [hsz]; exact infoLL) ?_))
  refine (unhide C0 _ (unhide H0).2).mono ?_
  rintro r w1 ⟨z, rfl, hz, hb1⟩
  have hr1 := (hb1.block A (Array.getElem?_eq_some_iff.1 (unhide H0).1).1).trans (unhide H0).1
  have H1 := hide (And.intro hr1 ((unhide H0).2.trans (hb1.mono (unhide H0).2.size)))
  clear hr1 hb1 H0
  by_cases hz0 : z < 0
  · go_wp2
    go_ret
    exact ⟨rfl, (unhide H1).2⟩
  obtain ⟨k1, _⟩ := hz.resolve_left (by omega)
  replace CT := hide (unhide CT k1)
  replace CS := hide (unhide CS k1)
  replace CI := hide (unhide CI k1)
  have HK := hide k1
  clear C0 hz k1
  go_wp2_with (first | (refine wpList_load_row rfl 29 (.tmp 1) rfl A rfl 29 ca.toArray (0, 0) _ (unhide H1).1 Try.underlying29 rfl (by rw [hsz]; exact infoLL) ?_))
  refine (unhide CT _ (unhide H1).2).mono ?_
  rintro r w2 ⟨cl0, rfl, hD2, hb2⟩
  have hr2 := (hb2.block A (Array.getElem?_eq_some_iff.1 (unhide H1).1).1).trans (unhide H1).1
  have H2 := hide (And.intro hr2 ((unhide H1).2.trans (hb2.mono (unhide H1).2.size)))
  clear hr2 hb2 H1
  go_wp2_with fail
  refine (unhide CS _ _ _ _ hD2).mono ?_
  rintro r w3 ⟨cw, rfl, hW3, hb3, hwz, hwa⟩
  clear hD2 CS
  -- the model's answer is stored
  have hn3 := setRow_heap (w3.alloc (.cells loZ 36)) w3.heap.size loZ cw 36 (0, 0) (heap_alloc_new w3 _)
  have hb4 : Below w3.heap.size w3 ((w3.alloc (.cells loZ 36)).setRow w3.heap.size cw) := below_rowL ((Below.refl _ _).alloc (Nat.le_refl _) _) (Nat.le_refl _) _
  have hr3 := (hb3.block A (Array.getElem?_eq_some_iff.1 (unhide H2).1).1).trans (unhide H2).1
  have hl3 := (unhide H2).2.trans (hb3.mono (unhide H2).2.size)
  have hA3 : A < w3.heap.size := (Array.getElem?_eq_some_iff.1 hr3).1
  have H4 := hide (And.intro ((hb4.block A hA3).trans hr3) (And.intro hn3 (And.intro (hW3.step hb4) (hl3.trans (hb4.mono hl3.size)))))
  have hw2 := hb3.size
  clear hn3 hb4 hr3 hl3 hb3 hW3 H2
  go_wp2_with (first
    | (refine wpList_store_rowTo rfl 36 (.tmp 4) (.tmp 18) rfl rfl w3.heap.size cw rfl rfl 36 loZ (heap_alloc_new w3 _) (by rw [hwz]; exact infoLo) (by rw [hwz]; rfl) hwa ?_)
    | (refine wpList_load_row rfl 29 (.tmp 1) rfl A rfl 29 ca.toArray (0, 0) _ (unhide H4).1 Try.underlying29 rfl (by rw [hsz]; exact infoLL) ?_))
  refine (unhide CT _ (unhide H4).2.2.2).mono ?_
  rintro r w5 ⟨cl, rfl, hD5, hb5⟩
  have lc := hD5.len
  have hcz : cl.toArray.size = 6 := by rw [List.size_toArray]; exact lc
  have hca1 := hD5.one
  have hs4 : ((w3.alloc (.cells loZ 36)).setRow w3.heap.size cw).heap.size = w3.heap.size + 1 := size_putL _ _ _ _
  have hs5 := hb5.size
  rw [hs4] at hs5
  have hn5 := setRow_heap (w5.alloc (.cells lpZ 24)) w5.heap.size lpZ cl.toArray 24 (0, 0) (heap_alloc_new w5 _)
  have hb6 : Below w5.heap.size w5 ((w5.alloc (.cells lpZ 24)).setRow w5.heap.size cl.toArray) := below_rowL ((Below.refl _ _).alloc (Nat.le_refl _) _) (Nat.le_refl _) _
  have hb56 := hb5.trans (hb6.mono hb5.size)
  have H6 := hide (And.intro ((hb56.block A (by rw [hs4]; omega)).trans (unhide H4).1) (And.intro ((hb56.block w3.heap.size (by rw [hs4]; omega)).trans (unhide H4).2.1) (And.intro ((unhide H4).2.2.1.step hb56) (And.intro ((unhide H4).2.2.2.trans (hb56.mono (unhide H4).2.2.2.size)) (And.intro hn5 (hD5.step hb6))))))
  have hs6 : ((w5.alloc (.cells lpZ 24)).setRow w5.heap.size cl.toArray).heap.size = w5.heap.size + 1 := size_putL _ _ _ _
  clear hn5 hb6 hb56 hD5 hb5 H4
  go_wp2_with (first
    | (refine wpList_store_rowTo rfl 24 (.tmp 5) (.tmp 20) rfl rfl w5.heap.size cl.toArray rfl rfl 24 lpZ (heap_alloc_new w5 _) (by rw [hcz]; exact infoL) (by rw [hcz]; rfl) hca1 ?_)
    | (refine wpList_load_row rfl 24 (.tmp 5) rfl w5.heap.size rfl 24 cl.toArray (0, 0) _ (unhide H6).2.2.2.2.1 Try.underlying24 rfl (by rw [hcz]; exact infoL) ?_))
  refine (unhide CI _ _ _ _ (unhide H6).2.2.2.1 (unhide H6).2.2.2.2.2).mono ?_
  rintro r w6 ⟨cg, rfl, hG6, hb7, hgz, hga⟩
  have hs7 := hb7.size
  rw [hs6] at hs7 hG6
  have hn7 := setRow_heap (w6.alloc (.cells loZ 36)) w6.heap.size loZ cg 36 (0, 0) (heap_alloc_new w6 _)
  have hb8 : Below w6.heap.size w6 ((w6.alloc (.cells loZ 36)).setRow w6.heap.size cg) := below_rowL ((Below.refl _ _).alloc (Nat.le_refl _) _) (Nat.le_refl _) _
  have hb78 := hb7.trans (hb8.mono hb7.size)
  have HI : Hid (LiL w ca cl cw cg A w3.heap.size w5.heap.size w6.heap.size ((w6.alloc (.cells loZ 36)).setRow w6.heap.size cg) ∧ AnM o w2.heap.size w3.heap.size cw ((w6.alloc (.cells loZ 36)).setRow w6.heap.size cg) ∧ ToL p L (w3.heap.size + 1) w5.heap.size cl ((w6.alloc (.cells loZ 36)).setRow w6.heap.size cg) ∧ AnG o (w5.heap.size + 1) w6.heap.size cg ((w6.alloc (.cells loZ 36)).setRow w6.heap.size cg)) := by
    obtain ⟨q1, q2, q3, q4, q5, q6⟩ := unhide H6
    rw [hs4] at q6
    exact hide ⟨⟨(hb78.block A (by rw [hs6]; omega)).trans q1, (hb78.block _ (by rw [hs6]; omega)).trans q2, (hb78.block _ (by rw [hs6]; omega)).trans q5, hn7, q4.trans (hb78.mono q4.size)⟩, q3.step hb78, q6.step hb78, hG6.step hb8⟩
  clear hn7 hb8 hb78 hb7 hG6 H6 hs6 hs4
  go_wp2_with (first
    | (refine wpList_store_rowTo rfl 36 (.tmp 6) (.tmp 22) rfl rfl w6.heap.size cg rfl rfl 36 loZ (heap_alloc_new w6 _) (by rw [hgz]; exact infoLo) (by rw [hgz]; rfl) hga ?_)
    | (refine wpList_load_row rfl 36 (.tmp 6) rfl w6.heap.size rfl 36 cg (0, 0) _ (unhide HI).1.g Try.underlying36 rfl (by rw [hgz]; exact infoLo) ?_)
    | (refine wpList_load_row rfl 36 (.tmp 4) rfl w3.heap.size rfl 36 cw (0, 0) _ (unhide HI).1.m Try.underlying36 rfl (by rw [hwz]; exact infoLo) ?_))
  refine (eqG hB (unhide HI).2.2.2 (unhide HI).2.1).mono ?_
  rintro r w7 ⟨rfl, hb⟩
  have HI7 := hide (And.intro ((unhide HI).1.step hb) (And.intro ((unhide HI).2.1.step hb) (And.intro ((unhide HI).2.2.1.step hb) ((unhide HI).2.2.2.step hb))))
  clear hb HI
  go_upto_region 10 with fail
  refine gen_world (fun q => LiL w ca cl cw cg A w3.heap.size w5.heap.size w6.heap.size q ∧ AnM o w2.heap.size w3.heap.size cw q ∧ ToL p L (w3.heap.size + 1) w5.heap.size cl q ∧ AnG o (w5.heap.size + 1) w6.heap.size cg q) ?_ ?_
  · exact unhide HI7
  clear HI7
  rintro q hq
  have qa := hq.1.a
  have qx := hq.1.x
  have HQ := hide (And.intro (hq.1.step (Below.refl _ _).drew) (And.intro (hq.2.1.step (Below.refl _ _).drew) (And.intro (hq.2.2.1.step (Below.refl _ _).drew) (hq.2.2.2.step (Below.refl _ _).drew))))
  clear hq
  refine wp_region_held_drew (S := fun z => z.heap[A]? = some (.cells ca.toArray 29) ∧ z.heap[w5.heap.size]? = some (.cells cl.toArray 24)) (by kernel_rfl) ?_ (fun hHeld => ?_)
  · exact ⟨qa, qx⟩
  refine wpAnyH_take (i := 0) (v := .agg cl.toArray) rfl (by kernel_rfl) (by kernel_rfl) (by kernel_rfl) (fun _ _ _ h => h) (yieldsIf_load_mid (by rfl) 24 (.tmp 5) rfl w5.heap.size 0 rfl cl _ (fun z hz => rangeRowL hz.2) Try.underlying24 rfl (by rw [lc]; exact infoL)) (by assumption) ?_
  try simp only [Act.put, List.setIfInBounds_toArray, List.set_cons_zero, List.set_cons_succ, List.getElem_toArray, List.getElem_cons_zero]
  refine wpAnyH_take (i := 1) (v := .agg ca.toArray) rfl (by kernel_rfl) (by kernel_rfl) (by kernel_rfl) (fun _ _ _ h => h) (yieldsIf_load_mid (by rfl) 29 (.tmp 1) rfl A 0 rfl ca _ (fun z hz => rangeRowL hz.1) Try.underlying29 rfl (by rw [la]; exact infoLL)) (by assumption) ?_
  try simp only [Act.put, List.setIfInBounds_toArray, List.getElem_toArray]
  refine wpAnyH_ready (rs := [2]) (by kernel_rfl) (by simp) ?_
  refine AllReadyH.cons rfl (fun K hK => ?_) AllReadyH.nil
  go_simp
  refine (unhide CT _ (unhide HQ).1.b).mono ?_
  rintro r w8 ⟨cm, rfl, hD8, hb8⟩
  have HQ8 := hide (And.intro ((unhide HQ).1.step hb8) (And.intro ((unhide HQ).2.1.step hb8) (And.intro ((unhide HQ).2.2.1.step hb8) (And.intro ((unhide HQ).2.2.2.step hb8) hD8))))
  clear hb8 hD8 HQ
  go_wp2_with fail
  refine hK.out _ _ ?_ (fun _ => ?_)
  · exact ⟨(unhide HQ8).1.a, (unhide HQ8).1.x⟩
  clear hK K
  try simp only [Act.put, List.setIfInBounds_toArray, List.set_cons_zero, List.set_cons_succ, List.getElem_toArray, List.getElem_cons_zero]
  refine wpAnyH_ready (rs := [3]) (by kernel_rfl) (by simp) ?_
  refine AllReadyH.cons rfl (fun K hK => ?_) AllReadyH.nil
  go_simp
  refine (eqL (unhide HK) (unhide HQ8).2.2.1 (unhide HQ8).2.2.2.2).mono ?_
  rintro r w9 ⟨rfl, hb9⟩
  have HQ9 := hide (And.intro ((unhide HQ8).1.step hb9) (And.intro ((unhide HQ8).2.1.step hb9) (And.intro ((unhide HQ8).2.2.1.step hb9) ((unhide HQ8).2.2.2.1.step hb9))))
  clear hb9 HQ8
  go_wp2_with fail
  refine hK.out _ _ ?_ (fun _ => ?_)
  · exact ⟨(unhide HQ9).1.a, (unhide HQ9).1.x⟩
  clear hK K
  refine wpAnyH_take (i := 4) (v := ?v4) rfl (by kernel_rfl) (by kernel_rfl) (by kernel_rfl) (fun _ _ _ h => h) (Or.inl ⟨by rfl, ?hy4⟩) (by assumption) ?_
  case hy4 =>
    intro w hSw
    try dsimp only at hSw
    go_simp
    try with_reducible rfl
  try simp only [Act.put, List.setIfInBounds_toArray, List.getElem_toArray]
  refine wpAnyH_done (by kernel_rfl) ?_ _
  clear qa qx hHeld
  go_wp2_with (first | (refine wpList_load_row rfl 24 (.tmp 5) rfl w5.heap.size rfl 24 cl.toArray (0, 0) _ (unhide HQ9).1.x Try.underlying24 rfl (by rw [hcz]; exact infoL) ?_))
  refine (markL (unhide HK) (unhide HQ9).2.2.1).mono ?_
  rintro r w10 ⟨⟨km, rfl⟩, hR⟩
  have HR10 := hide (And.intro ((unhide HQ9).1.rg hR (by omega) (by omega) (Or.inr (Nat.le_refl _)) (Or.inr (by omega)) (by omega)) (And.intro ((unhide HQ9).2.1.rg hR (Or.inl (by omega))) ((unhide HQ9).2.2.2.rg hR (Or.inr (by omega)))))
  have dk : ¬ ((km : Int) < 0) := by omega
  clear hR HQ9
  go_wp2_with (first
    | (refine load_rowL (by rfl) (.agg cg) (fun K hk => wp_load_row 36 (.tmp 6) rfl w6.heap.size rfl 36 cg (0, 0) _ (unhide HR10).1.g Try.underlying36 rfl (by rw [hgz]; exact infoLo) hk) ?_)
    | (refine load_rowL (by rfl) (.agg cw) (fun K hk => wp_load_row 36 (.tmp 4) rfl w3.heap.size rfl 36 cw (0, 0) _ (unhide HR10).1.m Try.underlying36 rfl (by rw [hwz]; exact infoLo) hk) ?_))
  refine (eqG hB (unhide HR10).2.2 (unhide HR10).2.1).mono ?_
  rintro r w11 ⟨rfl, hb⟩
  have HR11 := hide (And.intro ((unhide HR10).1.step hb) (And.intro ((unhide HR10).2.1.step hb) ((unhide HR10).2.2.step hb)))
  clear hb HR10 dk
  have CK := hide fun W (h : AnG o (w5.heap.size + 1) w6.heap.size cg W) => markG hB h
  have CH := hide fun W (h : MkG o cg W) => heldG hB h
  obtain ⟨K, hK⟩ : ∃ K : Nat, 1 + o.Q.length + 4 * o.sn.length + o.gt.length = K := ⟨_, rfl⟩
  rw [hK] at CK CH
  have dK : ¬ ((K : Int) < 0) := by omega
  clear hK
  go_wp2_with (first | (refine wpList_load_row rfl 36 (.tmp 6) rfl w6.heap.size rfl 36 cg (0, 0) _ (unhide HR11).1.g Try.underlying36 rfl (by rw [hgz]; exact infoLo) ?_))
  refine (unhide CK _ (unhide HR11).2.2).mono ?_
  rintro r w12 ⟨rfl, hM, hR⟩
  have HR12 := hide (And.intro ((unhide HR11).1.rg hR (by omega) (by omega) (Or.inl (by omega)) (Or.inr (Nat.le_refl _)) (by omega)) (And.intro ((unhide HR11).2.1.rg hR (Or.inl (by omega))) hM))
  clear hM hR HR11
  go_wp2_with (first | (refine wpList_load_row rfl 36 (.tmp 6) rfl w6.heap.size rfl 36 cg (0, 0) _ (unhide HR12).1.g Try.underlying36 rfl (by rw [hgz]; exact infoLo) ?_))
  refine (unhide CH _ (unhide HR12).2.2).mono ?_
  rintro r w13 ⟨rfl, hb⟩
  have HR13 := hide (And.intro ((unhide HR12).1.step hb) (And.intro ((unhide HR12).2.1.step hb) ((unhide HR12).2.2.step hb)))
  clear hb HR12
  go_wp2_with (first | (refine wpList_load_row rfl 29 (.tmp 1) rfl A rfl 29 ca.toArray (0, 0) _ (unhide HR13).1.a Try.underlying29 rfl (by rw [hsz]; exact infoLL) ?_))
  refine (unhide CT _ (unhide HR13).1.b).mono ?_
  rintro r w14 ⟨ch, rfl, hD14, hb⟩
  have HR14 := hide (And.intro ((unhide HR13).1.step hb) (And.intro ((unhide HR13).2.1.step hb) (And.intro ((unhide HR13).2.2.step hb) hD14)))
  clear hb hD14 HR13
  go_wp2_with fail
  refine (unhide CI _ _ _ _ (unhide HR14).1.b (unhide HR14).2.2.2).mono ?_
  rintro r w15 ⟨ch2, rfl, hH15, hb, hhz, hha⟩
  have hn15 := setRow_heap (w15.alloc (.cells loZ 36)) w15.heap.size loZ ch2 36 (0, 0) (heap_alloc_new w15 _)
  have hb16 : Below w15.heap.size w15 ((w15.alloc (.cells loZ 36)).setRow w15.heap.size ch2) := below_rowL ((Below.refl _ _).alloc (Nat.le_refl _) _) (Nat.le_refl _) _
  have hb2 := hb.trans (hb16.mono hb.size)
  have HR16 := hide (And.intro ((unhide HR14).1.step hb2) (And.intro ((unhide HR14).2.1.step hb2) (And.intro ((unhide HR14).2.2.1.step hb2) (And.intro (hH15.step hb16) hn15))))
  clear hb hb16 hb2 hn15 hH15 HR14
  go_wp2_with (first
    | (refine wpList_store_rowTo rfl 36 (.tmp 10) (.tmp 56) rfl rfl w15.heap.size ch2 rfl rfl 36 loZ (heap_alloc_new w15 _) (by rw [hhz]; exact infoLo) (by rw [hhz]; rfl) hha ?_)
    | (refine wpList_load_row rfl 36 (.tmp 10) rfl w15.heap.size rfl 36 ch2 (0, 0) _ (unhide HR16).2.2.2.2 Try.underlying36 rfl (by rw [hhz]; exact infoLo) ?_)
    | (refine wpList_load_row rfl 36 (.tmp 4) rfl w3.heap.size rfl 36 cw (0, 0) _ (unhide HR16).1.m Try.underlying36 rfl (by rw [hwz]; exact infoLo) ?_))
  refine (eqG hB (unhide HR16).2.2.2.1 (unhide HR16).2.1).mono ?_
  rintro r w17 ⟨rfl, hb⟩
  have HR17 := hide (And.intro ((unhide HR16).1.step hb) ((unhide HR16).2.2.1.step hb))
  clear hb HR16
  go_wp2_with (first | (refine wpList_load_row rfl 36 (.tmp 6) rfl w6.heap.size rfl 36 cg (0, 0) _ (unhide HR17).1.g Try.underlying36 rfl (by rw [hgz]; exact infoLo) ?_))
  refine (unhide CH _ (unhide HR17).2).mono ?_
  rintro r w18 ⟨rfl, hb⟩
  have HR18 := hide ((unhide HR17).1.step hb).b
  clear hb HR17
  go_wp2
  go_ret
  exact ⟨rfl, unhide HR18⟩
end Go.Proofs.Ytckebgalfomonaa
