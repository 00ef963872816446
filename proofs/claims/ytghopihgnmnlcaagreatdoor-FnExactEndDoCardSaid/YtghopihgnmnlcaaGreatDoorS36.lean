/- The law FnExactEndDo walked: it returns true, and what lay in memory stands. -/
import Derived.Test.YtghopihgnmnlcaaGreatDoorS35
import Derived.Test.YtghopihgnmnlcaaGreatDoorS32
namespace Go.Proofs.YtghopihgnmnlcaaGreatDoor
open Go.RowKit
theorem load_rowG {ops : Array Oper} {rest : List Oper} {o : Oper} {a : Act} {w : World} {Q : Exit → Act → World → Prop} (hw : Region.wanted o (yielded ops a.tmps) = true) (v : Value) (hrun : ∀ K : Act → World → Prop, K (a.put o.dst v) w → o.wp Tryz.prog a w K Q)
    (h : wpList Tryz.prog ops Q rest (a.put o.dst v) w) : wpList Tryz.prog ops Q (o :: rest) a w :=
  wpList_step fun K hK => by rw [if_pos hw]; exact hrun K (hK _ _ h)
theorem size_put (w : World) (o : Obj) (g : Nat) (cs : Array Value) : ((w.alloc o).setRow g cs).heap.size = w.heap.size + 1 := by
  unfold World.setRow
  simp
theorem eoErr_len (k : Int) : EoB (eoErr k) := ⟨Nat.zero_le _, Nat.zero_le _, Nat.zero_le _, Nat.zero_le _⟩
theorem evF_len {c : Cx} {s : St} {t : ByteArray} (hf : Fit 0 c s) (hl : (fsmF s.e.st t).2.1.length ≤ 30) : EoB (evF c s t) := by
  unfold evF
  generalize fsmF s.e.st t = R at *
  obtain ⟨st, A, cd⟩ := R
  dsimp only at hl ⊢
  split
  · have h := hf.fold A A.length
    rw [List.take_length] at h
    have l20 : ∀ F, opOk F = true → F.length ≤ 100000 := fun F hF => by
      have := opOk_right hF
      unfold Op.right at this
      rw [Bool.and_eq_true] at this
      have := of_decide_eq_true this.1
      omega
    exact ⟨l20 _ h.f1, l20 _ h.f2, Nat.le_trans h.sn (by omega), Nat.le_trans h.tl (by omega)⟩
  · exact eoErr_len _
theorem tickF_len (e : En) (F1 F2 : List Op.Opt) (now : Int) : EoB (tickF e F1 F2 now) := by
  unfold tickF
  split
  · rename_i h
    obtain ⟨hf, hs, _⟩ := fit0 h
    split
    · exact eoErr_len _
    split
    · exact evF_len hf (fsm6 (i := 4) (by decide) rfl hs.1 hs.2).2
    · exact evF_len hf (fsm6 (i := 5) (by decide) rfl hs.1 hs.2).2
  · exact eoErr_len _
theorem infoLE : (Tryz.prog.info? 51).map (·.size) = some 30 := by kernel_rfl
theorem rangeRow {W : World} {E : Nat} {cl : List Value} {T : TypeId} (h : W.heap[E]? = some (.cells cl.toArray T)) : W.rangeAt E 0 cl := by
  intro j u hu
  rw [cell_of_row _ _ _ _ _ _ h, Nat.zero_add, List.getElem?_toArray]
  exact hu
/-- What the law has laid. -/
structure LI (w : World) (ca cl : List Value) (cw cg : Array Value) (A bw bx bg : Nat) (q : World) : Prop where
  a : q.heap[A]? = some (.cells ca.toArray 51)
  m : q.heap[bw]? = some (.cells cw 42)
  x : q.heap[bx]? = some (.cells cl.toArray 29)
  g : q.heap[bg]? = some (.cells cg 42)
  b : Below w.heap.size w q
theorem LI.step {w : World} {ca cl : List Value} {cw cg : Array Value} {A bw bx bg : Nat} {q q' : World} (h : LI w ca cl cw cg A bw bx bg q) (hb : Below q.heap.size q q') : LI w ca cl cw cg A bw bx bg q' :=
  ⟨(hb.block _ (Array.getElem?_eq_some_iff.1 h.a).1).trans h.a, (hb.block _ (Array.getElem?_eq_some_iff.1 h.m).1).trans h.m, (hb.block _ (Array.getElem?_eq_some_iff.1 h.x).1).trans h.x, (hb.block _ (Array.getElem?_eq_some_iff.1 h.g).1).trans h.g, h.b.trans (hb.mono h.b.size)⟩
theorem LI.rg {w : World} {ca cl : List Value} {cw cg : Array Value} {A bw bx bg lo hi : Nat} {q q' : World} (h : LI w ca cl cw cg A bw bx bg q) (hr : Rg lo hi q q') (ha : A < lo) (hw : bw < lo) (hx : bx < lo ∨ hi ≤ bx) (hg : bg < lo ∨ hi ≤ bg) (hlo : w.heap.size ≤ lo) : LI w ca cl cw cg A bw bx bg q' :=
  ⟨(hr.block _ (Array.getElem?_eq_some_iff.1 h.a).1 (fun e => by omega)).trans h.a, (hr.block _ (Array.getElem?_eq_some_iff.1 h.m).1 (fun e => by omega)).trans h.m, (hr.block _ (Array.getElem?_eq_some_iff.1 h.x).1 (fun e => by omega)).trans h.x, (hr.block _ (Array.getElem?_eq_some_iff.1 h.g).1 (fun e => by omega)).trans h.g, hr.below h.b hlo (Nat.le_refl _)⟩
set_option maxHeartbeats 16000000 in
set_option maxRecDepth 100000 in
theorem lawDo (e : En) (x1 x2 : Option Addr) (y1 y2 : Nat) (F1 F2 : List Op.Opt) (t : ByteArray) (now : Int) (w : World) (l1 : F1.length ≤ maxLen) (l2 : F2.length ≤ maxLen)
    (h1 : ArgO w (.slice x1 F1.length y1) F1) (h2 : ArgO w (.slice x2 F2.length y2) F2) (hEv : EvT w) (hNx : NxT w) (hSp : SpT w) :
    Calls Tryz.prog 4 #[.agg (enC e (.slice x1 F1.length y1) (.slice x2 F2.length y2)), .string t, .int .i64 now] w fun r w' => r = .returned (.bool true) ∧ Below w.heap.size w w' := by
  obtain ⟨ca, hca⟩ : ∃ ca : List Value, enC e (.slice x1 F1.length y1) (.slice x2 F2.length y2) = ca.toArray := ⟨_, rfl⟩
  have la : ca.length = 30 := by rw [← List.size_toArray, ← hca]; rfl
  have hsz : ca.toArray.size = 30 := by rw [List.size_toArray]; exact la
  have C0 : Hid (∀ W, Below w.heap.size w W → Calls Tryz.prog 17 #[.agg ca.toArray, .int .i64 1048576] W fun r w' => ∃ z : Int, r = .returned (.int .i64 z) ∧ (z = -1 ∨ (F1.length ≤ 1048576 ∧ F2.length ≤ 1048576 ∧ ∃ m : Nat, z = (m : Int) ∧ m ≤ 1048576)) ∧ Below W.heap.size W w') :=
    hide fun W hb => by rw [← hca]; exact szEndE e x1 x2 y1 y2 F1 F2 W l1 l2 (h1.below hb) (h2.below hb)
  have CT : Hid (F1.length ≤ 1048576 → F2.length ≤ 1048576 → ∀ W, Below w.heap.size w W → Calls Tryz.prog 18 #[.agg ca.toArray] W fun r w' => ∃ cl : List Value, r = .returned (.agg cl.toArray) ∧ ToX e F1 F2 W.heap.size w'.heap.size cl w' ∧ Below W.heap.size W w') :=
    hide fun k1 k2 W hb => by rw [← hca]; exact toX e x1 x2 y1 y2 F1 F2 W k1 k2 (h1.below hb) (h2.below hb)
  have CS : Hid (F1.length ≤ 1048576 → F2.length ≤ 1048576 → ∀ cl lo hi W, ToX e F1 F2 lo hi cl W → Calls Tryz.prog 12 #[.agg cl.toArray, .string t, .int .i64 now] W fun r w' => ∃ cs, r = .returned (.agg cs) ∧ AnD (doF e F1 F2 t now) W.heap.size w'.heap.size cs w' ∧ Below W.heap.size W w' ∧ cs.size = 33 ∧ cs.all (·.oneCell') = true) :=
    hide fun k1 k2 cl lo hi W h => by
      obtain ⟨u1, z1, u2, z2, rfl, p1, p2, _⟩ := h
      refine (sEndDo e u1 u2 z1 z2 F1 F2 t now W k1 k2 p1 p2).mono ?_
      rintro r w' hE
      obtain ⟨v1, v2, vs, vt, rfl, hE'⟩ := hE
      exact ⟨_, rfl, AnD.of ⟨v1, v2, vs, vt, rfl, hE'⟩⟩
  have CI : Hid (F1.length ≤ 1048576 → F2.length ≤ 1048576 → ∀ cl lo hi W, Below w.heap.size w W → ToX e F1 F2 lo hi cl W → Calls Tryz.prog 11 #[.agg cl.toArray, .string t, .int .i64 now] W fun r w' => ∃ cs, r = .returned (.agg cs) ∧ AnD (doF e F1 F2 t now) W.heap.size w'.heap.size cs w' ∧ Below W.heap.size W w' ∧ cs.size = 33 ∧ cs.all (·.oneCell') = true) :=
    hide fun k1 k2 cl lo hi W hb h => by
      obtain ⟨u1, z1, u2, z2, rfl, p1, p2, _⟩ := h
      refine (iEndDo e u1 u2 z1 z2 F1 F2 t now W k1 k2 p1 p2 (hEv.below hb) (hNx.below hb) (hSp.below hb)).mono ?_
      rintro r w' hE
      obtain ⟨v1, v2, vs, vt, rfl, hE'⟩ := hE
      exact ⟨_, rfl, AnD.of ⟨v1, v2, vs, vt, rfl, hE'⟩⟩
  have hB : EoB (doF e F1 F2 t now) := doF_len e F1 F2 t now eoErr_len (fun _ _ hf hl => evF_len hf hl)
  rw [hca]
  obtain ⟨A, eA⟩ : ∃ A, w.heap.size = A := ⟨_, rfl⟩
  have hA := heap_alloc_new w (.cells ca.toArray 51)
  have hbA : Below w.heap.size w (w.alloc (.cells ca.toArray 51)) := (Below.refl _ _).alloc (Nat.le_refl _) _
  rw [eA] at hA
  have H0 := hide (And.intro hA hbA)
  clear h1 h2 l1 l2 hA hbA hca
  generalize doF e F1 F2 t now = o at *
  go_enter Tryz.func4, Tryz.ntmps4
  by_cases hts : 1048576 < t.size
  · have ht2 : (1048576 : Int) < (t.size : Int) := by omega
    go_wp2
    go_ret
    exact ⟨rfl, (unhide H0).2⟩
  have ht2 : ¬ ((1048576 : Int) < (t.size : Int)) := by omega
  go_wp2_with (first | (refine wpList_load_row rfl 51 (.tmp 3) rfl A rfl 51 ca.toArray (0, 0) _ (unhide H0).1 Tryz.underlying51 rfl (by rw [hsz]; exact infoLE) ?_))
  refine (unhide C0 _ (unhide H0).2).mono ?_
  rintro r w1 ⟨z, rfl, hz, hb1⟩
  have hr1 := (hb1.block A (Array.getElem?_eq_some_iff.1 (unhide H0).1).1).trans (unhide H0).1
  have H1 := hide (And.intro hr1 ((unhide H0).2.trans (hb1.mono (unhide H0).2.size)))
  clear hr1 hb1 H0
  by_cases hz0 : z < 0
  · go_wp2
    go_ret
    exact ⟨rfl, (unhide H1).2⟩
  obtain ⟨k1, k2, _⟩ := hz.resolve_left (by omega)
  replace CT := hide (unhide CT k1 k2)
  replace CS := hide (unhide CS k1 k2)
  replace CI := hide (unhide CI k1 k2)
  have HK := hide (And.intro k1 k2)
  clear C0 hz k1 k2
  go_wp2_with (first | (refine wpList_load_row rfl 51 (.tmp 3) rfl A rfl 51 ca.toArray (0, 0) _ (unhide H1).1 Tryz.underlying51 rfl (by rw [hsz]; exact infoLE) ?_))
  refine (unhide CT _ (unhide H1).2).mono ?_
  rintro r w2 ⟨cl0, rfl, hD2, hb2⟩
  have hr2 := (hb2.block A (Array.getElem?_eq_some_iff.1 (unhide H1).1).1).trans (unhide H1).1
  have H2 := hide (And.intro hr2 ((unhide H1).2.trans (hb2.mono (unhide H1).2.size)))
  clear hr2 hb2 H1
  go_wp2_with fail
  refine (unhide CS _ _ _ _ hD2).mono ?_
  rintro r w3 ⟨cw, rfl, hW3, hb3, hwz, hwa⟩
  clear hD2 CS
  -- the model's answer is stored
  have hn3 := setRow_heap (w3.alloc (.cells eoZ 42)) w3.heap.size eoZ cw 42 (0, 0) (heap_alloc_new w3 _)
  have hb4 : Below w3.heap.size w3 ((w3.alloc (.cells eoZ 42)).setRow w3.heap.size cw) := below_row ((Below.refl _ _).alloc (Nat.le_refl _) _) (Nat.le_refl _) _
  have hr3 := (hb3.block A (Array.getElem?_eq_some_iff.1 (unhide H2).1).1).trans (unhide H2).1
  have hl3 := (unhide H2).2.trans (hb3.mono (unhide H2).2.size)
  have hA3 : A < w3.heap.size := (Array.getElem?_eq_some_iff.1 hr3).1
  have H4 := hide (And.intro ((hb4.block A hA3).trans hr3) (And.intro hn3 (And.intro (hW3.step hb4) (hl3.trans (hb4.mono hl3.size)))))
  have hw2 := hb3.size
  clear hn3 hb4 hr3 hl3 hb3 hW3 H2
  go_wp2_with (first
    | (refine wpList_store_rowTo rfl 42 (.tmp 8) (.tmp 27) rfl rfl w3.heap.size cw rfl rfl 42 eoZ (heap_alloc_new w3 _) (by rw [hwz]; exact infoEo) (by rw [hwz]; rfl) hwa ?_)
    | (refine wpList_load_row rfl 51 (.tmp 3) rfl A rfl 51 ca.toArray (0, 0) _ (unhide H4).1 Tryz.underlying51 rfl (by rw [hsz]; exact infoLE) ?_))
  refine (unhide CT _ (unhide H4).2.2.2).mono ?_
  rintro r w5 ⟨cl, rfl, hD5, hb5⟩
  have lc := hD5.len
  have hcz : cl.toArray.size = 30 := by rw [List.size_toArray]; exact lc
  have hca1 := hD5.one
  have hs4 : ((w3.alloc (.cells eoZ 42)).setRow w3.heap.size cw).heap.size = w3.heap.size + 1 := size_put _ _ _ _
  have hs5 := hb5.size
  rw [hs4] at hs5
  have hn5 := setRow_heap (w5.alloc (.cells enZ 29)) w5.heap.size enZ cl.toArray 29 (0, 0) (heap_alloc_new w5 _)
  have hb6 : Below w5.heap.size w5 ((w5.alloc (.cells enZ 29)).setRow w5.heap.size cl.toArray) := below_row ((Below.refl _ _).alloc (Nat.le_refl _) _) (Nat.le_refl _) _
  have hb56 := hb5.trans (hb6.mono hb5.size)
  have H6 := hide (And.intro ((hb56.block A (by rw [hs4]; omega)).trans (unhide H4).1) (And.intro ((hb56.block w3.heap.size (by rw [hs4]; omega)).trans (unhide H4).2.1) (And.intro ((unhide H4).2.2.1.step hb56) (And.intro ((unhide H4).2.2.2.trans (hb56.mono (unhide H4).2.2.2.size)) (And.intro hn5 (hD5.step hb6))))))
  have hs6 : ((w5.alloc (.cells enZ 29)).setRow w5.heap.size cl.toArray).heap.size = w5.heap.size + 1 := size_put _ _ _ _
  clear hn5 hb6 hb56 hD5 hb5 H4
  go_wp2_with (first
    | (refine wpList_store_rowTo rfl 29 (.tmp 9) (.tmp 29) rfl rfl w5.heap.size cl.toArray rfl rfl 29 enZ (heap_alloc_new w5 _) (by rw [hcz]; exact infoE) (by rw [hcz]; rfl) hca1 ?_)
    | (refine wpList_load_row rfl 29 (.tmp 9) rfl w5.heap.size rfl 29 cl.toArray (0, 0) _ (unhide H6).2.2.2.2.1 Tryz.underlying29 rfl (by rw [hcz]; exact infoE) ?_))
  refine (unhide CI _ _ _ _ (unhide H6).2.2.2.1 (unhide H6).2.2.2.2.2).mono ?_
  rintro r w6 ⟨cg, rfl, hG6, hb7, hgz, hga⟩
  have hs7 := hb7.size
  rw [hs6] at hs7 hG6
  have hn7 := setRow_heap (w6.alloc (.cells eoZ 42)) w6.heap.size eoZ cg 42 (0, 0) (heap_alloc_new w6 _)
  have hb8 : Below w6.heap.size w6 ((w6.alloc (.cells eoZ 42)).setRow w6.heap.size cg) := below_row ((Below.refl _ _).alloc (Nat.le_refl _) _) (Nat.le_refl _) _
  have hb78 := hb7.trans (hb8.mono hb7.size)
  have HI : Hid (LI w ca cl cw cg A w3.heap.size w5.heap.size w6.heap.size ((w6.alloc (.cells eoZ 42)).setRow w6.heap.size cg) ∧ AnD o w2.heap.size w3.heap.size cw ((w6.alloc (.cells eoZ 42)).setRow w6.heap.size cg) ∧ ToX e F1 F2 (w3.heap.size + 1) w5.heap.size cl ((w6.alloc (.cells eoZ 42)).setRow w6.heap.size cg) ∧ AnD o (w5.heap.size + 1) w6.heap.size cg ((w6.alloc (.cells eoZ 42)).setRow w6.heap.size cg)) := by
    obtain ⟨q1, q2, q3, q4, q5, q6⟩ := unhide H6
    rw [hs4] at q6
    exact hide ⟨⟨(hb78.block A (by rw [hs6]; omega)).trans q1, (hb78.block _ (by rw [hs6]; omega)).trans q2, (hb78.block _ (by rw [hs6]; omega)).trans q5, hn7, q4.trans (hb78.mono q4.size)⟩, q3.step hb78, q6.step hb78, hG6.step hb8⟩
  clear hn7 hb8 hb78 hb7 hG6 H6 hs6 hs4
  go_wp2_with (first
    | (refine wpList_store_rowTo rfl 42 (.tmp 10) (.tmp 33) rfl rfl w6.heap.size cg rfl rfl 42 eoZ (heap_alloc_new w6 _) (by rw [hgz]; exact infoEo) (by rw [hgz]; rfl) hga ?_)
    | (refine wpList_load_row rfl 42 (.tmp 10) rfl w6.heap.size rfl 42 cg (0, 0) _ (unhide HI).1.g Tryz.underlying42 rfl (by rw [hgz]; exact infoEo) ?_)
    | (refine wpList_load_row rfl 42 (.tmp 8) rfl w3.heap.size rfl 42 cw (0, 0) _ (unhide HI).1.m Tryz.underlying42 rfl (by rw [hwz]; exact infoEo) ?_))
  refine (eqD hB (unhide HI).2.2.2 (unhide HI).2.1).mono ?_
  rintro r w7 ⟨rfl, hb⟩
  have HI7 := hide (And.intro ((unhide HI).1.step hb) (And.intro ((unhide HI).2.1.step hb) (And.intro ((unhide HI).2.2.1.step hb) ((unhide HI).2.2.2.step hb))))
  clear hb HI
  go_upto_region 12 with fail
  refine gen_world (fun q => LI w ca cl cw cg A w3.heap.size w5.heap.size w6.heap.size q ∧ AnD o w2.heap.size w3.heap.size cw q ∧ ToX e F1 F2 (w3.heap.size + 1) w5.heap.size cl q ∧ AnD o (w5.heap.size + 1) w6.heap.size cg q) ?_ ?_
  · exact unhide HI7
  clear HI7
  rintro q hq
  have qa := hq.1.a
  have qx := hq.1.x
  have HQ := hide (And.intro (hq.1.step (Below.refl _ _).drew) (And.intro (hq.2.1.step (Below.refl _ _).drew) (And.intro (hq.2.2.1.step (Below.refl _ _).drew) (hq.2.2.2.step (Below.refl _ _).drew))))
  clear hq
  refine wp_region_held_drew (S := fun z => z.heap[A]? = some (.cells ca.toArray 51) ∧ z.heap[w5.heap.size]? = some (.cells cl.toArray 29)) (by kernel_rfl) ?_ (fun hHeld => ?_)
  · exact ⟨qa, qx⟩
  refine wpAnyH_take (i := 0) (v := .agg cl.toArray) rfl (by kernel_rfl) (by kernel_rfl) (by kernel_rfl) (fun _ _ _ h => h) (yieldsIf_load_mid (by rfl) 29 (.tmp 9) rfl w5.heap.size 0 rfl cl _ (fun z hz => rangeRow hz.2) Tryz.underlying29 rfl (by rw [lc]; exact infoE)) (by assumption) ?_
  try simp only [Act.put, List.setIfInBounds_toArray, List.set_cons_zero, List.set_cons_succ, List.getElem_toArray, List.getElem_cons_zero]
  refine wpAnyH_take (i := 1) (v := .agg ca.toArray) rfl (by kernel_rfl) (by kernel_rfl) (by kernel_rfl) (fun _ _ _ h => h) (yieldsIf_load_mid (by rfl) 51 (.tmp 3) rfl A 0 rfl ca _ (fun z hz => rangeRow hz.1) Tryz.underlying51 rfl (by rw [la]; exact infoLE)) (by assumption) ?_
  try simp only [Act.put, List.setIfInBounds_toArray, List.getElem_toArray]
  refine wpAnyH_ready (rs := [2]) (by kernel_rfl) (by simp) ?_
  refine AllReadyH.cons rfl (fun K hK => ?_) AllReadyH.nil
  go_simp
  refine (unhide CT _ (unhide HQ).1.b).mono ?_
  rintro r w8 ⟨cm, rfl, hD8, hb8⟩
  have HQ8 := hide (And.intro ((unhide HQ).1.step hb8) (And.intro ((unhide HQ).2.1.step hb8) (And.intro ((unhide HQ).2.2.1.step hb8) (And.intro ((unhide HQ).2.2.2.step hb8) hD8))))
  clear hb8 hD8 HQ
  go_wp2_with fail
  refine hK.out _ _ ?_ (fun _ => ?_)
  · exact ⟨(unhide HQ8).1.a, (unhide HQ8).1.x⟩
  clear hK K
  try simp only [Act.put, List.setIfInBounds_toArray, List.set_cons_zero, List.set_cons_succ, List.getElem_toArray, List.getElem_cons_zero]
  refine wpAnyH_ready (rs := [3]) (by kernel_rfl) (by simp) ?_
  refine AllReadyH.cons rfl (fun K hK => ?_) AllReadyH.nil
  go_simp
  refine (eqX (unhide HK).1 (unhide HK).2 (unhide HQ8).2.2.1 (unhide HQ8).2.2.2.2).mono ?_
  rintro r w9 ⟨rfl, hb9⟩
  have HQ9 := hide (And.intro ((unhide HQ8).1.step hb9) (And.intro ((unhide HQ8).2.1.step hb9) (And.intro ((unhide HQ8).2.2.1.step hb9) ((unhide HQ8).2.2.2.1.step hb9))))
  clear hb9 HQ8
  go_wp2_with fail
  refine hK.out _ _ ?_ (fun _ => ?_)
  · exact ⟨(unhide HQ9).1.a, (unhide HQ9).1.x⟩
  clear hK K
  refine wpAnyH_take (i := 4) (v := ?v4) rfl (by kernel_rfl) (by kernel_rfl) (by kernel_rfl) (fun _ _ _ h => h) (Or.inl ⟨by rfl, ?hy4⟩) (by assumption) ?_
  case hy4 =>
    intro w hSw
    try dsimp only at hSw
    go_simp
    try with_reducible rfl
  try simp only [Act.put, List.setIfInBounds_toArray, List.getElem_toArray]
  refine wpAnyH_done (by kernel_rfl) ?_ _
  clear qa qx hHeld
  go_wp2_with (first | (refine wpList_load_row rfl 29 (.tmp 9) rfl w5.heap.size rfl 29 cl.toArray (0, 0) _ (unhide HQ9).1.x Tryz.underlying29 rfl (by rw [hcz]; exact infoE) ?_))
  refine (markX (unhide HK).1 (unhide HK).2 (unhide HQ9).2.2.1).mono ?_
  rintro r w10 ⟨⟨km, rfl⟩, hR⟩
  have HR10 := hide (And.intro ((unhide HQ9).1.rg hR (by omega) (by omega) (Or.inr (Nat.le_refl _)) (Or.inr (by omega)) (by omega)) (And.intro ((unhide HQ9).2.1.rg hR (Or.inl (by omega))) ((unhide HQ9).2.2.2.rg hR (Or.inr (by omega)))))
  have dk : ¬ ((km : Int) < 0) := by omega
  clear hR HQ9
  go_wp2_with (first
    | (refine load_rowG (by rfl) (.agg cg) (fun K hk => wp_load_row 42 (.tmp 10) rfl w6.heap.size rfl 42 cg (0, 0) _ (unhide HR10).1.g Tryz.underlying42 rfl (by rw [hgz]; exact infoEo) hk) ?_)
    | (refine load_rowG (by rfl) (.agg cw) (fun K hk => wp_load_row 42 (.tmp 8) rfl w3.heap.size rfl 42 cw (0, 0) _ (unhide HR10).1.m Tryz.underlying42 rfl (by rw [hwz]; exact infoEo) hk) ?_))
  refine (eqD hB (unhide HR10).2.2 (unhide HR10).2.1).mono ?_
  rintro r w11 ⟨rfl, hb⟩
  have HR11 := hide (And.intro ((unhide HR10).1.step hb) (And.intro ((unhide HR10).2.1.step hb) ((unhide HR10).2.2.step hb)))
  clear hb HR10 dk
  have CK := hide fun W (h : AnD o (w5.heap.size + 1) w6.heap.size cg W) => markD hB h
  have CH := hide fun W (h : MkD o cg W) => heldD hB h
  obtain ⟨K, hK⟩ : ∃ K : Nat, 1 + 2 * o.F1.length + 2 * o.F2.length + 3 * o.sn.length + o.tl.length = K := ⟨_, rfl⟩
  rw [hK] at CK CH
  have dK : ¬ ((K : Int) < 0) := by omega
  clear hK
  go_wp2_with (first | (refine wpList_load_row rfl 42 (.tmp 10) rfl w6.heap.size rfl 42 cg (0, 0) _ (unhide HR11).1.g Tryz.underlying42 rfl (by rw [hgz]; exact infoEo) ?_))
  refine (unhide CK _ (unhide HR11).2.2).mono ?_
  rintro r w12 ⟨rfl, hM, hR⟩
  have HR12 := hide (And.intro ((unhide HR11).1.rg hR (by omega) (by omega) (Or.inl (by omega)) (Or.inr (Nat.le_refl _)) (by omega)) (And.intro ((unhide HR11).2.1.rg hR (Or.inl (by omega))) hM))
  clear hM hR HR11
  go_wp2_with (first | (refine wpList_load_row rfl 42 (.tmp 10) rfl w6.heap.size rfl 42 cg (0, 0) _ (unhide HR12).1.g Tryz.underlying42 rfl (by rw [hgz]; exact infoEo) ?_))
  refine (unhide CH _ (unhide HR12).2.2).mono ?_
  rintro r w13 ⟨rfl, hb⟩
  have HR13 := hide (And.intro ((unhide HR12).1.step hb) (And.intro ((unhide HR12).2.1.step hb) ((unhide HR12).2.2.step hb)))
  clear hb HR12
  go_wp2_with (first | (refine wpList_load_row rfl 51 (.tmp 3) rfl A rfl 51 ca.toArray (0, 0) _ (unhide HR13).1.a Tryz.underlying51 rfl (by rw [hsz]; exact infoLE) ?_))
  refine (unhide CT _ (unhide HR13).1.b).mono ?_
  rintro r w14 ⟨ch, rfl, hD14, hb⟩
  have HR14 := hide (And.intro ((unhide HR13).1.step hb) (And.intro ((unhide HR13).2.1.step hb) (And.intro ((unhide HR13).2.2.step hb) hD14)))
  clear hb hD14 HR13
  go_wp2_with fail
  refine (unhide CI _ _ _ _ (unhide HR14).1.b (unhide HR14).2.2.2).mono ?_
  rintro r w15 ⟨ch2, rfl, hH15, hb, hhz, hha⟩
  have hn15 := setRow_heap (w15.alloc (.cells eoZ 42)) w15.heap.size eoZ ch2 42 (0, 0) (heap_alloc_new w15 _)
  have hb16 : Below w15.heap.size w15 ((w15.alloc (.cells eoZ 42)).setRow w15.heap.size ch2) := below_row ((Below.refl _ _).alloc (Nat.le_refl _) _) (Nat.le_refl _) _
  have hb2 := hb.trans (hb16.mono hb.size)
  have HR16 := hide (And.intro ((unhide HR14).1.step hb2) (And.intro ((unhide HR14).2.1.step hb2) (And.intro ((unhide HR14).2.2.1.step hb2) (And.intro (hH15.step hb16) hn15))))
  clear hb hb16 hb2 hn15 hH15 HR14
  go_wp2_with (first
    | (refine wpList_store_rowTo rfl 42 (.tmp 14) (.tmp 69) rfl rfl w15.heap.size ch2 rfl rfl 42 eoZ (heap_alloc_new w15 _) (by rw [hhz]; exact infoEo) (by rw [hhz]; rfl) hha ?_)
    | (refine wpList_load_row rfl 42 (.tmp 14) rfl w15.heap.size rfl 42 ch2 (0, 0) _ (unhide HR16).2.2.2.2 Tryz.underlying42 rfl (by rw [hhz]; exact infoEo) ?_)
    | (refine wpList_load_row rfl 42 (.tmp 8) rfl w3.heap.size rfl 42 cw (0, 0) _ (unhide HR16).1.m Tryz.underlying42 rfl (by rw [hwz]; exact infoEo) ?_))
  refine (eqD hB (unhide HR16).2.2.2.1 (unhide HR16).2.1).mono ?_
  rintro r w17 ⟨rfl, hb⟩
  have HR17 := hide (And.intro ((unhide HR16).1.step hb) ((unhide HR16).2.2.1.step hb))
  clear hb HR16
  go_wp2_with (first | (refine wpList_load_row rfl 42 (.tmp 10) rfl w6.heap.size rfl 42 cg (0, 0) _ (unhide HR17).1.g Tryz.underlying42 rfl (by rw [hgz]; exact infoEo) ?_))
  refine (unhide CH _ (unhide HR17).2).mono ?_
  rintro r w18 ⟨rfl, hb⟩
  have HR18 := hide ((unhide HR17).1.step hb).b
  clear hb HR17
  go_wp2
  go_ret
  exact ⟨rfl, unhide HR18⟩
end Go.Proofs.YtghopihgnmnlcaaGreatDoor
