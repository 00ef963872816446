/- The law FnExactBundleHear walked: it returns true, and what lay in memory stands. -/
import Derived.Test.YtcanpnbpofdpcaaBdLy
import Derived.Test.YtcanpnbpofdpcaaBdSh
import Derived.Test.YtcanpnbpofdpcaaFgTo
import Derived.Deep.DeepCutAuto
namespace Go.Proofs.Ytcanpnbpofdpcaa
open Go.RowKit
theorem rgPut (q : World) (M : Nat) (cs : Array Value) : RgL M (M + 1) q (q.setRow M cs) :=
  ⟨rfl, rfl, rfl, by unfold World.setRow; simp, fun b _ hn => setRow_other q M b cs (by omega)⟩
theorem szA (w : World) (o : Obj) : (w.alloc o).heap.size = w.heap.size + 1 := by simp
theorem szR (w : World) (g : Nat) (cs : Array Value) : (w.setRow g cs).heap.size = w.heap.size := by unfold World.setRow; simp
/-- An answer laid into a new variable, in any order of the region's operations. -/
def RRl (An : Nat → Nat → Array Value → World → Prop) (y : World) (v : Value) (q : World) : Prop :=
  ∃ M lo hi cs, v = .pointer (some ⟨M, 0, none⟩) ∧ Below y.heap.size y q ∧ y.heap.size ≤ M ∧ q.heap[M]? = some (.cells cs 39) ∧ An lo hi cs q ∧ cs.size = 5 ∧ cs.all (·.oneCell') = true ∧ y.heap.size ≤ lo ∧ hi ≤ q.heap.size ∧ (hi ≤ M ∨ M < lo)
/-- What is laid, and what lay, stands. -/
def Gd (w : World) (bl : List (Nat × Obj)) (q : World) : Prop := (∀ p ∈ bl, q.heap[p.1]? = some p.2) ∧ Below w.heap.size w q
theorem Gd.step {w q q' : World} {bl : List (Nat × Obj)} (h : Gd w bl q) (hb : Below q.heap.size q q') : Gd w bl q' :=
  ⟨fun p hp => (hb.block _ (Array.getElem?_eq_some_iff.1 (h.1 p hp)).1).trans (h.1 p hp), h.2.trans (hb.mono h.2.size)⟩
theorem Gd.cons {w q : World} {bl : List (Nat × Obj)} {g : Nat} {o : Obj} (h : Gd w bl q) (hg : q.heap[g]? = some o) : Gd w ((g, o) :: bl) q :=
  ⟨fun p hp => by rcases List.mem_cons.1 hp with rfl | hp; exact hg; exact h.1 p hp, h.2⟩
theorem Gd.at0 {w q : World} {bl : List (Nat × Obj)} {p : Nat × Obj} (h : Gd w (p :: bl) q) : q.heap[p.1]? = some p.2 := h.1 p List.mem_cons_self
theorem Gd.tl {w q : World} {bl : List (Nat × Obj)} {p : Nat × Obj} (h : Gd w (p :: bl) q) : Gd w bl q := ⟨fun x hx => h.1 x (List.mem_cons_of_mem _ hx), h.2⟩
/-- What the law has laid. -/
structure LiB (fl : List Value) (w : World) (ca cl : List Value) (cw cg : Array Value) (A bw bx bg : Nat) (q : World) : Prop where
  l : LiL w ca cl cw cg A bw bx bg q
  f : q.heap[A + 1]? = some (.cells fl.toArray 35)
theorem LiB.step {fl : List Value} {w : World} {ca cl : List Value} {cw cg : Array Value} {A bw bx bg : Nat} {q q' : World} (h : LiB fl w ca cl cw cg A bw bx bg q) (hb : Below q.heap.size q q') : LiB fl w ca cl cw cg A bw bx bg q' :=
  ⟨h.l.step hb, (hb.block _ (Array.getElem?_eq_some_iff.1 h.f).1).trans h.f⟩
theorem LiB.rg {fl : List Value} {w : World} {ca cl : List Value} {cw cg : Array Value} {A bw bx bg lo hi : Nat} {q q' : World} (h : LiB fl w ca cl cw cg A bw bx bg q) (hr : RgL lo hi q q') (ha : A + 1 < lo) (hw : bw < lo) (hx : bx < lo ∨ hi ≤ bx) (hg : bg < lo ∨ hi ≤ bg) (hlo : w.heap.size ≤ lo) : LiB fl w ca cl cw cg A bw bx bg q' :=
  ⟨h.l.rg hr (by omega) hw hx hg hlo, (hr.block _ (Array.getElem?_eq_some_iff.1 h.f).1 (fun e => by omega)).trans h.f⟩
set_option linter.unusedSimpArgs false in
set_option maxHeartbeats 64000000 in
set_option maxRecDepth 100000 in
theorem lawBh (x1 x2 : Option Addr) (y1 y2 : Nat) (L : List Int) (F : List Fg) (link : Int) (f : Fg) (w : World) (l1 : L.length ≤ maxLen) (l2 : F.length ≤ maxLen) (ht : f.text.size ≤ maxLen)
    (h1 : ArgI w (.slice x1 L.length y1) L) (h2 : ArgG w (.slice x2 F.length y2) F) :
    Calls Try.prog 4 #[.agg #[.slice x1 L.length y1, .slice x2 F.length y2], .int .i64 link, fgV f] w fun r w' => r = .returned (.bool true) ∧ Below w.heap.size w w' := by
  obtain ⟨ca, hca⟩ : ∃ ca : List Value, (#[.slice x1 L.length y1, .slice x2 F.length y2] : Array Value) = ca.toArray := ⟨_, rfl⟩
  have la : ca.length = 2 := by rw [← List.size_toArray, ← hca]; rfl
  have hsz : ca.toArray.size = 2 := by rw [List.size_toArray]; exact la
  obtain ⟨fl, hfl⟩ : ∃ fl : List Value, (#[.int .i64 f.seq, .bool f.beg, .bool f.fin, .string f.text] : Array Value) = fl.toArray := ⟨_, rfl⟩
  have lf : fl.length = 4 := by rw [← List.size_toArray, ← hfl]; rfl
  have hfz : fl.toArray.size = 4 := by rw [List.size_toArray]; exact lf
  have infoN : (Try.prog.info? 35).map (·.size) = some 4 := by kernel_rfl
  have infoL : (Try.prog.info? 30).map (·.size) = some 2 := by kernel_rfl
  have infoLo : (Try.prog.info? 39).map (·.size) = some 5 := by kernel_rfl
  have C0 : Hid (∀ W, Below w.heap.size w W → Calls Try.prog 5 #[.agg ca.toArray, .int .i64 1048576] W fun r w' => ∃ z : Int, r = .returned (.int .i64 z) ∧ (z = -1 ∨ ((L.length ≤ 1048576 ∧ F.length ≤ 1048576) ∧ ∃ m : Nat, z = (m : Int) ∧ m ≤ 1048576)) ∧ Below W.heap.size W w') :=
    hide fun W hb => by
      rw [← hca]
      refine (szBd x1 x2 y1 y2 L F W l1 l2 (h2.below hb)).mono ?_
      rintro r w' ⟨z, e1, e2, e3⟩
      exact ⟨z, e1, e2.imp id fun ⟨p1, p2, p3⟩ => ⟨⟨p1, p2⟩, p3⟩, e3⟩
  have C1 : Hid (∀ (m : Nat) W, m ≤ 1048576 → Calls Try.prog 10 #[.agg fl.toArray, .int .i64 m] W fun r w' => ∃ z : Int, r = .returned (.int .i64 z) ∧ Below W.heap.size W w') :=
    hide fun m W hm => by rw [← hfl]; exact (szFg _ _ _ _ W ht m hm).mono fun r w' h => ⟨_, h.1, h.2⟩
  have CT : Hid (L.length ≤ 1048576 ∧ F.length ≤ 1048576 → ∀ W, Below w.heap.size w W → Calls Try.prog 7 #[.agg ca.toArray] W fun r w' => ∃ cl : List Value, r = .returned (.agg cl.toArray) ∧ ToL L F W.heap.size w'.heap.size cl w' ∧ Below W.heap.size W w') :=
    hide fun k1 W hb => by rw [← hca]; exact toL x1 x2 y1 y2 L F W k1.1 k1.2 (h1.below hb) (h2.below hb)
  have CN : Hid (∀ W, Calls Try.prog 12 #[.agg fl.toArray] W fun r w' => r = .returned (.agg fl.toArray) ∧ Below W.heap.size W w') :=
    hide fun W => by rw [← hfl]; exact toFg _ _ _ _ W
  have CS : Hid (L.length ≤ 1048576 ∧ F.length ≤ 1048576 → ∀ cl lo hi W, ToL L F lo hi cl W → Calls Try.prog 11 #[.agg cl.toArray, .int .i64 link, .agg fl.toArray] W fun r w' => ∃ cs, r = .returned (.agg cs) ∧ AnM (hearB L F link f) W.heap.size w'.heap.size cs w' ∧ Below W.heap.size W w' ∧ cs.size = 5 ∧ cs.all (·.oneCell') = true) :=
    hide fun k1 cl lo hi W h => by
      obtain ⟨u1, z1, u2, z2, rfl, p1, p2, _, _, p5⟩ := h
      rw [← hfl]
      refine (sHearB u1 u2 z1 z2 L F link f W k1.1 k1.2 p1 p2.f p5).mono ?_
      rintro r w' hE
      obtain ⟨v1, v2, v3, v4, v5, v6, rfl, hE'⟩ := hE
      exact ⟨_, rfl, AnM.of ⟨v1, v2, v3, v4, v5, v6, rfl, hE'⟩⟩
  have CI : Hid (L.length ≤ 1048576 ∧ F.length ≤ 1048576 → ∀ cl lo hi W, ToL L F lo hi cl W → Calls Try.prog 13 #[.agg cl.toArray, .int .i64 link, .agg fl.toArray] W fun r w' => ∃ cs, r = .returned (.agg cs) ∧ AnG (hearB L F link f) W.heap.size w'.heap.size cs w' ∧ Below W.heap.size W w' ∧ cs.size = 5 ∧ cs.all (·.oneCell') = true) :=
    hide fun k1 cl lo hi W h => by
      obtain ⟨u1, z1, u2, z2, rfl, p1, p2, _⟩ := h
      rw [← hfl]
      refine (iHearB u1 u2 z1 z2 L F link f W k1.1 k1.2 p1 p2).mono ?_
      rintro r w' hE
      obtain ⟨v1, v2, v3, rfl, hE'⟩ := hE
      exact ⟨_, rfl, AnG.of ⟨v1, v2, v3, rfl, hE'⟩⟩
  have hB : LoB (hearB L F link f) := hearB_len L F link f
  show Calls Try.prog 4 #[.agg #[.slice x1 L.length y1, .slice x2 F.length y2], .int .i64 link, .agg #[.int .i64 f.seq, .bool f.beg, .bool f.fin, .string f.text]] w _
  rw [hca, hfl]
  obtain ⟨A, eA⟩ : ∃ A, w.heap.size = A := ⟨_, rfl⟩
  have H0 : Hid (Gd w [(A, .cells ca.toArray 25), (A + 1, .cells fl.toArray 35)] ((w.alloc (.cells ca.toArray 25)).alloc (.cells fl.toArray 35))) := by
    have b1 : Below w.heap.size w (w.alloc (.cells ca.toArray 25)) := (Below.refl _ _).alloc (Nat.le_refl _) _
    have b2 : Below (w.alloc (.cells ca.toArray 25)).heap.size (w.alloc (.cells ca.toArray 25)) ((w.alloc (.cells ca.toArray 25)).alloc (.cells fl.toArray 35)) := (Below.refl _ _).alloc (Nat.le_refl _) _
    have e1 : (w.alloc (.cells ca.toArray 25)).heap.size = A + 1 := by rw [szA, eA]
    have n1 := heap_alloc_new w (.cells ca.toArray 25)
    have n2 := heap_alloc_new (w.alloc (.cells ca.toArray 25)) (.cells fl.toArray 35)
    rw [eA] at n1
    rw [e1] at n2
    have g0 : Gd w [] (w.alloc (.cells ca.toArray 25)) := ⟨fun p hp => (List.not_mem_nil hp).elim, b1⟩
    have g1 := (g0.cons n1).step b2
    have gn : Gd w [] ((w.alloc (.cells ca.toArray 25)).alloc (.cells fl.toArray 35)) := ⟨fun p hp => (List.not_mem_nil hp).elim, g1.2⟩
    exact hide ((gn.cons n2).cons g1.at0)
  clear h1 h2 l1 l2 ht hca hfl
  generalize hearB L F link f = o at *
  go_enter Try.func4, Try.ntmps4
  go_wp2_with (first | (refine wpList_load_row rfl 25 (.tmp 3) rfl A rfl 25 ca.toArray (0, 0) _ (unhide H0).at0 Try.underlying25 rfl (by rw [hsz]; exact infoLL) ?_))
  refine (unhide C0 _ (unhide H0).2).mono ?_
  rintro r w1 ⟨z, rfl, hz, hb1⟩
  have H1 := hide ((unhide H0).step hb1)
  clear hb1 H0
  by_cases hz0 : z < 0
  · go_wp2
    go_ret
    exact ⟨rfl, (unhide H1).2⟩
  obtain ⟨k1, m, rfl, hm⟩ := hz.resolve_left (by omega)
  replace CT := hide (unhide CT k1)
  replace CS := hide (unhide CS k1)
  replace CI := hide (unhide CI k1)
  have HK := hide k1
  clear C0 hz k1
  go_wp2_with (first | (refine wpList_load_row rfl 35 (.tmp 5) rfl (A + 1) rfl 35 fl.toArray (0, 0) _ (unhide H1).tl.at0 Try.underlying35 rfl (by rw [hfz]; exact infoN) ?_))
  refine (unhide C1 m _ hm).mono ?_
  rintro r w2 ⟨z2, rfl, hb2⟩
  have H2 := hide ((unhide H1).step hb2)
  clear hb2 H1 C1 hz0 hm
  by_cases hz2 : z2 < 0
  · go_wp2
    go_ret
    exact ⟨rfl, (unhide H2).2⟩
  go_upto_region 8 with fail
  go_cut [8] (fun v wx => RRl (AnM o) w2 v wx)
  case first =>
    have G0 := H2
    refine wp_region_held_drew (S := fun z => z.heap[A]? = some (.cells ca.toArray 25) ∧ z.heap[A + 1]? = some (.cells fl.toArray 35)) (by kernel_rfl) ?_ (fun hHeld => ?_)
    · have g := unhide G0
      exact ⟨g.at0, g.tl.at0⟩
    have BZ := hide ((Below.refl w2.heap.size w2).drew)
    generalize w2.drew = y at BZ hHeld ⊢
    refine wpAnyH_take (i := 0) (v := .agg ca.toArray) rfl (by kernel_rfl) (by kernel_rfl) (by kernel_rfl) (fun _ _ _ h => h) (yieldsIf_load_mid (by rfl) 25 (.tmp 3) rfl A 0 rfl ca _ (fun z hz => rangeRowL hz.1) Try.underlying25 rfl (by rw [la]; exact infoLL)) (by assumption) ?_
    try simp only [Act.put, List.setIfInBounds_toArray, List.set_cons_zero, List.set_cons_succ, List.getElem_toArray, List.getElem_cons_zero, List.getElem_cons_succ]
    refine wpAnyH_take (i := 2) (v := ?vma2) rfl (by kernel_rfl) (by kernel_rfl) (by kernel_rfl) (fun _ _ _ h => h) (Or.inl ⟨by rfl, ?hyma2⟩) (by assumption) ?_
    case hyma2 =>
      intro w hSw
      try dsimp only at hSw
      go_simp
      try with_reducible rfl
    try simp only [Act.put, List.setIfInBounds_toArray, List.set_cons_zero, List.set_cons_succ, List.getElem_toArray, List.getElem_cons_zero, List.getElem_cons_succ]
    refine wpAnyH_take (i := 3) (v := .agg fl.toArray) rfl (by kernel_rfl) (by kernel_rfl) (by kernel_rfl) (fun _ _ _ h => h) (yieldsIf_load_mid (by rfl) 35 (.tmp 5) rfl (A + 1) 0 rfl fl _ (fun z hz => rangeRowL hz.2) Try.underlying35 rfl (by rw [lf]; exact infoN)) (by assumption) ?_
    try simp only [Act.put, List.setIfInBounds_toArray, List.set_cons_zero, List.set_cons_succ, List.getElem_toArray, List.getElem_cons_zero, List.getElem_cons_succ]
    clear hHeld
    refine wpAnyH_ready (rs := [1, 6]) (by kernel_rfl) (by simp) ?_
    refine AllReadyH.cons rfl (fun K hK => ?_) (AllReadyH.cons rfl (fun K hK => ?_) (AllReadyH.nil))
    · go_simp
      refine (unhide CT _ ((unhide G0).step (unhide BZ)).2).mono ?_
      rintro r u1 ⟨cl1, rfl, hT1, hb1⟩
      have T1 := hide hT1
      clear hT1
      have z1 := hb1.size
      have BZ1 := hide ((unhide BZ).trans (hb1.mono (unhide BZ).size))
      clear hb1
      go_wp2_with fail
      refine hK.out _ _ ?_ (fun _ => ?_)
      · have g := (unhide G0).step (unhide BZ1)
        exact ⟨g.at0, g.tl.at0⟩
      clear hK K
      try simp only [Act.put, List.setIfInBounds_toArray, List.set_cons_zero, List.set_cons_succ, List.getElem_toArray, List.getElem_cons_zero, List.getElem_cons_succ]
      refine wpAnyH_ready (rs := [4, 6]) (by kernel_rfl) (by simp) ?_
      refine AllReadyH.cons rfl (fun K hK => ?_) (AllReadyH.cons rfl (fun K hK => ?_) (AllReadyH.nil))
      · go_simp
        refine (unhide CN _).mono ?_
        rintro r u2 ⟨rfl, hb2⟩
        have T2 := hide ((unhide T1).step hb2)
        have z2 := hb2.size
        have BZ2 := hide ((unhide BZ1).trans (hb2.mono (unhide BZ1).size))
        clear hb2
        go_wp2_with fail
        refine hK.out _ _ ?_ (fun _ => ?_)
        · have g := (unhide G0).step (unhide BZ2)
          exact ⟨g.at0, g.tl.at0⟩
        clear hK K
        try simp only [Act.put, List.setIfInBounds_toArray, List.set_cons_zero, List.set_cons_succ, List.getElem_toArray, List.getElem_cons_zero, List.getElem_cons_succ]
        refine wpAnyH_ready (rs := [5, 6]) (by kernel_rfl) (by simp) ?_
        refine AllReadyH.cons rfl (fun K hK => ?_) (AllReadyH.cons rfl (fun K hK => ?_) (AllReadyH.nil))
        · go_simp
          refine (unhide CS _ _ _ _ (unhide T2)).mono ?_
          rintro r u3 ⟨cs, rfl, hW3, hb3, hcs, hca9⟩
          have AN3 := hide hW3
          clear hW3
          have z3 := hb3.size
          have BZ3 := hide ((unhide BZ2).trans (hb3.mono (unhide BZ2).size))
          clear hb3
          go_wp2_with fail
          refine hK.out _ _ ?_ (fun _ => ?_)
          · have g := (unhide G0).step (unhide BZ3)
            exact ⟨g.at0, g.tl.at0⟩
          clear hK K
          try simp only [Act.put, List.setIfInBounds_toArray, List.set_cons_zero, List.set_cons_succ, List.getElem_toArray, List.getElem_cons_zero, List.getElem_cons_succ]
          refine wpAnyH_ready (rs := [6]) (by kernel_rfl) (by simp) ?_
          refine AllReadyH.cons rfl (fun K hK => ?_) (AllReadyH.nil)
          go_simp
          have HM4 := hide (heap_alloc_new u3 (.cells loZ 39))
          have BZ4 := hide ((unhide BZ3).alloc (unhide BZ3).size (.cells loZ 39))
          have hn4 : Below u3.heap.size u3 (u3.alloc (.cells loZ 39)) := (Below.refl _ _).alloc (Nat.le_refl _) _
          have z4 : (u3.alloc (.cells loZ 39)).heap.size = u3.heap.size + 1 := szA _ _
          have zl4 : (u3.alloc (.cells #[.slice none 0 0, .slice none 0 0, .slice none 0 0, .int .i64 0, .int .i64 0] 39)).heap.size = u3.heap.size + 1 := szA _ _
          have AN4 := hide ((unhide AN3).step hn4)
          clear hn4
          refine hK.out _ _ ?_ (fun _ => ?_)
          · have g := (unhide G0).step (unhide BZ4)
            exact ⟨g.at0, g.tl.at0⟩
          clear hK K
          try simp only [Act.put, List.setIfInBounds_toArray, List.set_cons_zero, List.set_cons_succ, List.getElem_toArray, List.getElem_cons_zero, List.getElem_cons_succ]
          refine wpAnyH_ready (rs := [7]) (by kernel_rfl) (by simp) ?_
          refine AllReadyH.cons rfl (fun K hK => ?_) AllReadyH.nil
          refine if_in (by rfl) ?_
          refine wp_store_row 39 (.tmp 8) (.tmp 30) rfl u3.heap.size cs rfl rfl 39 loZ (unhide HM4) (by rw [hcs]; exact infoLo) (by rw [hcs]; rfl) hca9 ?_
          have hMy : w2.heap.size ≤ u3.heap.size := by have := (unhide BZ).size; omega
          have BZe := hide (below_rowL (unhide BZ4) hMy cs)
          refine hK.out _ _ ?_ (fun _ => ?_)
          · have g := (unhide G0).step (unhide BZe)
            exact ⟨g.at0, g.tl.at0⟩
          clear hK K
          try simp only [Act.put, List.setIfInBounds_toArray, List.set_cons_zero, List.set_cons_succ, List.getElem_toArray, List.getElem_cons_zero, List.getElem_cons_succ]
          refine wpAnyH_done (by kernel_rfl) ?_ _
          go_wp2_with fail
          go_meet
          have hoM : u3.heap.size ≤ u3.heap.size ∨ u3.heap.size + 1 ≤ u2.heap.size := by omega
          exact ⟨u3.heap.size, u2.heap.size, u3.heap.size, cs, rfl, unhide BZe, hMy, setRow_heap _ _ loZ cs 39 (0, 0) (unhide HM4), (unhide AN4).rg (rgPut _ _ _) hoM, hcs, hca9, by have := (unhide BZ).size; omega, by rw [szR]; omega, by omega⟩
        · go_simp
          have HM5 := hide (heap_alloc_new u2 (.cells loZ 39))
          have BZ5 := hide ((unhide BZ2).alloc (unhide BZ2).size (.cells loZ 39))
          have hn5 : Below u2.heap.size u2 (u2.alloc (.cells loZ 39)) := (Below.refl _ _).alloc (Nat.le_refl _) _
          have z5 : (u2.alloc (.cells loZ 39)).heap.size = u2.heap.size + 1 := szA _ _
          have zl5 : (u2.alloc (.cells #[.slice none 0 0, .slice none 0 0, .slice none 0 0, .int .i64 0, .int .i64 0] 39)).heap.size = u2.heap.size + 1 := szA _ _
          have T5 := hide ((unhide T2).step hn5)
          clear hn5
          refine hK.out _ _ ?_ (fun _ => ?_)
          · have g := (unhide G0).step (unhide BZ5)
            exact ⟨g.at0, g.tl.at0⟩
          clear hK K
          try simp only [Act.put, List.setIfInBounds_toArray, List.set_cons_zero, List.set_cons_succ, List.getElem_toArray, List.getElem_cons_zero, List.getElem_cons_succ]
          refine wpAnyH_ready (rs := [5]) (by kernel_rfl) (by simp) ?_
          refine AllReadyH.cons rfl (fun K hK => ?_) (AllReadyH.nil)
          go_simp
          refine (unhide CS _ _ _ _ (unhide T5)).mono ?_
          rintro r u6 ⟨cs, rfl, hW6, hb6, hcs, hca9⟩
          have AN6 := hide hW6
          clear hW6
          have z6 := hb6.size
          have BZ6 := hide ((unhide BZ5).trans (hb6.mono (unhide BZ5).size))
          have HM6 := hide ((hb6.block _ (Array.getElem?_eq_some_iff.1 (unhide HM5)).1).trans (unhide HM5))
          clear hb6
          go_wp2_with fail
          refine hK.out _ _ ?_ (fun _ => ?_)
          · have g := (unhide G0).step (unhide BZ6)
            exact ⟨g.at0, g.tl.at0⟩
          clear hK K
          try simp only [Act.put, List.setIfInBounds_toArray, List.set_cons_zero, List.set_cons_succ, List.getElem_toArray, List.getElem_cons_zero, List.getElem_cons_succ]
          refine wpAnyH_ready (rs := [7]) (by kernel_rfl) (by simp) ?_
          refine AllReadyH.cons rfl (fun K hK => ?_) AllReadyH.nil
          refine if_in (by rfl) ?_
          refine wp_store_row 39 (.tmp 8) (.tmp 30) rfl u2.heap.size cs rfl rfl 39 loZ (unhide HM6) (by rw [hcs]; exact infoLo) (by rw [hcs]; rfl) hca9 ?_
          have hMy : w2.heap.size ≤ u2.heap.size := by have := (unhide BZ).size; omega
          have BZe := hide (below_rowL (unhide BZ6) hMy cs)
          refine hK.out _ _ ?_ (fun _ => ?_)
          · have g := (unhide G0).step (unhide BZe)
            exact ⟨g.at0, g.tl.at0⟩
          clear hK K
          try simp only [Act.put, List.setIfInBounds_toArray, List.set_cons_zero, List.set_cons_succ, List.getElem_toArray, List.getElem_cons_zero, List.getElem_cons_succ]
          refine wpAnyH_done (by kernel_rfl) ?_ _
          go_wp2_with fail
          go_meet
          have hoM : u6.heap.size ≤ u2.heap.size ∨ u2.heap.size + 1 ≤ (u2.alloc (.cells loZ 39)).heap.size := by omega
          exact ⟨u2.heap.size, (u2.alloc (.cells loZ 39)).heap.size, u6.heap.size, cs, rfl, unhide BZe, hMy, setRow_heap _ _ loZ cs 39 (0, 0) (unhide HM6), (unhide AN6).rg (rgPut _ _ _) hoM, hcs, hca9, by have := (unhide BZ).size; omega, by rw [szR]; omega, by omega⟩
      · go_simp
        have HM7 := hide (heap_alloc_new u1 (.cells loZ 39))
        have BZ7 := hide ((unhide BZ1).alloc (unhide BZ1).size (.cells loZ 39))
        have hn7 : Below u1.heap.size u1 (u1.alloc (.cells loZ 39)) := (Below.refl _ _).alloc (Nat.le_refl _) _
        have z7 : (u1.alloc (.cells loZ 39)).heap.size = u1.heap.size + 1 := szA _ _
        have zl7 : (u1.alloc (.cells #[.slice none 0 0, .slice none 0 0, .slice none 0 0, .int .i64 0, .int .i64 0] 39)).heap.size = u1.heap.size + 1 := szA _ _
        have T7 := hide ((unhide T1).step hn7)
        clear hn7
        refine hK.out _ _ ?_ (fun _ => ?_)
        · have g := (unhide G0).step (unhide BZ7)
          exact ⟨g.at0, g.tl.at0⟩
        clear hK K
        try simp only [Act.put, List.setIfInBounds_toArray, List.set_cons_zero, List.set_cons_succ, List.getElem_toArray, List.getElem_cons_zero, List.getElem_cons_succ]
        refine wpAnyH_ready (rs := [4]) (by kernel_rfl) (by simp) ?_
        refine AllReadyH.cons rfl (fun K hK => ?_) (AllReadyH.nil)
        go_simp
        refine (unhide CN _).mono ?_
        rintro r u8 ⟨rfl, hb8⟩
        have T8 := hide ((unhide T7).step hb8)
        have z8 := hb8.size
        have BZ8 := hide ((unhide BZ7).trans (hb8.mono (unhide BZ7).size))
        have HM8 := hide ((hb8.block _ (Array.getElem?_eq_some_iff.1 (unhide HM7)).1).trans (unhide HM7))
        clear hb8
        go_wp2_with fail
        refine hK.out _ _ ?_ (fun _ => ?_)
        · have g := (unhide G0).step (unhide BZ8)
          exact ⟨g.at0, g.tl.at0⟩
        clear hK K
        try simp only [Act.put, List.setIfInBounds_toArray, List.set_cons_zero, List.set_cons_succ, List.getElem_toArray, List.getElem_cons_zero, List.getElem_cons_succ]
        refine wpAnyH_ready (rs := [5]) (by kernel_rfl) (by simp) ?_
        refine AllReadyH.cons rfl (fun K hK => ?_) (AllReadyH.nil)
        go_simp
        refine (unhide CS _ _ _ _ (unhide T8)).mono ?_
        rintro r u9 ⟨cs, rfl, hW9, hb9, hcs, hca9⟩
        have AN9 := hide hW9
        clear hW9
        have z9 := hb9.size
        have BZ9 := hide ((unhide BZ8).trans (hb9.mono (unhide BZ8).size))
        have HM9 := hide ((hb9.block _ (Array.getElem?_eq_some_iff.1 (unhide HM8)).1).trans (unhide HM8))
        clear hb9
        go_wp2_with fail
        refine hK.out _ _ ?_ (fun _ => ?_)
        · have g := (unhide G0).step (unhide BZ9)
          exact ⟨g.at0, g.tl.at0⟩
        clear hK K
        try simp only [Act.put, List.setIfInBounds_toArray, List.set_cons_zero, List.set_cons_succ, List.getElem_toArray, List.getElem_cons_zero, List.getElem_cons_succ]
        refine wpAnyH_ready (rs := [7]) (by kernel_rfl) (by simp) ?_
        refine AllReadyH.cons rfl (fun K hK => ?_) AllReadyH.nil
        refine if_in (by rfl) ?_
        refine wp_store_row 39 (.tmp 8) (.tmp 30) rfl u1.heap.size cs rfl rfl 39 loZ (unhide HM9) (by rw [hcs]; exact infoLo) (by rw [hcs]; rfl) hca9 ?_
        have hMy : w2.heap.size ≤ u1.heap.size := by have := (unhide BZ).size; omega
        have BZe := hide (below_rowL (unhide BZ9) hMy cs)
        refine hK.out _ _ ?_ (fun _ => ?_)
        · have g := (unhide G0).step (unhide BZe)
          exact ⟨g.at0, g.tl.at0⟩
        clear hK K
        try simp only [Act.put, List.setIfInBounds_toArray, List.set_cons_zero, List.set_cons_succ, List.getElem_toArray, List.getElem_cons_zero, List.getElem_cons_succ]
        refine wpAnyH_done (by kernel_rfl) ?_ _
        go_wp2_with fail
        go_meet
        have hoM : u9.heap.size ≤ u1.heap.size ∨ u1.heap.size + 1 ≤ u8.heap.size := by omega
        exact ⟨u1.heap.size, u8.heap.size, u9.heap.size, cs, rfl, unhide BZe, hMy, setRow_heap _ _ loZ cs 39 (0, 0) (unhide HM9), (unhide AN9).rg (rgPut _ _ _) hoM, hcs, hca9, by have := (unhide BZ).size; omega, by rw [szR]; omega, by omega⟩
    · go_simp
      have HM10 := hide (heap_alloc_new y (.cells loZ 39))
      have BZ10 := hide ((unhide BZ).alloc (unhide BZ).size (.cells loZ 39))
      have hn10 : Below y.heap.size y (y.alloc (.cells loZ 39)) := (Below.refl _ _).alloc (Nat.le_refl _) _
      have z10 : (y.alloc (.cells loZ 39)).heap.size = y.heap.size + 1 := szA _ _
      have zl10 : (y.alloc (.cells #[.slice none 0 0, .slice none 0 0, .slice none 0 0, .int .i64 0, .int .i64 0] 39)).heap.size = y.heap.size + 1 := szA _ _
      clear hn10
      refine hK.out _ _ ?_ (fun _ => ?_)
      · have g := (unhide G0).step (unhide BZ10)
        exact ⟨g.at0, g.tl.at0⟩
      clear hK K
      try simp only [Act.put, List.setIfInBounds_toArray, List.set_cons_zero, List.set_cons_succ, List.getElem_toArray, List.getElem_cons_zero, List.getElem_cons_succ]
      refine wpAnyH_ready (rs := [1]) (by kernel_rfl) (by simp) ?_
      refine AllReadyH.cons rfl (fun K hK => ?_) (AllReadyH.nil)
      go_simp
      refine (unhide CT _ ((unhide G0).step (unhide BZ10)).2).mono ?_
      rintro r u11 ⟨cl11, rfl, hT11, hb11⟩
      have T11 := hide hT11
      clear hT11
      have z11 := hb11.size
      have BZ11 := hide ((unhide BZ10).trans (hb11.mono (unhide BZ10).size))
      have HM11 := hide ((hb11.block _ (Array.getElem?_eq_some_iff.1 (unhide HM10)).1).trans (unhide HM10))
      clear hb11
      go_wp2_with fail
      refine hK.out _ _ ?_ (fun _ => ?_)
      · have g := (unhide G0).step (unhide BZ11)
        exact ⟨g.at0, g.tl.at0⟩
      clear hK K
      try simp only [Act.put, List.setIfInBounds_toArray, List.set_cons_zero, List.set_cons_succ, List.getElem_toArray, List.getElem_cons_zero, List.getElem_cons_succ]
      refine wpAnyH_ready (rs := [4]) (by kernel_rfl) (by simp) ?_
      refine AllReadyH.cons rfl (fun K hK => ?_) (AllReadyH.nil)
      go_simp
      refine (unhide CN _).mono ?_
      rintro r u12 ⟨rfl, hb12⟩
      have T12 := hide ((unhide T11).step hb12)
      have z12 := hb12.size
      have BZ12 := hide ((unhide BZ11).trans (hb12.mono (unhide BZ11).size))
      have HM12 := hide ((hb12.block _ (Array.getElem?_eq_some_iff.1 (unhide HM11)).1).trans (unhide HM11))
      clear hb12
      go_wp2_with fail
      refine hK.out _ _ ?_ (fun _ => ?_)
      · have g := (unhide G0).step (unhide BZ12)
        exact ⟨g.at0, g.tl.at0⟩
      clear hK K
      try simp only [Act.put, List.setIfInBounds_toArray, List.set_cons_zero, List.set_cons_succ, List.getElem_toArray, List.getElem_cons_zero, List.getElem_cons_succ]
      refine wpAnyH_ready (rs := [5]) (by kernel_rfl) (by simp) ?_
      refine AllReadyH.cons rfl (fun K hK => ?_) (AllReadyH.nil)
      go_simp
      refine (unhide CS _ _ _ _ (unhide T12)).mono ?_
      rintro r u13 ⟨cs, rfl, hW13, hb13, hcs, hca9⟩
      have AN13 := hide hW13
      clear hW13
      have z13 := hb13.size
      have BZ13 := hide ((unhide BZ12).trans (hb13.mono (unhide BZ12).size))
      have HM13 := hide ((hb13.block _ (Array.getElem?_eq_some_iff.1 (unhide HM12)).1).trans (unhide HM12))
      clear hb13
      go_wp2_with fail
      refine hK.out _ _ ?_ (fun _ => ?_)
      · have g := (unhide G0).step (unhide BZ13)
        exact ⟨g.at0, g.tl.at0⟩
      clear hK K
      try simp only [Act.put, List.setIfInBounds_toArray, List.set_cons_zero, List.set_cons_succ, List.getElem_toArray, List.getElem_cons_zero, List.getElem_cons_succ]
      refine wpAnyH_ready (rs := [7]) (by kernel_rfl) (by simp) ?_
      refine AllReadyH.cons rfl (fun K hK => ?_) AllReadyH.nil
      refine if_in (by rfl) ?_
      refine wp_store_row 39 (.tmp 8) (.tmp 30) rfl y.heap.size cs rfl rfl 39 loZ (unhide HM13) (by rw [hcs]; exact infoLo) (by rw [hcs]; rfl) hca9 ?_
      have hMy : w2.heap.size ≤ y.heap.size := by have := (unhide BZ).size; omega
      have BZe := hide (below_rowL (unhide BZ13) hMy cs)
      refine hK.out _ _ ?_ (fun _ => ?_)
      · have g := (unhide G0).step (unhide BZe)
        exact ⟨g.at0, g.tl.at0⟩
      clear hK K
      try simp only [Act.put, List.setIfInBounds_toArray, List.set_cons_zero, List.set_cons_succ, List.getElem_toArray, List.getElem_cons_zero, List.getElem_cons_succ]
      refine wpAnyH_done (by kernel_rfl) ?_ _
      go_wp2_with fail
      go_meet
      have hoM : u13.heap.size ≤ y.heap.size ∨ y.heap.size + 1 ≤ u12.heap.size := by omega
      exact ⟨y.heap.size, u12.heap.size, u13.heap.size, cs, rfl, unhide BZe, hMy, setRow_heap _ _ loZ cs 39 (0, 0) (unhide HM13), (unhide AN13).rg (rgPut _ _ _) hoM, hcs, hca9, by have := (unhide BZ).size; omega, by rw [szR]; omega, by omega⟩
  case rest =>
    obtain ⟨M, lo, hi, cw, rfl, hb3, hM2, hm3, hW3, hwz, hwa, hlo, hhi, hout⟩ := hcut
    rename World => w3
    have hAB : A + 1 < w2.heap.size := (Array.getElem?_eq_some_iff.1 (unhide H2).tl.at0).1
    have hM3 : M < w3.heap.size := (Array.getElem?_eq_some_iff.1 hm3).1
    have H3 := hide (((unhide H2).step hb3).cons hm3)
    have AN3 := hide hW3
    have hs3 := hb3.size
    clear hb3 hm3 hW3 H2 hout hlo hM2
    go_wp2_with (first | (refine wpList_load_row rfl 25 (.tmp 3) rfl A rfl 25 ca.toArray (0, 0) _ (unhide H3).tl.at0 Try.underlying25 rfl (by rw [hsz]; exact infoLL) ?_))
    refine (unhide CT _ (unhide H3).2).mono ?_
    rintro r w5 ⟨cl, rfl, hD5, hb5⟩
    have lc := hD5.len
    have hcz : cl.toArray.size = 2 := by rw [List.size_toArray]; exact lc
    have hca1 := hD5.one
    have hs5 := hb5.size
    have hn5 := setRow_heap (w5.alloc (.cells lpZ 30)) w5.heap.size lpZ cl.toArray 30 (0, 0) (heap_alloc_new w5 _)
    have hb6 : Below w5.heap.size w5 ((w5.alloc (.cells lpZ 30)).setRow w5.heap.size cl.toArray) := below_rowL ((Below.refl _ _).alloc (Nat.le_refl _) _) (Nat.le_refl _) _
    have hb56 := hb5.trans (hb6.mono hb5.size)
    have HQ0 := hide (And.intro (((unhide H3).step hb56).cons hn5) (And.intro ((unhide AN3).step hb56) (And.intro (hD5.step hb6) (size_putL w5 (.cells lpZ 30) w5.heap.size cl.toArray))))
    clear hn5 hb6 hb56 hD5 hb5 H3 AN3
    go_upto_region 10 with (first
      | (refine wpList_store_rowTo rfl 30 (.tmp 9) (.tmp 32) rfl rfl w5.heap.size cl.toArray rfl rfl 30 lpZ (heap_alloc_new w5 _) (by rw [hcz]; exact infoL) (by rw [hcz]; rfl) hca1 ?_))
    refine gen_world (fun q => Gd w [(w5.heap.size, .cells cl.toArray 30), (M, .cells cw 39), (A, .cells ca.toArray 25), (A + 1, .cells fl.toArray 35)] q ∧ AnM o lo hi cw q ∧ ToL L F w3.heap.size w5.heap.size cl q ∧ q.heap.size = w5.heap.size + 1) ?_ ?_
    · exact unhide HQ0
    clear HQ0
    rintro y6 hq
    have HQ := hide hq
    have hs6 := hq.2.2.2
    clear hq
    go_cut [10] (fun v wx => RRl (AnG o) y6 v wx)
    case first =>
      have G0 := hide (unhide HQ).1
      refine wp_region_held_drew (S := fun z => z.heap[w5.heap.size]? = some (.cells cl.toArray 30) ∧ z.heap[A + 1]? = some (.cells fl.toArray 35)) (by kernel_rfl) ?_ (fun hHeld => ?_)
      · have g := unhide G0
        exact ⟨g.at0, g.tl.tl.tl.at0⟩
      have BZ := hide ((Below.refl y6.heap.size y6).drew)
      have TX := hide ((unhide HQ).2.2.1.step ((Below.refl _ _).drew))
      generalize y6.drew = y at BZ hHeld TX ⊢
      refine wpAnyH_take (i := 0) (v := .agg cl.toArray) rfl (by kernel_rfl) (by kernel_rfl) (by kernel_rfl) (fun _ _ _ h => h) (yieldsIf_load_mid (by rfl) 30 (.tmp 9) rfl w5.heap.size 0 rfl cl _ (fun z hz => rangeRowL hz.1) Try.underlying30 rfl (by rw [lc]; exact infoL)) (by assumption) ?_
      try simp only [Act.put, List.setIfInBounds_toArray, List.set_cons_zero, List.set_cons_succ, List.getElem_toArray, List.getElem_cons_zero, List.getElem_cons_succ]
      refine wpAnyH_take (i := 1) (v := ?vmb1) rfl (by kernel_rfl) (by kernel_rfl) (by kernel_rfl) (fun _ _ _ h => h) (Or.inl ⟨by rfl, ?hymb1⟩) (by assumption) ?_
      case hymb1 =>
        intro w hSw
        try dsimp only at hSw
        go_simp
        try with_reducible rfl
      try simp only [Act.put, List.setIfInBounds_toArray, List.set_cons_zero, List.set_cons_succ, List.getElem_toArray, List.getElem_cons_zero, List.getElem_cons_succ]
      refine wpAnyH_take (i := 2) (v := .agg fl.toArray) rfl (by kernel_rfl) (by kernel_rfl) (by kernel_rfl) (fun _ _ _ h => h) (yieldsIf_load_mid (by rfl) 35 (.tmp 5) rfl (A + 1) 0 rfl fl _ (fun z hz => rangeRowL hz.2) Try.underlying35 rfl (by rw [lf]; exact infoN)) (by assumption) ?_
      try simp only [Act.put, List.setIfInBounds_toArray, List.set_cons_zero, List.set_cons_succ, List.getElem_toArray, List.getElem_cons_zero, List.getElem_cons_succ]
      clear hHeld
      refine wpAnyH_ready (rs := [3, 5]) (by kernel_rfl) (by simp) ?_
      refine AllReadyH.cons rfl (fun K hK => ?_) (AllReadyH.cons rfl (fun K hK => ?_) (AllReadyH.nil))
      · go_simp
        refine (unhide CN _).mono ?_
        rintro r u1 ⟨rfl, hb1⟩
        have T1 := hide ((unhide TX).step hb1)
        have z1 := hb1.size
        have BZ1 := hide ((unhide BZ).trans (hb1.mono (unhide BZ).size))
        clear hb1
        go_wp2_with fail
        refine hK.out _ _ ?_ (fun _ => ?_)
        · have g := (unhide G0).step (unhide BZ1)
          exact ⟨g.at0, g.tl.tl.tl.at0⟩
        clear hK K
        try simp only [Act.put, List.setIfInBounds_toArray, List.set_cons_zero, List.set_cons_succ, List.getElem_toArray, List.getElem_cons_zero, List.getElem_cons_succ]
        refine wpAnyH_ready (rs := [4, 5]) (by kernel_rfl) (by simp) ?_
        refine AllReadyH.cons rfl (fun K hK => ?_) (AllReadyH.cons rfl (fun K hK => ?_) (AllReadyH.nil))
        · go_simp
          refine (unhide CI _ _ _ _ (unhide T1)).mono ?_
          rintro r u2 ⟨cs, rfl, hW2, hb2, hcs, hca9⟩
          have AN2 := hide hW2
          clear hW2
          have z2 := hb2.size
          have BZ2 := hide ((unhide BZ1).trans (hb2.mono (unhide BZ1).size))
          clear hb2
          go_wp2_with fail
          refine hK.out _ _ ?_ (fun _ => ?_)
          · have g := (unhide G0).step (unhide BZ2)
            exact ⟨g.at0, g.tl.tl.tl.at0⟩
          clear hK K
          try simp only [Act.put, List.setIfInBounds_toArray, List.set_cons_zero, List.set_cons_succ, List.getElem_toArray, List.getElem_cons_zero, List.getElem_cons_succ]
          refine wpAnyH_ready (rs := [5]) (by kernel_rfl) (by simp) ?_
          refine AllReadyH.cons rfl (fun K hK => ?_) (AllReadyH.nil)
          go_simp
          have HM3 := hide (heap_alloc_new u2 (.cells loZ 39))
          have BZ3 := hide ((unhide BZ2).alloc (unhide BZ2).size (.cells loZ 39))
          have hn3 : Below u2.heap.size u2 (u2.alloc (.cells loZ 39)) := (Below.refl _ _).alloc (Nat.le_refl _) _
          have z3 : (u2.alloc (.cells loZ 39)).heap.size = u2.heap.size + 1 := szA _ _
          have zl3 : (u2.alloc (.cells #[.slice none 0 0, .slice none 0 0, .slice none 0 0, .int .i64 0, .int .i64 0] 39)).heap.size = u2.heap.size + 1 := szA _ _
          have AN3 := hide ((unhide AN2).step hn3)
          clear hn3
          refine hK.out _ _ ?_ (fun _ => ?_)
          · have g := (unhide G0).step (unhide BZ3)
            exact ⟨g.at0, g.tl.tl.tl.at0⟩
          clear hK K
          try simp only [Act.put, List.setIfInBounds_toArray, List.set_cons_zero, List.set_cons_succ, List.getElem_toArray, List.getElem_cons_zero, List.getElem_cons_succ]
          refine wpAnyH_ready (rs := [6]) (by kernel_rfl) (by simp) ?_
          refine AllReadyH.cons rfl (fun K hK => ?_) AllReadyH.nil
          refine if_in (by rfl) ?_
          refine wp_store_row 39 (.tmp 10) (.tmp 37) rfl u2.heap.size cs rfl rfl 39 loZ (unhide HM3) (by rw [hcs]; exact infoLo) (by rw [hcs]; rfl) hca9 ?_
          have hMy : y6.heap.size ≤ u2.heap.size := by have := (unhide BZ).size; omega
          have BZe := hide (below_rowL (unhide BZ3) hMy cs)
          refine hK.out _ _ ?_ (fun _ => ?_)
          · have g := (unhide G0).step (unhide BZe)
            exact ⟨g.at0, g.tl.tl.tl.at0⟩
          clear hK K
          try simp only [Act.put, List.setIfInBounds_toArray, List.set_cons_zero, List.set_cons_succ, List.getElem_toArray, List.getElem_cons_zero, List.getElem_cons_succ]
          refine wpAnyH_done (by kernel_rfl) ?_ _
          go_wp2_with fail
          go_meet
          have hoM : u2.heap.size ≤ u2.heap.size ∨ u2.heap.size + 1 ≤ u1.heap.size := by omega
          exact ⟨u2.heap.size, u1.heap.size, u2.heap.size, cs, rfl, unhide BZe, hMy, setRow_heap _ _ loZ cs 39 (0, 0) (unhide HM3), (unhide AN3).rg (rgPut _ _ _) hoM, hcs, hca9, by have := (unhide BZ).size; omega, by rw [szR]; omega, by omega⟩
        · go_simp
          have HM4 := hide (heap_alloc_new u1 (.cells loZ 39))
          have BZ4 := hide ((unhide BZ1).alloc (unhide BZ1).size (.cells loZ 39))
          have hn4 : Below u1.heap.size u1 (u1.alloc (.cells loZ 39)) := (Below.refl _ _).alloc (Nat.le_refl _) _
          have z4 : (u1.alloc (.cells loZ 39)).heap.size = u1.heap.size + 1 := szA _ _
          have zl4 : (u1.alloc (.cells #[.slice none 0 0, .slice none 0 0, .slice none 0 0, .int .i64 0, .int .i64 0] 39)).heap.size = u1.heap.size + 1 := szA _ _
          have T4 := hide ((unhide T1).step hn4)
          clear hn4
          refine hK.out _ _ ?_ (fun _ => ?_)
          · have g := (unhide G0).step (unhide BZ4)
            exact ⟨g.at0, g.tl.tl.tl.at0⟩
          clear hK K
          try simp only [Act.put, List.setIfInBounds_toArray, List.set_cons_zero, List.set_cons_succ, List.getElem_toArray, List.getElem_cons_zero, List.getElem_cons_succ]
          refine wpAnyH_ready (rs := [4]) (by kernel_rfl) (by simp) ?_
          refine AllReadyH.cons rfl (fun K hK => ?_) (AllReadyH.nil)
          go_simp
          refine (unhide CI _ _ _ _ (unhide T4)).mono ?_
          rintro r u5 ⟨cs, rfl, hW5, hb5, hcs, hca9⟩
          have AN5 := hide hW5
          clear hW5
          have z5 := hb5.size
          have BZ5 := hide ((unhide BZ4).trans (hb5.mono (unhide BZ4).size))
          have HM5 := hide ((hb5.block _ (Array.getElem?_eq_some_iff.1 (unhide HM4)).1).trans (unhide HM4))
          clear hb5
          go_wp2_with fail
          refine hK.out _ _ ?_ (fun _ => ?_)
          · have g := (unhide G0).step (unhide BZ5)
            exact ⟨g.at0, g.tl.tl.tl.at0⟩
          clear hK K
          try simp only [Act.put, List.setIfInBounds_toArray, List.set_cons_zero, List.set_cons_succ, List.getElem_toArray, List.getElem_cons_zero, List.getElem_cons_succ]
          refine wpAnyH_ready (rs := [6]) (by kernel_rfl) (by simp) ?_
          refine AllReadyH.cons rfl (fun K hK => ?_) AllReadyH.nil
          refine if_in (by rfl) ?_
          refine wp_store_row 39 (.tmp 10) (.tmp 37) rfl u1.heap.size cs rfl rfl 39 loZ (unhide HM5) (by rw [hcs]; exact infoLo) (by rw [hcs]; rfl) hca9 ?_
          have hMy : y6.heap.size ≤ u1.heap.size := by have := (unhide BZ).size; omega
          have BZe := hide (below_rowL (unhide BZ5) hMy cs)
          refine hK.out _ _ ?_ (fun _ => ?_)
          · have g := (unhide G0).step (unhide BZe)
            exact ⟨g.at0, g.tl.tl.tl.at0⟩
          clear hK K
          try simp only [Act.put, List.setIfInBounds_toArray, List.set_cons_zero, List.set_cons_succ, List.getElem_toArray, List.getElem_cons_zero, List.getElem_cons_succ]
          refine wpAnyH_done (by kernel_rfl) ?_ _
          go_wp2_with fail
          go_meet
          have hoM : u5.heap.size ≤ u1.heap.size ∨ u1.heap.size + 1 ≤ (u1.alloc (.cells loZ 39)).heap.size := by omega
          exact ⟨u1.heap.size, (u1.alloc (.cells loZ 39)).heap.size, u5.heap.size, cs, rfl, unhide BZe, hMy, setRow_heap _ _ loZ cs 39 (0, 0) (unhide HM5), (unhide AN5).rg (rgPut _ _ _) hoM, hcs, hca9, by have := (unhide BZ).size; omega, by rw [szR]; omega, by omega⟩
      · go_simp
        have HM6 := hide (heap_alloc_new y (.cells loZ 39))
        have BZ6 := hide ((unhide BZ).alloc (unhide BZ).size (.cells loZ 39))
        have hn6 : Below y.heap.size y (y.alloc (.cells loZ 39)) := (Below.refl _ _).alloc (Nat.le_refl _) _
        have z6 : (y.alloc (.cells loZ 39)).heap.size = y.heap.size + 1 := szA _ _
        have zl6 : (y.alloc (.cells #[.slice none 0 0, .slice none 0 0, .slice none 0 0, .int .i64 0, .int .i64 0] 39)).heap.size = y.heap.size + 1 := szA _ _
        have T6 := hide ((unhide TX).step hn6)
        clear hn6
        refine hK.out _ _ ?_ (fun _ => ?_)
        · have g := (unhide G0).step (unhide BZ6)
          exact ⟨g.at0, g.tl.tl.tl.at0⟩
        clear hK K
        try simp only [Act.put, List.setIfInBounds_toArray, List.set_cons_zero, List.set_cons_succ, List.getElem_toArray, List.getElem_cons_zero, List.getElem_cons_succ]
        refine wpAnyH_ready (rs := [3]) (by kernel_rfl) (by simp) ?_
        refine AllReadyH.cons rfl (fun K hK => ?_) (AllReadyH.nil)
        go_simp
        refine (unhide CN _).mono ?_
        rintro r u7 ⟨rfl, hb7⟩
        have T7 := hide ((unhide T6).step hb7)
        have z7 := hb7.size
        have BZ7 := hide ((unhide BZ6).trans (hb7.mono (unhide BZ6).size))
        have HM7 := hide ((hb7.block _ (Array.getElem?_eq_some_iff.1 (unhide HM6)).1).trans (unhide HM6))
        clear hb7
        go_wp2_with fail
        refine hK.out _ _ ?_ (fun _ => ?_)
        · have g := (unhide G0).step (unhide BZ7)
          exact ⟨g.at0, g.tl.tl.tl.at0⟩
        clear hK K
        try simp only [Act.put, List.setIfInBounds_toArray, List.set_cons_zero, List.set_cons_succ, List.getElem_toArray, List.getElem_cons_zero, List.getElem_cons_succ]
        refine wpAnyH_ready (rs := [4]) (by kernel_rfl) (by simp) ?_
        refine AllReadyH.cons rfl (fun K hK => ?_) (AllReadyH.nil)
        go_simp
        refine (unhide CI _ _ _ _ (unhide T7)).mono ?_
        rintro r u8 ⟨cs, rfl, hW8, hb8, hcs, hca9⟩
        have AN8 := hide hW8
        clear hW8
        have z8 := hb8.size
        have BZ8 := hide ((unhide BZ7).trans (hb8.mono (unhide BZ7).size))
        have HM8 := hide ((hb8.block _ (Array.getElem?_eq_some_iff.1 (unhide HM7)).1).trans (unhide HM7))
        clear hb8
        go_wp2_with fail
        refine hK.out _ _ ?_ (fun _ => ?_)
        · have g := (unhide G0).step (unhide BZ8)
          exact ⟨g.at0, g.tl.tl.tl.at0⟩
        clear hK K
        try simp only [Act.put, List.setIfInBounds_toArray, List.set_cons_zero, List.set_cons_succ, List.getElem_toArray, List.getElem_cons_zero, List.getElem_cons_succ]
        refine wpAnyH_ready (rs := [6]) (by kernel_rfl) (by simp) ?_
        refine AllReadyH.cons rfl (fun K hK => ?_) AllReadyH.nil
        refine if_in (by rfl) ?_
        refine wp_store_row 39 (.tmp 10) (.tmp 37) rfl y.heap.size cs rfl rfl 39 loZ (unhide HM8) (by rw [hcs]; exact infoLo) (by rw [hcs]; rfl) hca9 ?_
        have hMy : y6.heap.size ≤ y.heap.size := by have := (unhide BZ).size; omega
        have BZe := hide (below_rowL (unhide BZ8) hMy cs)
        refine hK.out _ _ ?_ (fun _ => ?_)
        · have g := (unhide G0).step (unhide BZe)
          exact ⟨g.at0, g.tl.tl.tl.at0⟩
        clear hK K
        try simp only [Act.put, List.setIfInBounds_toArray, List.set_cons_zero, List.set_cons_succ, List.getElem_toArray, List.getElem_cons_zero, List.getElem_cons_succ]
        refine wpAnyH_done (by kernel_rfl) ?_ _
        go_wp2_with fail
        go_meet
        have hoM : u8.heap.size ≤ y.heap.size ∨ y.heap.size + 1 ≤ u7.heap.size := by omega
        exact ⟨y.heap.size, u7.heap.size, u8.heap.size, cs, rfl, unhide BZe, hMy, setRow_heap _ _ loZ cs 39 (0, 0) (unhide HM8), (unhide AN8).rg (rgPut _ _ _) hoM, hcs, hca9, by have := (unhide BZ).size; omega, by rw [szR]; omega, by omega⟩
    case rest =>
      obtain ⟨Gb, lo2, hi2, cg, rfl, hb7, hG2, hg7, hG7, hgz, hga, hlo2, hhi2, hout2⟩ := hcut
      rename World => w6
      have HI : Hid (LiB fl w ca cl cw cg A M w5.heap.size Gb w6 ∧ AnM o lo hi cw w6 ∧ ToL L F w3.heap.size w5.heap.size cl w6 ∧ AnG o lo2 hi2 cg w6) := by
        obtain ⟨q1, q2, q3, _⟩ := unhide HQ
        have q1' := q1.step hb7
        exact hide ⟨⟨⟨q1'.tl.tl.at0, q1'.tl.at0, q1'.at0, hg7, q1'.2⟩, q1'.tl.tl.tl.at0⟩, q2.step hb7, q3.step hb7, hG7⟩
      clear hb7 hg7 hG7 HQ
      go_wp2_with (first
        | (refine wpList_load_row rfl 39 (.tmp 10) rfl Gb rfl 39 cg (0, 0) _ (unhide HI).1.l.g Try.underlying39 rfl (by rw [hgz]; exact infoLo) ?_)
        | (refine wpList_load_row rfl 39 (.tmp 8) rfl M rfl 39 cw (0, 0) _ (unhide HI).1.l.m Try.underlying39 rfl (by rw [hwz]; exact infoLo) ?_))
      refine (eqG hB (unhide HI).2.2.2 (unhide HI).2.1).mono ?_
      rintro r w7 ⟨rfl, hb⟩
      have HI7 := hide (And.intro ((unhide HI).1.step hb) (And.intro ((unhide HI).2.1.step hb) (And.intro ((unhide HI).2.2.1.step hb) ((unhide HI).2.2.2.step hb))))
      clear hb HI
      go_upto_region 13 with fail
      refine gen_world (fun q => LiB fl w ca cl cw cg A M w5.heap.size Gb q ∧ AnM o lo hi cw q ∧ ToL L F w3.heap.size w5.heap.size cl q ∧ AnG o lo2 hi2 cg q) ?_ ?_
      · exact unhide HI7
      clear HI7
      rintro q hq
      have qa := hq.1.l.a
      have qx := hq.1.l.x
      have HQ := hide (And.intro (hq.1.step (Below.refl _ _).drew) (And.intro (hq.2.1.step (Below.refl _ _).drew) (And.intro (hq.2.2.1.step (Below.refl _ _).drew) (hq.2.2.2.step (Below.refl _ _).drew))))
      clear hq
      refine wp_region_held_drew (S := fun z => z.heap[A]? = some (.cells ca.toArray 25) ∧ z.heap[w5.heap.size]? = some (.cells cl.toArray 30)) (by kernel_rfl) ?_ (fun hHeld => ?_)
      · exact ⟨qa, qx⟩
      refine wpAnyH_take (i := 0) (v := .agg cl.toArray) rfl (by kernel_rfl) (by kernel_rfl) (by kernel_rfl) (fun _ _ _ h => h) (yieldsIf_load_mid (by rfl) 30 (.tmp 9) rfl w5.heap.size 0 rfl cl _ (fun z hz => rangeRowL hz.2) Try.underlying30 rfl (by rw [lc]; exact infoL)) (by assumption) ?_
      try simp only [Act.put, List.setIfInBounds_toArray, List.set_cons_zero, List.set_cons_succ, List.getElem_toArray, List.getElem_cons_zero]
      refine wpAnyH_take (i := 1) (v := .agg ca.toArray) rfl (by kernel_rfl) (by kernel_rfl) (by kernel_rfl) (fun _ _ _ h => h) (yieldsIf_load_mid (by rfl) 25 (.tmp 3) rfl A 0 rfl ca _ (fun z hz => rangeRowL hz.1) Try.underlying25 rfl (by rw [la]; exact infoLL)) (by assumption) ?_
      try simp only [Act.put, List.setIfInBounds_toArray, List.getElem_toArray]
      refine wpAnyH_ready (rs := [2]) (by kernel_rfl) (by simp) ?_
      refine AllReadyH.cons rfl (fun K hK => ?_) AllReadyH.nil
      go_simp
      refine (unhide CT _ (unhide HQ).1.l.b).mono ?_
      rintro r w8 ⟨cm, rfl, hD8, hb8⟩
      have HQ8 := hide (And.intro ((unhide HQ).1.step hb8) (And.intro ((unhide HQ).2.1.step hb8) (And.intro ((unhide HQ).2.2.1.step hb8) (And.intro ((unhide HQ).2.2.2.step hb8) hD8))))
      clear hb8 hD8 HQ
      go_wp2_with fail
      refine hK.out _ _ ?_ (fun _ => ?_)
      · exact ⟨(unhide HQ8).1.l.a, (unhide HQ8).1.l.x⟩
      clear hK K
      try simp only [Act.put, List.setIfInBounds_toArray, List.set_cons_zero, List.set_cons_succ, List.getElem_toArray, List.getElem_cons_zero]
      refine wpAnyH_ready (rs := [3]) (by kernel_rfl) (by simp) ?_
      refine AllReadyH.cons rfl (fun K hK => ?_) AllReadyH.nil
      go_simp
      refine (eqL (unhide HK) (unhide HQ8).2.2.1 (unhide HQ8).2.2.2.2).mono ?_
      rintro r w9 ⟨rfl, hb9⟩
      have HQ9 := hide (And.intro ((unhide HQ8).1.step hb9) (And.intro ((unhide HQ8).2.1.step hb9) (And.intro ((unhide HQ8).2.2.1.step hb9) ((unhide HQ8).2.2.2.1.step hb9))))
      clear hb9 HQ8
      go_wp2_with fail
      refine hK.out _ _ ?_ (fun _ => ?_)
      · exact ⟨(unhide HQ9).1.l.a, (unhide HQ9).1.l.x⟩
      clear hK K
      refine wpAnyH_take (i := 4) (v := ?v4) rfl (by kernel_rfl) (by kernel_rfl) (by kernel_rfl) (fun _ _ _ h => h) (Or.inl ⟨by rfl, ?hy4⟩) (by assumption) ?_
      case hy4 =>
        intro w hSw
        try dsimp only at hSw
        go_simp
        try with_reducible rfl
      try simp only [Act.put, List.setIfInBounds_toArray, List.getElem_toArray]
      refine wpAnyH_done (by kernel_rfl) ?_ _
      clear qa qx hHeld
      go_wp2_with (first | (refine wpList_load_row rfl 30 (.tmp 9) rfl w5.heap.size rfl 30 cl.toArray (0, 0) _ (unhide HQ9).1.l.x Try.underlying30 rfl (by rw [hcz]; exact infoL) ?_))
      refine (markL (unhide HK) (unhide HQ9).2.2.1).mono ?_
      rintro r w10 ⟨⟨km, rfl⟩, hR⟩
      have HR10 := hide (And.intro ((unhide HQ9).1.rg hR (by omega) (by omega) (Or.inr (Nat.le_refl _)) (Or.inr (by omega)) (by omega)) (And.intro ((unhide HQ9).2.1.rg hR (Or.inl (by omega))) ((unhide HQ9).2.2.2.rg hR (Or.inr (by omega)))))
      have dk : ¬ ((km : Int) < 0) := by omega
      clear hR HQ9
      go_wp2_with (first
        | (refine load_rowL (by rfl) (.agg cg) (fun K hk => wp_load_row 39 (.tmp 10) rfl Gb rfl 39 cg (0, 0) _ (unhide HR10).1.l.g Try.underlying39 rfl (by rw [hgz]; exact infoLo) hk) ?_)
        | (refine load_rowL (by rfl) (.agg cw) (fun K hk => wp_load_row 39 (.tmp 8) rfl M rfl 39 cw (0, 0) _ (unhide HR10).1.l.m Try.underlying39 rfl (by rw [hwz]; exact infoLo) hk) ?_))
      refine (eqG hB (unhide HR10).2.2 (unhide HR10).2.1).mono ?_
      rintro r w11 ⟨rfl, hb⟩
      have HR11 := hide (And.intro ((unhide HR10).1.step hb) (And.intro ((unhide HR10).2.1.step hb) ((unhide HR10).2.2.step hb)))
      clear hb HR10 dk
      have CK := hide fun W (h : AnG o lo2 hi2 cg W) => markG hB h
      have CH := hide fun W (h : MkG o cg W) => heldG hB h
      obtain ⟨K, hK⟩ : ∃ K : Nat, 1 + o.L.length + 4 * o.F.length + o.G.length = K := ⟨_, rfl⟩
      rw [hK] at CK CH
      have dK : ¬ ((K : Int) < 0) := by omega
      clear hK
      go_wp2_with (first | (refine wpList_load_row rfl 39 (.tmp 10) rfl Gb rfl 39 cg (0, 0) _ (unhide HR11).1.l.g Try.underlying39 rfl (by rw [hgz]; exact infoLo) ?_))
      refine (unhide CK _ (unhide HR11).2.2).mono ?_
      rintro r w12 ⟨rfl, hM, hR⟩
      have HR12 := hide (And.intro ((unhide HR11).1.rg hR (by omega) (by omega) (Or.inl (by omega)) (by omega) (by omega)) (And.intro ((unhide HR11).2.1.rg hR (Or.inl (by omega))) hM))
      clear hM hR HR11
      go_wp2_with (first | (refine wpList_load_row rfl 39 (.tmp 10) rfl Gb rfl 39 cg (0, 0) _ (unhide HR12).1.l.g Try.underlying39 rfl (by rw [hgz]; exact infoLo) ?_))
      refine (unhide CH _ (unhide HR12).2.2).mono ?_
      rintro r w13 ⟨rfl, hb⟩
      have HR13 := hide (And.intro ((unhide HR12).1.step hb) (And.intro ((unhide HR12).2.1.step hb) ((unhide HR12).2.2.step hb)))
      clear hb HR12
      go_upto_region 27 with fail
      go_cut [14] (fun v wx => RRl (AnG o) w13 v wx)
      case first =>
        have HG : Hid (Gd w [(A, .cells ca.toArray 25), (A + 1, .cells fl.toArray 35)] w13) := hide (((show Gd w [] w13 from ⟨fun p hp => (List.not_mem_nil hp).elim, (unhide HR13).1.l.b⟩).cons (unhide HR13).1.f).cons (unhide HR13).1.l.a)
        have G0 := HG
        refine wp_region_held_drew (S := fun z => z.heap[A]? = some (.cells ca.toArray 25) ∧ z.heap[A + 1]? = some (.cells fl.toArray 35)) (by kernel_rfl) ?_ (fun hHeld => ?_)
        · have g := unhide G0
          exact ⟨g.at0, g.tl.at0⟩
        have BZ := hide ((Below.refl w13.heap.size w13).drew)
        generalize w13.drew = y at BZ hHeld ⊢
        refine wpAnyH_take (i := 0) (v := .agg ca.toArray) rfl (by kernel_rfl) (by kernel_rfl) (by kernel_rfl) (fun _ _ _ h => h) (yieldsIf_load_mid (by rfl) 25 (.tmp 3) rfl A 0 rfl ca _ (fun z hz => rangeRowL hz.1) Try.underlying25 rfl (by rw [la]; exact infoLL)) (by assumption) ?_
        try simp only [Act.put, List.setIfInBounds_toArray, List.set_cons_zero, List.set_cons_succ, List.getElem_toArray, List.getElem_cons_zero, List.getElem_cons_succ]
        refine wpAnyH_take (i := 2) (v := ?vmc2) rfl (by kernel_rfl) (by kernel_rfl) (by kernel_rfl) (fun _ _ _ h => h) (Or.inl ⟨by rfl, ?hymc2⟩) (by assumption) ?_
        case hymc2 =>
          intro w hSw
          try dsimp only at hSw
          go_simp
          try with_reducible rfl
        try simp only [Act.put, List.setIfInBounds_toArray, List.set_cons_zero, List.set_cons_succ, List.getElem_toArray, List.getElem_cons_zero, List.getElem_cons_succ]
        refine wpAnyH_take (i := 3) (v := .agg fl.toArray) rfl (by kernel_rfl) (by kernel_rfl) (by kernel_rfl) (fun _ _ _ h => h) (yieldsIf_load_mid (by rfl) 35 (.tmp 5) rfl (A + 1) 0 rfl fl _ (fun z hz => rangeRowL hz.2) Try.underlying35 rfl (by rw [lf]; exact infoN)) (by assumption) ?_
        try simp only [Act.put, List.setIfInBounds_toArray, List.set_cons_zero, List.set_cons_succ, List.getElem_toArray, List.getElem_cons_zero, List.getElem_cons_succ]
        clear hHeld
        refine wpAnyH_ready (rs := [1, 6]) (by kernel_rfl) (by simp) ?_
        refine AllReadyH.cons rfl (fun K hK => ?_) (AllReadyH.cons rfl (fun K hK => ?_) (AllReadyH.nil))
        · go_simp
          refine (unhide CT _ ((unhide G0).step (unhide BZ)).2).mono ?_
          rintro r u1 ⟨cl1, rfl, hT1, hb1⟩
          have T1 := hide hT1
          clear hT1
          have z1 := hb1.size
          have BZ1 := hide ((unhide BZ).trans (hb1.mono (unhide BZ).size))
          clear hb1
          go_wp2_with fail
          refine hK.out _ _ ?_ (fun _ => ?_)
          · have g := (unhide G0).step (unhide BZ1)
            exact ⟨g.at0, g.tl.at0⟩
          clear hK K
          try simp only [Act.put, List.setIfInBounds_toArray, List.set_cons_zero, List.set_cons_succ, List.getElem_toArray, List.getElem_cons_zero, List.getElem_cons_succ]
          refine wpAnyH_ready (rs := [4, 6]) (by kernel_rfl) (by simp) ?_
          refine AllReadyH.cons rfl (fun K hK => ?_) (AllReadyH.cons rfl (fun K hK => ?_) (AllReadyH.nil))
          · go_simp
            refine (unhide CN _).mono ?_
            rintro r u2 ⟨rfl, hb2⟩
            have T2 := hide ((unhide T1).step hb2)
            have z2 := hb2.size
            have BZ2 := hide ((unhide BZ1).trans (hb2.mono (unhide BZ1).size))
            clear hb2
            go_wp2_with fail
            refine hK.out _ _ ?_ (fun _ => ?_)
            · have g := (unhide G0).step (unhide BZ2)
              exact ⟨g.at0, g.tl.at0⟩
            clear hK K
            try simp only [Act.put, List.setIfInBounds_toArray, List.set_cons_zero, List.set_cons_succ, List.getElem_toArray, List.getElem_cons_zero, List.getElem_cons_succ]
            refine wpAnyH_ready (rs := [5, 6]) (by kernel_rfl) (by simp) ?_
            refine AllReadyH.cons rfl (fun K hK => ?_) (AllReadyH.cons rfl (fun K hK => ?_) (AllReadyH.nil))
            · go_simp
              refine (unhide CI _ _ _ _ (unhide T2)).mono ?_
              rintro r u3 ⟨cs, rfl, hW3, hb3, hcs, hca9⟩
              have AN3 := hide hW3
              clear hW3
              have z3 := hb3.size
              have BZ3 := hide ((unhide BZ2).trans (hb3.mono (unhide BZ2).size))
              clear hb3
              go_wp2_with fail
              refine hK.out _ _ ?_ (fun _ => ?_)
              · have g := (unhide G0).step (unhide BZ3)
                exact ⟨g.at0, g.tl.at0⟩
              clear hK K
              try simp only [Act.put, List.setIfInBounds_toArray, List.set_cons_zero, List.set_cons_succ, List.getElem_toArray, List.getElem_cons_zero, List.getElem_cons_succ]
              refine wpAnyH_ready (rs := [6]) (by kernel_rfl) (by simp) ?_
              refine AllReadyH.cons rfl (fun K hK => ?_) (AllReadyH.nil)
              go_simp
              have HM4 := hide (heap_alloc_new u3 (.cells loZ 39))
              have BZ4 := hide ((unhide BZ3).alloc (unhide BZ3).size (.cells loZ 39))
              have hn4 : Below u3.heap.size u3 (u3.alloc (.cells loZ 39)) := (Below.refl _ _).alloc (Nat.le_refl _) _
              have z4 : (u3.alloc (.cells loZ 39)).heap.size = u3.heap.size + 1 := szA _ _
              have zl4 : (u3.alloc (.cells #[.slice none 0 0, .slice none 0 0, .slice none 0 0, .int .i64 0, .int .i64 0] 39)).heap.size = u3.heap.size + 1 := szA _ _
              have AN4 := hide ((unhide AN3).step hn4)
              clear hn4
              refine hK.out _ _ ?_ (fun _ => ?_)
              · have g := (unhide G0).step (unhide BZ4)
                exact ⟨g.at0, g.tl.at0⟩
              clear hK K
              try simp only [Act.put, List.setIfInBounds_toArray, List.set_cons_zero, List.set_cons_succ, List.getElem_toArray, List.getElem_cons_zero, List.getElem_cons_succ]
              refine wpAnyH_ready (rs := [7]) (by kernel_rfl) (by simp) ?_
              refine AllReadyH.cons rfl (fun K hK => ?_) AllReadyH.nil
              refine if_in (by rfl) ?_
              refine wp_store_row 39 (.tmp 14) (.tmp 74) rfl u3.heap.size cs rfl rfl 39 loZ (unhide HM4) (by rw [hcs]; exact infoLo) (by rw [hcs]; rfl) hca9 ?_
              have hMy : w13.heap.size ≤ u3.heap.size := by have := (unhide BZ).size; omega
              have BZe := hide (below_rowL (unhide BZ4) hMy cs)
              refine hK.out _ _ ?_ (fun _ => ?_)
              · have g := (unhide G0).step (unhide BZe)
                exact ⟨g.at0, g.tl.at0⟩
              clear hK K
              try simp only [Act.put, List.setIfInBounds_toArray, List.set_cons_zero, List.set_cons_succ, List.getElem_toArray, List.getElem_cons_zero, List.getElem_cons_succ]
              refine wpAnyH_done (by kernel_rfl) ?_ _
              go_wp2_with fail
              go_meet
              have hoM : u3.heap.size ≤ u3.heap.size ∨ u3.heap.size + 1 ≤ u2.heap.size := by omega
              exact ⟨u3.heap.size, u2.heap.size, u3.heap.size, cs, rfl, unhide BZe, hMy, setRow_heap _ _ loZ cs 39 (0, 0) (unhide HM4), (unhide AN4).rg (rgPut _ _ _) hoM, hcs, hca9, by have := (unhide BZ).size; omega, by rw [szR]; omega, by omega⟩
            · go_simp
              have HM5 := hide (heap_alloc_new u2 (.cells loZ 39))
              have BZ5 := hide ((unhide BZ2).alloc (unhide BZ2).size (.cells loZ 39))
              have hn5 : Below u2.heap.size u2 (u2.alloc (.cells loZ 39)) := (Below.refl _ _).alloc (Nat.le_refl _) _
              have z5 : (u2.alloc (.cells loZ 39)).heap.size = u2.heap.size + 1 := szA _ _
              have zl5 : (u2.alloc (.cells #[.slice none 0 0, .slice none 0 0, .slice none 0 0, .int .i64 0, .int .i64 0] 39)).heap.size = u2.heap.size + 1 := szA _ _
              have T5 := hide ((unhide T2).step hn5)
              clear hn5
              refine hK.out _ _ ?_ (fun _ => ?_)
              · have g := (unhide G0).step (unhide BZ5)
                exact ⟨g.at0, g.tl.at0⟩
              clear hK K
              try simp only [Act.put, List.setIfInBounds_toArray, List.set_cons_zero, List.set_cons_succ, List.getElem_toArray, List.getElem_cons_zero, List.getElem_cons_succ]
              refine wpAnyH_ready (rs := [5]) (by kernel_rfl) (by simp) ?_
              refine AllReadyH.cons rfl (fun K hK => ?_) (AllReadyH.nil)
              go_simp
              refine (unhide CI _ _ _ _ (unhide T5)).mono ?_
              rintro r u6 ⟨cs, rfl, hW6, hb6, hcs, hca9⟩
              have AN6 := hide hW6
              clear hW6
              have z6 := hb6.size
              have BZ6 := hide ((unhide BZ5).trans (hb6.mono (unhide BZ5).size))
              have HM6 := hide ((hb6.block _ (Array.getElem?_eq_some_iff.1 (unhide HM5)).1).trans (unhide HM5))
              clear hb6
              go_wp2_with fail
              refine hK.out _ _ ?_ (fun _ => ?_)
              · have g := (unhide G0).step (unhide BZ6)
                exact ⟨g.at0, g.tl.at0⟩
              clear hK K
              try simp only [Act.put, List.setIfInBounds_toArray, List.set_cons_zero, List.set_cons_succ, List.getElem_toArray, List.getElem_cons_zero, List.getElem_cons_succ]
              refine wpAnyH_ready (rs := [7]) (by kernel_rfl) (by simp) ?_
              refine AllReadyH.cons rfl (fun K hK => ?_) AllReadyH.nil
              refine if_in (by rfl) ?_
              refine wp_store_row 39 (.tmp 14) (.tmp 74) rfl u2.heap.size cs rfl rfl 39 loZ (unhide HM6) (by rw [hcs]; exact infoLo) (by rw [hcs]; rfl) hca9 ?_
              have hMy : w13.heap.size ≤ u2.heap.size := by have := (unhide BZ).size; omega
              have BZe := hide (below_rowL (unhide BZ6) hMy cs)
              refine hK.out _ _ ?_ (fun _ => ?_)
              · have g := (unhide G0).step (unhide BZe)
                exact ⟨g.at0, g.tl.at0⟩
              clear hK K
              try simp only [Act.put, List.setIfInBounds_toArray, List.set_cons_zero, List.set_cons_succ, List.getElem_toArray, List.getElem_cons_zero, List.getElem_cons_succ]
              refine wpAnyH_done (by kernel_rfl) ?_ _
              go_wp2_with fail
              go_meet
              have hoM : u6.heap.size ≤ u2.heap.size ∨ u2.heap.size + 1 ≤ (u2.alloc (.cells loZ 39)).heap.size := by omega
              exact ⟨u2.heap.size, (u2.alloc (.cells loZ 39)).heap.size, u6.heap.size, cs, rfl, unhide BZe, hMy, setRow_heap _ _ loZ cs 39 (0, 0) (unhide HM6), (unhide AN6).rg (rgPut _ _ _) hoM, hcs, hca9, by have := (unhide BZ).size; omega, by rw [szR]; omega, by omega⟩
          · go_simp
            have HM7 := hide (heap_alloc_new u1 (.cells loZ 39))
            have BZ7 := hide ((unhide BZ1).alloc (unhide BZ1).size (.cells loZ 39))
            have hn7 : Below u1.heap.size u1 (u1.alloc (.cells loZ 39)) := (Below.refl _ _).alloc (Nat.le_refl _) _
            have z7 : (u1.alloc (.cells loZ 39)).heap.size = u1.heap.size + 1 := szA _ _
            have zl7 : (u1.alloc (.cells #[.slice none 0 0, .slice none 0 0, .slice none 0 0, .int .i64 0, .int .i64 0] 39)).heap.size = u1.heap.size + 1 := szA _ _
            have T7 := hide ((unhide T1).step hn7)
            clear hn7
            refine hK.out _ _ ?_ (fun _ => ?_)
            · have g := (unhide G0).step (unhide BZ7)
              exact ⟨g.at0, g.tl.at0⟩
            clear hK K
            try simp only [Act.put, List.setIfInBounds_toArray, List.set_cons_zero, List.set_cons_succ, List.getElem_toArray, List.getElem_cons_zero, List.getElem_cons_succ]
            refine wpAnyH_ready (rs := [4]) (by kernel_rfl) (by simp) ?_
            refine AllReadyH.cons rfl (fun K hK => ?_) (AllReadyH.nil)
            go_simp
            refine (unhide CN _).mono ?_
            rintro r u8 ⟨rfl, hb8⟩
            have T8 := hide ((unhide T7).step hb8)
            have z8 := hb8.size
            have BZ8 := hide ((unhide BZ7).trans (hb8.mono (unhide BZ7).size))
            have HM8 := hide ((hb8.block _ (Array.getElem?_eq_some_iff.1 (unhide HM7)).1).trans (unhide HM7))
            clear hb8
            go_wp2_with fail
            refine hK.out _ _ ?_ (fun _ => ?_)
            · have g := (unhide G0).step (unhide BZ8)
              exact ⟨g.at0, g.tl.at0⟩
            clear hK K
            try simp only [Act.put, List.setIfInBounds_toArray, List.set_cons_zero, List.set_cons_succ, List.getElem_toArray, List.getElem_cons_zero, List.getElem_cons_succ]
            refine wpAnyH_ready (rs := [5]) (by kernel_rfl) (by simp) ?_
            refine AllReadyH.cons rfl (fun K hK => ?_) (AllReadyH.nil)
            go_simp
            refine (unhide CI _ _ _ _ (unhide T8)).mono ?_
            rintro r u9 ⟨cs, rfl, hW9, hb9, hcs, hca9⟩
            have AN9 := hide hW9
            clear hW9
            have z9 := hb9.size
            have BZ9 := hide ((unhide BZ8).trans (hb9.mono (unhide BZ8).size))
            have HM9 := hide ((hb9.block _ (Array.getElem?_eq_some_iff.1 (unhide HM8)).1).trans (unhide HM8))
            clear hb9
            go_wp2_with fail
            refine hK.out _ _ ?_ (fun _ => ?_)
            · have g := (unhide G0).step (unhide BZ9)
              exact ⟨g.at0, g.tl.at0⟩
            clear hK K
            try simp only [Act.put, List.setIfInBounds_toArray, List.set_cons_zero, List.set_cons_succ, List.getElem_toArray, List.getElem_cons_zero, List.getElem_cons_succ]
            refine wpAnyH_ready (rs := [7]) (by kernel_rfl) (by simp) ?_
            refine AllReadyH.cons rfl (fun K hK => ?_) AllReadyH.nil
            refine if_in (by rfl) ?_
            refine wp_store_row 39 (.tmp 14) (.tmp 74) rfl u1.heap.size cs rfl rfl 39 loZ (unhide HM9) (by rw [hcs]; exact infoLo) (by rw [hcs]; rfl) hca9 ?_
            have hMy : w13.heap.size ≤ u1.heap.size := by have := (unhide BZ).size; omega
            have BZe := hide (below_rowL (unhide BZ9) hMy cs)
            refine hK.out _ _ ?_ (fun _ => ?_)
            · have g := (unhide G0).step (unhide BZe)
              exact ⟨g.at0, g.tl.at0⟩
            clear hK K
            try simp only [Act.put, List.setIfInBounds_toArray, List.set_cons_zero, List.set_cons_succ, List.getElem_toArray, List.getElem_cons_zero, List.getElem_cons_succ]
            refine wpAnyH_done (by kernel_rfl) ?_ _
            go_wp2_with fail
            go_meet
            have hoM : u9.heap.size ≤ u1.heap.size ∨ u1.heap.size + 1 ≤ u8.heap.size := by omega
            exact ⟨u1.heap.size, u8.heap.size, u9.heap.size, cs, rfl, unhide BZe, hMy, setRow_heap _ _ loZ cs 39 (0, 0) (unhide HM9), (unhide AN9).rg (rgPut _ _ _) hoM, hcs, hca9, by have := (unhide BZ).size; omega, by rw [szR]; omega, by omega⟩
        · go_simp
          have HM10 := hide (heap_alloc_new y (.cells loZ 39))
          have BZ10 := hide ((unhide BZ).alloc (unhide BZ).size (.cells loZ 39))
          have hn10 : Below y.heap.size y (y.alloc (.cells loZ 39)) := (Below.refl _ _).alloc (Nat.le_refl _) _
          have z10 : (y.alloc (.cells loZ 39)).heap.size = y.heap.size + 1 := szA _ _
          have zl10 : (y.alloc (.cells #[.slice none 0 0, .slice none 0 0, .slice none 0 0, .int .i64 0, .int .i64 0] 39)).heap.size = y.heap.size + 1 := szA _ _
          clear hn10
          refine hK.out _ _ ?_ (fun _ => ?_)
          · have g := (unhide G0).step (unhide BZ10)
            exact ⟨g.at0, g.tl.at0⟩
          clear hK K
          try simp only [Act.put, List.setIfInBounds_toArray, List.set_cons_zero, List.set_cons_succ, List.getElem_toArray, List.getElem_cons_zero, List.getElem_cons_succ]
          refine wpAnyH_ready (rs := [1]) (by kernel_rfl) (by simp) ?_
          refine AllReadyH.cons rfl (fun K hK => ?_) (AllReadyH.nil)
          go_simp
          refine (unhide CT _ ((unhide G0).step (unhide BZ10)).2).mono ?_
          rintro r u11 ⟨cl11, rfl, hT11, hb11⟩
          have T11 := hide hT11
          clear hT11
          have z11 := hb11.size
          have BZ11 := hide ((unhide BZ10).trans (hb11.mono (unhide BZ10).size))
          have HM11 := hide ((hb11.block _ (Array.getElem?_eq_some_iff.1 (unhide HM10)).1).trans (unhide HM10))
          clear hb11
          go_wp2_with fail
          refine hK.out _ _ ?_ (fun _ => ?_)
          · have g := (unhide G0).step (unhide BZ11)
            exact ⟨g.at0, g.tl.at0⟩
          clear hK K
          try simp only [Act.put, List.setIfInBounds_toArray, List.set_cons_zero, List.set_cons_succ, List.getElem_toArray, List.getElem_cons_zero, List.getElem_cons_succ]
          refine wpAnyH_ready (rs := [4]) (by kernel_rfl) (by simp) ?_
          refine AllReadyH.cons rfl (fun K hK => ?_) (AllReadyH.nil)
          go_simp
          refine (unhide CN _).mono ?_
          rintro r u12 ⟨rfl, hb12⟩
          have T12 := hide ((unhide T11).step hb12)
          have z12 := hb12.size
          have BZ12 := hide ((unhide BZ11).trans (hb12.mono (unhide BZ11).size))
          have HM12 := hide ((hb12.block _ (Array.getElem?_eq_some_iff.1 (unhide HM11)).1).trans (unhide HM11))
          clear hb12
          go_wp2_with fail
          refine hK.out _ _ ?_ (fun _ => ?_)
          · have g := (unhide G0).step (unhide BZ12)
            exact ⟨g.at0, g.tl.at0⟩
          clear hK K
          try simp only [Act.put, List.setIfInBounds_toArray, List.set_cons_zero, List.set_cons_succ, List.getElem_toArray, List.getElem_cons_zero, List.getElem_cons_succ]
          refine wpAnyH_ready (rs := [5]) (by kernel_rfl) (by simp) ?_
          refine AllReadyH.cons rfl (fun K hK => ?_) (AllReadyH.nil)
          go_simp
          refine (unhide CI _ _ _ _ (unhide T12)).mono ?_
          rintro r u13 ⟨cs, rfl, hW13, hb13, hcs, hca9⟩
          have AN13 := hide hW13
          clear hW13
          have z13 := hb13.size
          have BZ13 := hide ((unhide BZ12).trans (hb13.mono (unhide BZ12).size))
          have HM13 := hide ((hb13.block _ (Array.getElem?_eq_some_iff.1 (unhide HM12)).1).trans (unhide HM12))
          clear hb13
          go_wp2_with fail
          refine hK.out _ _ ?_ (fun _ => ?_)
          · have g := (unhide G0).step (unhide BZ13)
            exact ⟨g.at0, g.tl.at0⟩
          clear hK K
          try simp only [Act.put, List.setIfInBounds_toArray, List.set_cons_zero, List.set_cons_succ, List.getElem_toArray, List.getElem_cons_zero, List.getElem_cons_succ]
          refine wpAnyH_ready (rs := [7]) (by kernel_rfl) (by simp) ?_
          refine AllReadyH.cons rfl (fun K hK => ?_) AllReadyH.nil
          refine if_in (by rfl) ?_
          refine wp_store_row 39 (.tmp 14) (.tmp 74) rfl y.heap.size cs rfl rfl 39 loZ (unhide HM13) (by rw [hcs]; exact infoLo) (by rw [hcs]; rfl) hca9 ?_
          have hMy : w13.heap.size ≤ y.heap.size := by have := (unhide BZ).size; omega
          have BZe := hide (below_rowL (unhide BZ13) hMy cs)
          refine hK.out _ _ ?_ (fun _ => ?_)
          · have g := (unhide G0).step (unhide BZe)
            exact ⟨g.at0, g.tl.at0⟩
          clear hK K
          try simp only [Act.put, List.setIfInBounds_toArray, List.set_cons_zero, List.set_cons_succ, List.getElem_toArray, List.getElem_cons_zero, List.getElem_cons_succ]
          refine wpAnyH_done (by kernel_rfl) ?_ _
          go_wp2_with fail
          go_meet
          have hoM : u13.heap.size ≤ y.heap.size ∨ y.heap.size + 1 ≤ u12.heap.size := by omega
          exact ⟨y.heap.size, u12.heap.size, u13.heap.size, cs, rfl, unhide BZe, hMy, setRow_heap _ _ loZ cs 39 (0, 0) (unhide HM13), (unhide AN13).rg (rgPut _ _ _) hoM, hcs, hca9, by have := (unhide BZ).size; omega, by rw [szR]; omega, by omega⟩
      case rest =>
        obtain ⟨Hb, lo3, hi3, ch2, rfl, hb9, _, hh9, hH9, hhz, hha, _, _, _⟩ := hcut
        rename World => w15
        have HR16 := hide (And.intro ((unhide HR13).1.step hb9) (And.intro ((unhide HR13).2.1.step hb9) (And.intro ((unhide HR13).2.2.step hb9) (And.intro hH9 hh9))))
        clear hb9 hH9 hh9 HR13
        go_wp2_with (first
          | (refine wpList_load_row rfl 39 (.tmp 14) rfl Hb rfl 39 ch2 (0, 0) _ (unhide HR16).2.2.2.2 Try.underlying39 rfl (by rw [hhz]; exact infoLo) ?_)
          | (refine wpList_load_row rfl 39 (.tmp 8) rfl M rfl 39 cw (0, 0) _ (unhide HR16).1.l.m Try.underlying39 rfl (by rw [hwz]; exact infoLo) ?_))
        refine (eqG hB (unhide HR16).2.2.2.1 (unhide HR16).2.1).mono ?_
        rintro r w17 ⟨rfl, hb⟩
        have HR17 := hide (And.intro ((unhide HR16).1.step hb) ((unhide HR16).2.2.1.step hb))
        clear hb HR16
        go_wp2_with (first | (refine wpList_load_row rfl 39 (.tmp 10) rfl Gb rfl 39 cg (0, 0) _ (unhide HR17).1.l.g Try.underlying39 rfl (by rw [hgz]; exact infoLo) ?_))
        refine (unhide CH _ (unhide HR17).2).mono ?_
        rintro r w18 ⟨rfl, hb⟩
        have HR18 := hide ((unhide HR17).1.step hb).l.b
        clear hb HR17
        go_wp2
        go_ret
        exact ⟨rfl, unhide HR18⟩
end Go.Proofs.Ytcanpnbpofdpcaa
