/- The program's out: what a bundle at work answers; memory that was there stands. -/
import Derived.Test.YtfkeokfmancgiaaBdSe
namespace Go.Proofs.Ytfkeokfmancgiaa
open Go.RowKit
theorem own_lowB {w : World} {base base' : Nat} {e : TypeId} {size : Nat} {v : Value} {n : Nat} {xs : List Value} (h : w.ownsRow base e size v n xs) (hb : base' ≤ base) : w.ownsRow base' e size v n xs :=
  ⟨h.1, h.2.imp id fun ⟨g, cap, cur, a1, a2, a3⟩ => ⟨g, cap, cur, a1, by omega, a3⟩⟩
theorem infoBo : (Try.prog.info? 37).map (·.size) = some 5 := by kernel_rfl
theorem info2B : (Try.prog.info? 29).map (·.size) = some 2 := by kernel_rfl
theorem loadBo {W : World} {E : Nat} {cs : Array Value} (h : W.heap[E]? = some (.cells cs 37)) (hs : cs.size = 5 := by rfl) : (loadVar 37 ⟨E, 0, none⟩).run Try.prog W = .ok (.agg cs) W :=
  run_loadVar_row (P := Try.prog) _ _ 37 37 cs (0, 0) _ h Try.underlying37 rfl (by rw [hs]; exact infoBo)
/-- A row stands, where a block of another kind is written. -/
theorem own_row {z : World} {A : Nat} {cs0 cs : Array Value} {T T2 : TypeId} (hA : z.heap[A]? = some (.cells cs0 T2)) (hT : T ≠ T2) {base n sz : Nat} {v : Value} {xs : List Value} (ho : z.ownsRow base T sz v n xs) : (z.setRow A cs).ownsRow base T sz v n xs :=
  ⟨ho.1, ho.2.imp id fun ⟨g, cap, cur, e1, e2, e3, e4⟩ => ⟨g, cap, cur, e1, e2, (setRow_otherB z A g cs (fun e => by
    rw [e, hA] at e3
    injection e3 with e3
    injection e3 with _ e3
    exact hT e3.symm)).trans e3, e4⟩⟩
set_option linter.unusedSimpArgs false in
set_option maxHeartbeats 16000000 in
set_option maxRecDepth 100000 in
theorem iOutB (w q : World) (B M k : Nat) (la ga : Option Addr) (lc gc : Nat) (L : List Int) (G : List ByteArray) (F : List Fg) (lost : Int) (hB : Bw w B M k (.slice la L.length lc) (.slice ga G.length gc) F lost q) (hok : ∀ g ∈ F, 0 ≤ g.seq ∧ g.seq ≤ 16777215) (hlen : F.length ≤ 1000) :
    Calls Try.prog 47 #[.pointer (some ⟨B, 0, none⟩)] q fun e q' => ∃ pv, e = .returned (.agg #[(.slice la L.length lc), pv, (.slice ga G.length gc), .int .i64 lost, .int .i64 0]) ∧ q'.ownsRow q.heap.size 33 4 pv F.length (fgcells F) ∧ Below q.heap.size q q' := by
  have hBl : B < q.heap.size := (Array.getElem?_eq_some_iff.1 hB.c).1
  have hbA := (Below.refl q.heap.size q).alloc (Nat.le_refl _) (.cells #[.slice none 0 0, .slice none 0 0, .slice none 0 0, .int .i64 0, .int .i64 0] 37)
  have H0 : Hid (Bw w B M k (.slice la L.length lc) (.slice ga G.length gc) F lost (q.alloc (.cells #[.slice none 0 0, .slice none 0 0, .slice none 0 0, .int .i64 0, .int .i64 0] 37)) ∧ (q.alloc (.cells #[.slice none 0 0, .slice none 0 0, .slice none 0 0, .int .i64 0, .int .i64 0] 37)).heap[q.heap.size]? = some (.cells #[.slice none 0 0, .slice none 0 0, .slice none 0 0, .int .i64 0, .int .i64 0] 37) ∧ Below q.heap.size q (q.alloc (.cells #[.slice none 0 0, .slice none 0 0, .slice none 0 0, .int .i64 0, .int .i64 0] 37))) := hide ⟨hB.step hbA, heap_alloc_new q _, hbA⟩
  clear hB hbA
  go_enter Try.func47, Try.ntmps47
  go_upto_region 1 with fail
  refine gen_world (fun z => Bw w B M k (.slice la L.length lc) (.slice ga G.length gc) F lost z ∧ z.heap[q.heap.size]? = some (.cells #[.slice none 0 0, .slice none 0 0, .slice none 0 0, .int .i64 0, .int .i64 0] 37) ∧ Below q.heap.size q z) (unhide H0) ?_
  clear H0
  intro w1 hw1
  have HW := hide hw1
  have hl1 : q.heap.size < w1.heap.size := (Array.getElem?_eq_some_iff.1 hw1.2.1).1
  clear hw1
  have HS : Hid (∀ z : World, Bw w B M k (.slice la L.length lc) (.slice ga G.length gc) F lost z → z.cell? ⟨B, 0, none⟩ = some (.slice la L.length lc)) := hide fun z h => (row4g h.c).1
  go_cut [3] (fun x3 wx => ∃ A3 pa pc, x3 = .pointer (some ⟨A3, 0, none⟩) ∧ wx.heap[A3]? = some (.cells #[(.slice la L.length lc), .slice pa F.length pc] 29) ∧ Below w1.heap.size w1 wx ∧ wx.ownsRow w1.heap.size 33 4 (.slice pa F.length pc) F.length (fgcells F))
  case first =>
    refine wp_region_held_drew (S := fun z => z.cell? ⟨B, 0, none⟩ = some (.slice la L.length lc)) (by kernel_rfl) (unhide HS _ ((unhide HW).1.step ((Below.refl _ _).drew))) (fun hHeld => ?_)
    have D0 := hide ((unhide HW).1.step ((Below.refl _ _).drew))
    have BY := hide ((Below.refl w1.heap.size w1).drew)
    generalize w1.drew = yy at D0 BY hHeld ⊢
    refine wpAnyH_take (i := 0) (v := ?vou1_0) rfl (by kernel_rfl) (by kernel_rfl) (by kernel_rfl) (fun _ _ _ h => h) (Or.inl ⟨by rfl, ?hyou1_0⟩) (by assumption) ?_
    case hyou1_0 =>
      intro w hSw
      try dsimp only at hSw
      go_simp
      try with_reducible rfl
    try simp only [Act.put, List.setIfInBounds_toArray, List.set_cons_zero, List.set_cons_succ, List.getElem_toArray, List.getElem_cons_zero]
    refine wpAnyH_take (i := 1) (v := ?vou2_1) rfl (by kernel_rfl) (by kernel_rfl) (by kernel_rfl) (fun _ _ _ h => h) (Or.inl ⟨by rfl, ?hyou2_1⟩) (by assumption) ?_
    case hyou2_1 =>
      intro w hSw
      try dsimp only at hSw
      go_simp
      try with_reducible rfl
    try simp only [Act.put, List.setIfInBounds_toArray, List.set_cons_zero, List.set_cons_succ, List.getElem_toArray, List.getElem_cons_zero, List.getElem_cons_succ]
    refine wpAnyH_take (i := 2) (v := ?vou3_2) rfl (by kernel_rfl) (by kernel_rfl) (by kernel_rfl) (fun _ _ _ h => h) (Or.inl ⟨by rfl, ?hyou3_2⟩) (by assumption) ?_
    case hyou3_2 =>
      intro w hSw
      try dsimp only at hSw
      go_simp
      try with_reducible rfl
    try simp only [Act.put, List.setIfInBounds_toArray, List.set_cons_zero, List.set_cons_succ, List.getElem_toArray, List.getElem_cons_zero, List.getElem_cons_succ]
    refine wpAnyH_take (i := 3) (v := ?vou4_3) rfl (by kernel_rfl) (by kernel_rfl) (by kernel_rfl) (fun _ _ _ h => h) (Or.inl ⟨by rfl, ?hyou4_3⟩) (by assumption) ?_
    case hyou4_3 =>
      intro w hSw
      try dsimp only at hSw
      go_simp
      try with_reducible rfl
    try simp only [Act.put, List.setIfInBounds_toArray, List.set_cons_zero, List.set_cons_succ, List.getElem_toArray, List.getElem_cons_zero, List.getElem_cons_succ]
    refine wpAnyH_take (i := 4) (v := ?vou5_4) rfl (by kernel_rfl) (by kernel_rfl) (by kernel_rfl) (fun _ _ _ h => h) (Or.inl ⟨by rfl, ?hyou5_4⟩) (by assumption) ?_
    case hyou5_4 =>
      intro w hSw
      try dsimp only at hSw
      go_simp
      try with_reducible rfl
    try simp only [Act.put, List.setIfInBounds_toArray, List.set_cons_zero, List.set_cons_succ, List.getElem_toArray, List.getElem_cons_zero, List.getElem_cons_succ]
    refine wpAnyH_ready (rs := [5, 7]) (by kernel_rfl) (by simp) ?_
    refine AllReadyH.cons rfl (fun K hK => ?_) (AllReadyH.cons rfl (fun K hK => ?_) (AllReadyH.nil))
    · go_simp
      refine (iListB w yy B M k (.slice la L.length lc) (.slice ga G.length gc) F lost (unhide D0) hok hlen).mono ?_
      rintro e z1 ⟨pv, rfl, hp1, hb1⟩
      obtain ⟨pa, pc, ev⟩ := own_form hp1
      subst ev
      have BA := hide hb1
      have HP0 := hide hp1
      clear hp1 hb1
      go_wp2_with fail
      refine hK.out _ _ (unhide HS _ ((unhide D0).step (unhide BA))) (fun _ => ?_)
      clear hK K
      try simp only [Act.put, List.setIfInBounds_toArray, List.set_cons_zero, List.set_cons_succ, List.getElem_toArray, List.getElem_cons_zero, List.getElem_cons_succ]
      refine wpAnyH_take (i := 6) (v := ?vou6_6) rfl (by kernel_rfl) (by kernel_rfl) (by kernel_rfl) (fun _ _ _ h => h) (Or.inl ⟨by rfl, ?hyou6_6⟩) (by assumption) ?_
      case hyou6_6 =>
        intro w hSw
        try dsimp only at hSw
        go_simp
        try with_reducible rfl
      try simp only [Act.put, List.setIfInBounds_toArray, List.set_cons_zero, List.set_cons_succ, List.getElem_toArray, List.getElem_cons_zero, List.getElem_cons_succ]
      refine wpAnyH_ready (rs := [7]) (by kernel_rfl) (by simp) ?_
      refine AllReadyH.cons rfl (fun K hK => ?_) (AllReadyH.nil)
      have BC := hide ((unhide BA).alloc (unhide BA).size (.cells #[.slice none 0 0, .slice none 0 0] 29))
      have HA := hide (heap_alloc_new z1 (.cells #[.slice none 0 0, .slice none 0 0] 29))
      have HP := hide ((unhide HP0).alloc (.cells #[.slice none 0 0, .slice none 0 0] 29))
      go_simp
      refine hK.out _ _ (unhide HS _ ((unhide D0).step (unhide BC))) (fun _ => ?_)
      clear hK K
      try simp only [Act.put, List.setIfInBounds_toArray, List.set_cons_zero, List.set_cons_succ, List.getElem_toArray, List.getElem_cons_zero, List.getElem_cons_succ]
      refine wpAnyH_ready (rs := [8]) (by kernel_rfl) (by simp) ?_
      refine AllReadyH.cons rfl (fun K hK => ?_) (AllReadyH.nil)
      refine if_in (by rfl) ?_
      refine wp_store_row 29 (.tmp 3) (.tmp 10) rfl z1.heap.size #[(.slice la L.length lc), .slice pa F.length pc] rfl rfl 29 #[.slice none 0 0, .slice none 0 0] (unhide HA) info2B rfl (by kernel_rfl) ?_
      have BE := hide (below_rowB (unhide BC) (g := z1.heap.size) ((unhide BA).size) #[(.slice la L.length lc), .slice pa F.length pc])
      have HF := hide (And.intro (setRow_heap _ _ #[.slice none 0 0, .slice none 0 0] #[(.slice la L.length lc), .slice pa F.length pc] 29 (0, 0) (unhide HA)) (own_row (cs := #[(.slice la L.length lc), .slice pa F.length pc]) (unhide HA) (by decide) (unhide HP)))
      refine hK.out _ _ (unhide HS _ ((unhide D0).step (unhide BE))) (fun _ => ?_)
      clear hK K
      try simp only [Act.put, List.setIfInBounds_toArray, List.set_cons_zero, List.set_cons_succ, List.getElem_toArray, List.getElem_cons_zero, List.getElem_cons_succ]
      refine wpAnyH_done (by kernel_rfl) ?_ _
      go_wp2_with fail
      go_meet
      exact ⟨z1.heap.size, pa, pc, rfl, (unhide HF).1, (unhide BY).trans ((unhide BE).mono (unhide BY).size), own_lowB (unhide HF).2 (unhide BY).size⟩
    · have BA := hide ((Below.refl yy.heap.size yy).alloc (Nat.le_refl _) (.cells #[.slice none 0 0, .slice none 0 0] 29))
      have HA0 := hide (heap_alloc_new yy (.cells #[.slice none 0 0, .slice none 0 0] 29))
      go_simp
      refine hK.out _ _ (unhide HS _ ((unhide D0).step (unhide BA))) (fun _ => ?_)
      clear hK K
      try simp only [Act.put, List.setIfInBounds_toArray, List.set_cons_zero, List.set_cons_succ, List.getElem_toArray, List.getElem_cons_zero, List.getElem_cons_succ]
      refine wpAnyH_ready (rs := [5]) (by kernel_rfl) (by simp) ?_
      refine AllReadyH.cons rfl (fun K hK => ?_) (AllReadyH.nil)
      go_simp
      refine (iListB w (yy.alloc (.cells #[.slice none 0 0, .slice none 0 0] 29)) B M k (.slice la L.length lc) (.slice ga G.length gc) F lost ((unhide D0).step (unhide BA)) hok hlen).mono ?_
      rintro e z1 ⟨pv, rfl, hp1, hb1⟩
      obtain ⟨pa, pc, ev⟩ := own_form hp1
      subst ev
      have HA := hide ((hb1.block _ (Array.getElem?_eq_some_iff.1 (unhide HA0)).1).trans (unhide HA0))
      have BC := hide ((unhide BA).trans (hb1.mono (unhide BA).size))
      have HP := hide (own_lowB hp1 (unhide BA).size)
      clear hp1 hb1
      go_wp2_with fail
      refine hK.out _ _ (unhide HS _ ((unhide D0).step (unhide BC))) (fun _ => ?_)
      clear hK K
      try simp only [Act.put, List.setIfInBounds_toArray, List.set_cons_zero, List.set_cons_succ, List.getElem_toArray, List.getElem_cons_zero, List.getElem_cons_succ]
      refine wpAnyH_take (i := 6) (v := ?vou7_6) rfl (by kernel_rfl) (by kernel_rfl) (by kernel_rfl) (fun _ _ _ h => h) (Or.inl ⟨by rfl, ?hyou7_6⟩) (by assumption) ?_
      case hyou7_6 =>
        intro w hSw
        try dsimp only at hSw
        go_simp
        try with_reducible rfl
      try simp only [Act.put, List.setIfInBounds_toArray, List.set_cons_zero, List.set_cons_succ, List.getElem_toArray, List.getElem_cons_zero, List.getElem_cons_succ]
      refine wpAnyH_ready (rs := [8]) (by kernel_rfl) (by simp) ?_
      refine AllReadyH.cons rfl (fun K hK => ?_) (AllReadyH.nil)
      refine if_in (by rfl) ?_
      refine wp_store_row 29 (.tmp 3) (.tmp 10) rfl yy.heap.size #[(.slice la L.length lc), .slice pa F.length pc] rfl rfl 29 #[.slice none 0 0, .slice none 0 0] (unhide HA) info2B rfl (by kernel_rfl) ?_
      have BE := hide (below_rowB (unhide BC) (g := yy.heap.size) (Nat.le_refl _) #[(.slice la L.length lc), .slice pa F.length pc])
      have HF := hide (And.intro (setRow_heap _ _ #[.slice none 0 0, .slice none 0 0] #[(.slice la L.length lc), .slice pa F.length pc] 29 (0, 0) (unhide HA)) (own_row (cs := #[(.slice la L.length lc), .slice pa F.length pc]) (unhide HA) (by decide) (unhide HP)))
      refine hK.out _ _ (unhide HS _ ((unhide D0).step (unhide BE))) (fun _ => ?_)
      clear hK K
      try simp only [Act.put, List.setIfInBounds_toArray, List.set_cons_zero, List.set_cons_succ, List.getElem_toArray, List.getElem_cons_zero, List.getElem_cons_succ]
      refine wpAnyH_done (by kernel_rfl) ?_ _
      go_wp2_with fail
      go_meet
      exact ⟨yy.heap.size, pa, pc, rfl, (unhide HF).1, (unhide BY).trans ((unhide BE).mono (unhide BY).size), own_lowB (unhide HF).2 (unhide BY).size⟩
  case rest =>
    obtain ⟨A3, pa, pc, e3, hA3, hbx, hpx⟩ := hcut
    subst e3
    have nA : A3 ≠ q.heap.size := fun e => by
      have h := (hbx.block q.heap.size hl1).trans (unhide HW).2.1
      rw [← e, hA3] at h
      injection h with h
      injection h with _ h
      exact absurd h (by decide)
    have nB : B ≠ q.heap.size := by omega
    have D1 : Hid ((wc.heap[A3]? = some (.cells #[(.slice la L.length lc), .slice pa F.length pc] 29) ∧ wc.heap[B]? = some (.cells #[(.slice la L.length lc), .map (some M), (.slice ga G.length gc), .int .i64 lost] 69)) ∧ wc.heap[q.heap.size]? = some (.cells #[.slice none 0 0, .slice none 0 0, .slice none 0 0, .int .i64 0, .int .i64 0] 37) ∧ wc.ownsRow q.heap.size 33 4 (.slice pa F.length pc) F.length (fgcells F) ∧ Below q.heap.size q wc) := hide ⟨⟨hA3, ((unhide HW).1.step hbx).c⟩, (hbx.block q.heap.size hl1).trans (unhide HW).2.1, own_lowB hpx (Nat.le_of_lt hl1), (unhide HW).2.2.trans (hbx.mono (Nat.le_of_lt hl1))⟩
    clear hA3 hbx hpx HW HS
    have HT : Hid (∀ z : World, z.heap[A3]? = some (.cells #[(.slice la L.length lc), .slice pa F.length pc] 29) → z.heap[B]? = some (.cells #[(.slice la L.length lc), .map (some M), (.slice ga G.length gc), .int .i64 lost] 69) → (z.cell? ⟨A3, 0, none⟩ = some (.slice la L.length lc) ∧ z.cell? ⟨A3, 1, none⟩ = some (.slice pa F.length pc)) ∧ z.cell? ⟨B, 2, none⟩ = some (.slice ga G.length gc) ∧ z.cell? ⟨B, 3, none⟩ = some (.int .i64 lost)) := hide fun z h1 h2 => ⟨row2b h1, (row4g h2).2.2.1, (row4g h2).2.2.2⟩
    go_upto_region 2 with fail
    refine wp_region_held_drew (S := fun z => (z.cell? ⟨A3, 0, none⟩ = some (.slice la L.length lc) ∧ z.cell? ⟨A3, 1, none⟩ = some (.slice pa F.length pc)) ∧ z.cell? ⟨B, 2, none⟩ = some (.slice ga G.length gc) ∧ z.cell? ⟨B, 3, none⟩ = some (.int .i64 lost)) (by kernel_rfl) (unhide HT _ (unhide D1).1.1 (unhide D1).1.2) (fun hHeld => ?_)
    have D2 : Hid ((wc.drew.heap[A3]? = some (.cells #[(.slice la L.length lc), .slice pa F.length pc] 29) ∧ wc.drew.heap[B]? = some (.cells #[(.slice la L.length lc), .map (some M), (.slice ga G.length gc), .int .i64 lost] 69)) ∧ wc.drew.heap[q.heap.size]? = some (.cells #[.slice none 0 0, .slice none 0 0, .slice none 0 0, .int .i64 0, .int .i64 0] 37) ∧ wc.drew.ownsRow q.heap.size 33 4 (.slice pa F.length pc) F.length (fgcells F) ∧ Below q.heap.size q wc.drew) := hide ⟨(unhide D1).1, (unhide D1).2.1, (unhide D1).2.2.1, (unhide D1).2.2.2.drew⟩
    generalize wc.drew = yy at D2 hHeld ⊢
    clear D1
    refine wpAnyH_take (i := 0) (v := ?vov1_0) rfl (by kernel_rfl) (by kernel_rfl) (by kernel_rfl) (fun _ _ _ h => h) (Or.inl ⟨by rfl, ?hyov1_0⟩) (by assumption) ?_
    case hyov1_0 =>
      intro w hSw
      try dsimp only at hSw
      go_simp
      try with_reducible rfl
    try simp only [Act.put, List.setIfInBounds_toArray, List.set_cons_zero, List.set_cons_succ, List.getElem_toArray, List.getElem_cons_zero]
    refine wpAnyH_take (i := 1) (v := ?vov2_1) rfl (by kernel_rfl) (by kernel_rfl) (by kernel_rfl) (fun _ _ _ h => h) (Or.inl ⟨by rfl, ?hyov2_1⟩) (by assumption) ?_
    case hyov2_1 =>
      intro w hSw
      try dsimp only at hSw
      go_simp
      try with_reducible rfl
    try simp only [Act.put, List.setIfInBounds_toArray, List.set_cons_zero, List.set_cons_succ, List.getElem_toArray, List.getElem_cons_zero, List.getElem_cons_succ]
    refine wpAnyH_take (i := 2) (v := ?vov3_2) rfl (by kernel_rfl) (by kernel_rfl) (by kernel_rfl) (fun _ _ _ h => h) (Or.inl ⟨by rfl, ?hyov3_2⟩) (by assumption) ?_
    case hyov3_2 =>
      intro w hSw
      try dsimp only at hSw
      go_simp
      try with_reducible rfl
    try simp only [Act.put, List.setIfInBounds_toArray, List.set_cons_zero, List.set_cons_succ, List.getElem_toArray, List.getElem_cons_zero, List.getElem_cons_succ]
    refine wpAnyH_take (i := 3) (v := ?vov4_3) rfl (by kernel_rfl) (by kernel_rfl) (by kernel_rfl) (fun _ _ _ h => h) (Or.inl ⟨by rfl, ?hyov4_3⟩) (by assumption) ?_
    case hyov4_3 =>
      intro w hSw
      try dsimp only at hSw
      go_simp
      try with_reducible rfl
    try simp only [Act.put, List.setIfInBounds_toArray, List.set_cons_zero, List.set_cons_succ, List.getElem_toArray, List.getElem_cons_zero, List.getElem_cons_succ]
    refine wpAnyH_take (i := 4) (v := ?vov5_4) rfl (by kernel_rfl) (by kernel_rfl) (by kernel_rfl) (fun _ _ _ h => h) (Or.inl ⟨by rfl, ?hyov5_4⟩) (by assumption) ?_
    case hyov5_4 =>
      intro w hSw
      try dsimp only at hSw
      go_simp
      try with_reducible rfl
    try simp only [Act.put, List.setIfInBounds_toArray, List.set_cons_zero, List.set_cons_succ, List.getElem_toArray, List.getElem_cons_zero, List.getElem_cons_succ]
    refine wpAnyH_take (i := 5) (v := ?vov6_5) rfl (by kernel_rfl) (by kernel_rfl) (by kernel_rfl) (fun _ _ _ h => h) (Or.inl ⟨by rfl, ?hyov6_5⟩) (by assumption) ?_
    case hyov6_5 =>
      intro w hSw
      try dsimp only at hSw
      go_simp
      try with_reducible rfl
    try simp only [Act.put, List.setIfInBounds_toArray, List.set_cons_zero, List.set_cons_succ, List.getElem_toArray, List.getElem_cons_zero, List.getElem_cons_succ]
    refine wpAnyH_take (i := 6) (v := ?vov7_6) rfl (by kernel_rfl) (by kernel_rfl) (by kernel_rfl) (fun _ _ _ h => h) (Or.inl ⟨by rfl, ?hyov7_6⟩) (by assumption) ?_
    case hyov7_6 =>
      intro w hSw
      try dsimp only at hSw
      go_simp
      try with_reducible rfl
    try simp only [Act.put, List.setIfInBounds_toArray, List.set_cons_zero, List.set_cons_succ, List.getElem_toArray, List.getElem_cons_zero, List.getElem_cons_succ]
    refine wpAnyH_take (i := 7) (v := ?vov8_7) rfl (by kernel_rfl) (by kernel_rfl) (by kernel_rfl) (fun _ _ _ h => h) (Or.inl ⟨by rfl, ?hyov8_7⟩) (by assumption) ?_
    case hyov8_7 =>
      intro w hSw
      try dsimp only at hSw
      go_simp
      try with_reducible rfl
    try simp only [Act.put, List.setIfInBounds_toArray, List.set_cons_zero, List.set_cons_succ, List.getElem_toArray, List.getElem_cons_zero, List.getElem_cons_succ]
    refine wpAnyH_take (i := 8) (v := ?vov9_8) rfl (by kernel_rfl) (by kernel_rfl) (by kernel_rfl) (fun _ _ _ h => h) (Or.inl ⟨by rfl, ?hyov9_8⟩) (by assumption) ?_
    case hyov9_8 =>
      intro w hSw
      try dsimp only at hSw
      go_simp
      try with_reducible rfl
    try simp only [Act.put, List.setIfInBounds_toArray, List.set_cons_zero, List.set_cons_succ, List.getElem_toArray, List.getElem_cons_zero, List.getElem_cons_succ]
    refine wpAnyH_take (i := 9) (v := ?vov10_9) rfl (by kernel_rfl) (by kernel_rfl) (by kernel_rfl) (fun _ _ _ h => h) (Or.inl ⟨by rfl, ?hyov10_9⟩) (by assumption) ?_
    case hyov10_9 =>
      intro w hSw
      try dsimp only at hSw
      go_simp
      try with_reducible rfl
    try simp only [Act.put, List.setIfInBounds_toArray, List.set_cons_zero, List.set_cons_succ, List.getElem_toArray, List.getElem_cons_zero, List.getElem_cons_succ]
    refine wpAnyH_ready (rs := [10]) (by kernel_rfl) (by simp) ?_
    refine AllReadyH.cons rfl (fun K hK => ?_) (AllReadyH.nil)
    refine if_in (by rfl) ?_
    refine wp_store_row 37 (.tmp 2) (.tmp 20) rfl q.heap.size #[(.slice la L.length lc), .slice pa F.length pc, (.slice ga G.length gc), .int .i64 lost, .int .i64 0] rfl rfl 37 #[.slice none 0 0, .slice none 0 0, .slice none 0 0, .int .i64 0, .int .i64 0] (unhide D2).2.1 infoBo rfl (by kernel_rfl) ?_
    have HF := hide (And.intro (setRow_heap _ _ #[.slice none 0 0, .slice none 0 0, .slice none 0 0, .int .i64 0, .int .i64 0] #[(.slice la L.length lc), .slice pa F.length pc, (.slice ga G.length gc), .int .i64 lost, .int .i64 0] 37 (0, 0) (unhide D2).2.1) (And.intro (own_row (cs := #[(.slice la L.length lc), .slice pa F.length pc, (.slice ga G.length gc), .int .i64 lost, .int .i64 0]) (unhide D2).2.1 (by decide) (unhide D2).2.2.1) (below_rowB (unhide D2).2.2.2 (Nat.le_refl _) #[(.slice la L.length lc), .slice pa F.length pc, (.slice ga G.length gc), .int .i64 lost, .int .i64 0])))
    refine hK.out _ _ (unhide HT _ ((setRow_otherB _ _ _ _ nA).trans (unhide D2).1.1) ((setRow_otherB _ _ _ _ nB).trans (unhide D2).1.2)) (fun _ => ?_)
    clear hK K
    try simp only [Act.put, List.setIfInBounds_toArray, List.set_cons_zero, List.set_cons_succ, List.getElem_toArray, List.getElem_cons_zero, List.getElem_cons_succ]
    refine wpAnyH_done (by kernel_rfl) ?_ _
    go_wp2_with fail
    refine bodyPost_ret (v := .agg #[(.slice la L.length lc), .slice pa F.length pc, (.slice ga G.length gc), .int .i64 lost, .int .i64 0]) (by simp [results, Try.results47, asAddr, loadBo (unhide HF).1]) rfl ?_
    exact ⟨_, rfl, (unhide HF).2.1, (unhide HF).2.2⟩
end Go.Proofs.Ytfkeokfmancgiaa
