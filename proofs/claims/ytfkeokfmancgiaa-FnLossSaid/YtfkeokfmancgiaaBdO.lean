/- The program's lose: a run is given up; memory that was there stands. -/
import Derived.Test.YtfkeokfmancgiaaBdK
namespace Go.Proofs.Ytfkeokfmancgiaa
open Go.RowKit
/-- All blocks but two stand. -/
structure Tn (B M : Nat) (q q' : World) : Prop where
  size : q.heap.size ≤ q'.heap.size
  block : ∀ g, g < q.heap.size → g ≠ B → g ≠ M → q'.heap[g]? = q.heap[g]?
theorem Tn.refl (B M : Nat) (q : World) : Tn B M q q := ⟨Nat.le_refl _, fun _ _ _ _ => rfl⟩
theorem Tn.trans {B M : Nat} {q q' q'' : World} (h : Tn B M q q') (h' : Tn B M q' q'') : Tn B M q q'' := ⟨Nat.le_trans h.size h'.size, fun g hg n1 n2 => (h'.block g (Nat.lt_of_lt_of_le hg h.size) n1 n2).trans (h.block g hg n1 n2)⟩
theorem Tn.below {B M : Nat} {q q' : World} (h : Below q.heap.size q q') : Tn B M q q' := ⟨h.size, fun g hg _ _ => h.block g hg⟩
theorem Tn.grown {B M : Nat} {q q' : World} (h : q.grownBy q' (some M)) : Tn B M q q' := ⟨h.size, fun g hg _ n2 => h.block g hg (fun e => n2 (Option.some.inj e))⟩
theorem Tn.holds {B M : Nat} {q q' : World} {v : Value} {R : List Fg} (h : Tn B M q q') (hR : HoldsG q v R) (hB : ∀ cs, q.heap[B]? ≠ some (.cells cs 33)) (hM : ∀ cs, q.heap[M]? ≠ some (.cells cs 33)) : HoldsG q' v R := by
  rcases hR with h1 | ⟨g, cp, cur, e1, e2, e3⟩
  · exact Or.inl h1
  · exact Or.inr ⟨g, cp, cur, e1, (h.block g (Array.getElem?_eq_some_iff.1 e2).1 (fun e => hB cur (e ▸ e2)) (fun e => hM cur (e ▸ e2))).trans e2, e3⟩
/-- Parts taken out, one by one. -/
def dels (R F : List Fg) : List Fg := R.foldl (fun F f => delP F f.seq) F
theorem dels_snoc (R F : List Fg) (f : Fg) : dels (R ++ [f]) F = delP (dels R F) f.seq := by
  unfold dels
  rw [List.foldl_append]
  rfl
theorem getG {w : World} {v : Value} {F : List Fg} (h : HoldsG w v F) (i : Nat) (hi : i < F.length) : ∃ g cp, v = .slice (some ⟨g, 0, none⟩) F.length cp ∧ w.cell? ⟨g, i * 4, none⟩ = some (.int .i64 F[i].seq) ∧ w.cell? ⟨g, i * 4 + 1, none⟩ = some (.bool F[i].beg) ∧ w.cell? ⟨g, i * 4 + 2, none⟩ = some (.bool F[i].fin) ∧ w.cell? ⟨g, i * 4 + 3, none⟩ = some (.string F[i].text) := by
  rcases h with ⟨_, _, _, e⟩ | ⟨g, cp, cur, e, q1, _, q3⟩
  · rw [e] at hi; exact absurd hi (Nat.not_lt_zero _)
  · have k := fgcells_get F i F[i] (List.getElem?_eq_getElem hi)
    exact ⟨g, cp, e, by rw [cell_of_row _ _ _ _ _ _ q1]; exact (q3 _ (by omega)).trans k.1, by rw [cell_of_row _ _ _ _ _ _ q1]; exact (q3 _ (by omega)).trans k.2.1, by rw [cell_of_row _ _ _ _ _ _ q1]; exact (q3 _ (by omega)).trans k.2.2.1, by rw [cell_of_row _ _ _ _ _ _ q1]; exact (q3 _ (by omega)).trans k.2.2.2⟩
theorem step_del {ops : Array Oper} {o : Oper} {a : Act} {K : Act → World → Prop} {Q : Exit → Act → World → Prop} {E : Prop} (w : World) (hgd : o.guard = none) (x y : Operand) (hop : o.op = Op.call { callee := Callee.builtin Builtin.delete, args := #[x, y], argTypes := #[67, 2] }) (M n : Nat) (F : List Fg) (s : Int)
    (hx : a.eval x = .map (some M)) (hy : a.eval y = .int .i64 s) (hm : MapB w M n F) (hs : 0 ≤ s ∧ s ≤ 16777215)
    (h : ∀ w', MapB w' M n (delP F s) → w.grownBy w' (some M) → K (a.put o.dst (.tuple #[])) w') :
    if Region.wanted o (yielded ops a.tmps) = true then Oper.wp Try.prog o a w K Q else E := by
  have hw : Region.wanted o (yielded ops a.tmps) = true := by simp [Region.wanted, hgd]
  rw [if_pos hw]
  obtain ⟨w', hrun, r1, r2⟩ := hm.drop key64 Try.underlying67 (keyI s (by omega)) o.type
  rw [delD F s] at r1
  unfold Oper.wp execOp
  simp only [hop, resolve, invoke, builtin, Sem.run_bind, Sem.run_pure, Result.andThen_ok, List.map_toArray, List.map_cons, List.map_nil, hx, hy, hrun]
  exact h w' r1 r2.grown
theorem Bw.setL {w q : World} {B M k : Nat} {lv gv : Value} {F : List Fg} {lost : Int} (h : Bw w B M k lv gv F lost q) (x : Int) : Bw w B M k lv gv F x (q.setCell ⟨B, 3, none⟩ (.int .i64 x)) ∧ Tn B M q (q.setCell ⟨B, 3, none⟩ (.int .i64 x)) :=
  ⟨⟨heap_setCell_same _ _ 3 _ _ _ h.c, h.m.keep (heap_setCell_other _ _ _ _ (fun e => h.ne h.c e.symm)), h.r, h.lB, h.lM, h.b.setCell (p := ⟨B, 3, none⟩) h.lB _⟩, ⟨by rw [World.size_setCell]; exact Nat.le_refl _, fun g _ n1 _ => heap_setCell_other _ _ _ _ n1⟩⟩
set_option linter.unusedSimpArgs false in
set_option maxHeartbeats 8000000 in
set_option maxRecDepth 100000 in
theorem iLoseB (w q : World) (B M k : Nat) (lv gv : Value) (F R : List Fg) (lost : Int) (ad : Option Addr) (cp : Nat) (hB : Bw w B M k lv gv F lost q) (hR : HoldsG q (.slice ad R.length cp) R) (hok : ∀ g ∈ R, 0 ≤ g.seq ∧ g.seq ≤ 16777215) (hlen : R.length ≤ 1000) (hl0 : 0 ≤ lost ∧ lost ≤ 1000000) :
    Calls Try.prog 67 #[.pointer (some ⟨B, 0, none⟩), .slice ad R.length cp] q fun e q' => e = .returned (.tuple #[]) ∧ Bw w B M k lv gv (dels R F) (lost + (R.length : Nat)) q' ∧ Tn B M q q' := by
  have nB : ∀ cs, q.heap[B]? ≠ some (.cells cs 33) := fun cs e => by rw [hB.c] at e; cases e
  have nM : ∀ cs, q.heap[M]? ≠ some (.cells cs 33) := fun cs e => hB.ne e rfl
  have HR := hide fun (z : World) (h : Tn B M q z) => h.holds hR nB nM
  have H0 := hide hB
  clear hB hR nB nM
  go_enter Try.func67, Try.ntmps67
  go_upto_region 1 with fail
  go_loopg [8] R.length (fun g y wr => ∃ i : Nat, y = .int .i64 (i : Nat) ∧ i + g = R.length ∧ Bw w B M k lv gv (dels (R.take i) F) (lost + (i : Nat)) wr ∧ Tn B M q wr)
  case atStart => exact ⟨0, rfl, Nat.zero_add _, by simpa [dels] using unhide H0, Tn.refl _ _ _⟩
  case round =>
    obtain ⟨i, rfl, hig, hb, htn⟩ := hrel
    by_cases hlt : i < R.length
    · have e1 : (i : Int) < (R.length : Int) := by omega
      obtain ⟨g, cp', ev, c0, c1, c2, c3⟩ := getG (unhide HR wr htn) i hlt
      cases ev
      have hfi := hok R[i] (List.getElem_mem hlt)
      have htk : R.take (i + 1) = R.take i ++ [R[i]] := by rw [List.take_succ_eq_append_getElem hlt]
      generalize R[i] = fr at c0 c1 c2 c3 hfi htk
      obtain ⟨s1, s2, s3, s4⟩ := fr
      dsimp only at c0 c1 c2 c3 hfi
      have H1 := hide (And.intro hb htn)
      clear hb htn H0
      go_upto_region 3 with fail
      refine gen_world (fun z => Bw w B M k lv gv (dels (R.take i) F) (lost + (i : Nat)) z ∧ Tn B M q z ∧ z.heap[wr.heap.size]? = some (.cells #[.int .i64 s1, .bool s2, .bool s3, .string s4] 33)) ?_ ?_
      · have hbA := (Below.refl wr.heap.size wr).alloc (Nat.le_refl _) (.cells #[.int .i64 s1, .bool s2, .bool s3, .string s4] 33)
        exact ⟨(unhide H1).1.step hbA, (unhide H1).2.trans (Tn.below hbA), heap_alloc_new wr _⟩
      intro q6 hq6
      have H6 := hide hq6
      generalize wr.heap.size = A at *
      clear hq6 H1 c0 c1 c2 c3
      have HS : Hid (∀ z : World, z.heap[B]? = some (.cells #[lv, .map (some M), gv, .int .i64 (lost + (i : Nat))] 69) → z.heap[A]? = some (.cells #[.int .i64 s1, .bool s2, .bool s3, .string s4] 33) → z.cell? ⟨B, 1, none⟩ = some (.map (some M)) ∧ z.cell? ⟨A, 0, none⟩ = some (.int .i64 s1)) := hide fun z h1 h2 => ⟨(row4g h1).2.1, (row4g h2).1⟩
      go_cut [] (fun wx => Bw w B M k lv gv (delP (dels (R.take i) F) s1) (lost + (i : Nat)) wx ∧ Tn B M q wx)
      case first =>
        refine wp_region_held_drew (S := fun z => z.cell? ⟨B, 1, none⟩ = some (.map (some M)) ∧ z.cell? ⟨A, 0, none⟩ = some (.int .i64 s1)) (by kernel_rfl) (unhide HS _ (unhide H6).1.c (unhide H6).2.2) (fun hHeld => ?_)
        have D0 : Hid (Bw w B M k lv gv (dels (R.take i) F) (lost + (i : Nat)) q6.drew ∧ Tn B M q q6.drew ∧ q6.drew.heap[A]? = some (.cells #[.int .i64 s1, .bool s2, .bool s3, .string s4] 33)) := hide ⟨(unhide H6).1.step ((Below.refl _ _).drew), (unhide H6).2.1.trans (Tn.below ((Below.refl _ _).drew)), (unhide H6).2.2⟩
        generalize q6.drew = yy at D0 hHeld ⊢
        refine wpAnyH_take (i := 0) (v := ?vlo1_0) rfl (by kernel_rfl) (by kernel_rfl) (by kernel_rfl) (fun _ _ _ h => h) (Or.inl ⟨by rfl, ?hylo1_0⟩) (by assumption) ?_
        case hylo1_0 =>
          intro w hSw
          try dsimp only at hSw
          go_simp
          try with_reducible rfl
        try simp only [Act.put, List.setIfInBounds_toArray, List.set_cons_zero, List.set_cons_succ, List.getElem_toArray, List.getElem_cons_zero]
        refine wpAnyH_take (i := 1) (v := ?vlo2_1) rfl (by kernel_rfl) (by kernel_rfl) (by kernel_rfl) (fun _ _ _ h => h) (Or.inl ⟨by rfl, ?hylo2_1⟩) (by assumption) ?_
        case hylo2_1 =>
          intro w hSw
          try dsimp only at hSw
          go_simp
          try with_reducible rfl
        try simp only [Act.put, List.setIfInBounds_toArray, List.set_cons_zero, List.set_cons_succ, List.getElem_toArray, List.getElem_cons_zero, List.getElem_cons_succ]
        refine wpAnyH_take (i := 2) (v := ?vlo3_2) rfl (by kernel_rfl) (by kernel_rfl) (by kernel_rfl) (fun _ _ _ h => h) (Or.inl ⟨by rfl, ?hylo3_2⟩) (by assumption) ?_
        case hylo3_2 =>
          intro w hSw
          try dsimp only at hSw
          go_simp
          try with_reducible rfl
        try simp only [Act.put, List.setIfInBounds_toArray, List.set_cons_zero, List.set_cons_succ, List.getElem_toArray, List.getElem_cons_zero, List.getElem_cons_succ]
        refine wpAnyH_take (i := 3) (v := ?vlo4_3) rfl (by kernel_rfl) (by kernel_rfl) (by kernel_rfl) (fun _ _ _ h => h) (Or.inl ⟨by rfl, ?hylo4_3⟩) (by assumption) ?_
        case hylo4_3 =>
          intro w hSw
          try dsimp only at hSw
          go_simp
          try with_reducible rfl
        try simp only [Act.put, List.setIfInBounds_toArray, List.set_cons_zero, List.set_cons_succ, List.getElem_toArray, List.getElem_cons_zero, List.getElem_cons_succ]
        refine wpAnyH_take (i := 4) (v := ?vlo5_4) rfl (by kernel_rfl) (by kernel_rfl) (by kernel_rfl) (fun _ _ _ h => h) (Or.inl ⟨by rfl, ?hylo5_4⟩) (by assumption) ?_
        case hylo5_4 =>
          intro w hSw
          try dsimp only at hSw
          go_simp
          try with_reducible rfl
        try simp only [Act.put, List.setIfInBounds_toArray, List.set_cons_zero, List.set_cons_succ, List.getElem_toArray, List.getElem_cons_zero, List.getElem_cons_succ]
        refine wpAnyH_take (i := 5) (v := ?vlo6_5) rfl (by kernel_rfl) (by kernel_rfl) (by kernel_rfl) (fun _ _ _ h => h) (Or.inl ⟨by rfl, ?hylo6_5⟩) (by assumption) ?_
        case hylo6_5 =>
          intro w hSw
          try dsimp only at hSw
          go_simp
          try with_reducible rfl
        try simp only [Act.put, List.setIfInBounds_toArray, List.set_cons_zero, List.set_cons_succ, List.getElem_toArray, List.getElem_cons_zero, List.getElem_cons_succ]
        refine wpAnyH_ready (rs := [6]) (by kernel_rfl) (by simp) ?_
        refine AllReadyH.cons rfl (fun K hK => ?_) (AllReadyH.nil)
        refine step_del yy (by rfl) (.tmp 15) (.tmp 17) (by rfl) M k (dels (R.take i) F) s1 (by rfl) (by rfl) (unhide D0).1.m (by omega) ?_
        rintro z2 hm2 hg2
        have D2 := hide (And.intro ((unhide D0).1.turn hm2 (delP_ris _ (unhide D0).1.r) hg2) (And.intro ((unhide D0).2.1.trans (Tn.grown hg2)) ((hg2.block _ (Array.getElem?_eq_some_iff.1 (unhide D0).2.2).1 (fun e0 => (unhide D0).1.ne (unhide D0).2.2 (Option.some.inj e0))).trans (unhide D0).2.2)))
        clear hm2 hg2
        refine hK.out _ _ (unhide HS _ (unhide D2).1.c (unhide D2).2.2) (fun _ => ?_)
        clear hK K
        try simp only [Act.put, List.setIfInBounds_toArray, List.set_cons_zero, List.set_cons_succ, List.getElem_toArray, List.getElem_cons_zero, List.getElem_cons_succ]
        refine wpAnyH_done (by kernel_rfl) ?_ _
        go_wp2_with fail
        go_meet
        exact ⟨(unhide D2).1, (unhide D2).2.1⟩
      case rest =>
        have c3 := (row4g hcut.1.c).2.2.2
        have f3 := frz hcut.1.c 3
        have H7 := hide hcut
        clear hcut H6 HS
        go_wp2_with fail
        go_roundg (gk - 1)
        case measure => omega
        case rel =>
          obtain ⟨k1, k2⟩ := (unhide H7).1.setL (lost + (i : Int) + 1)
          have el : lost + ((i + 1 : Nat) : Int) = lost + (i : Int) + 1 := by omega
          exact ⟨i + 1, by push_cast; rfl, by omega, by rw [htk, dels_snoc, el]; exact k1, (unhide H7).2.trans k2⟩
    · have e1 : ¬ ((i : Int) < (R.length : Int)) := by omega
      have ei : i = R.length := by omega
      subst ei
      have H1 := hide (And.intro hb htn)
      clear hb htn H0
      go_wp2_with fail
      refine bodyPost_end (results_none rfl _ _ _) rfl ⟨rfl, ?_, (unhide H1).2⟩
      have := (unhide H1).1
      rw [List.take_length] at this
      exact this
end Go.Proofs.Ytfkeokfmancgiaa
