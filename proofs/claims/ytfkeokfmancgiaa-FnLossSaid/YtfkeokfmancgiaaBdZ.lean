/- The program's dropBeyond and list: the first parts given up, and the parts in their order; memory that was there stands. -/
import Derived.Test.YtfkeokfmancgiaaBdO
namespace Go.Proofs.Ytfkeokfmancgiaa
open Go.RowKit
theorem del_w {w : World} {ops : Array Oper} {rest : List Oper} {o : Oper} {a : Act} {Q : Exit → Act → World → Prop} (hgd : o.guard = none) (x y : Operand) (hop : o.op = Op.call { callee := Callee.builtin Builtin.delete, args := #[x, y], argTypes := #[67, 2] }) (M n : Nat) (F : List Fg) (s : Int)
    (hx : a.eval x = .map (some M)) (hy : a.eval y = .int .i64 s) (hm : MapB w M n F) (hs : 0 ≤ s ∧ s ≤ 16777215)
    (h : ∀ w', MapB w' M n (delP F s) → w.grownBy w' (some M) → wpList Try.prog ops Q rest (a.put o.dst (.tuple #[])) w') : wpList Try.prog ops Q (o :: rest) a w := by
  refine wpList_plain hgd fun K hK => ?_
  obtain ⟨w', hrun, r1, r2⟩ := hm.drop key64 Try.underlying67 (keyI s (by omega)) o.type
  rw [delD F s] at r1
  unfold Oper.wp execOp
  simp only [hop, resolve, invoke, builtin, Sem.run_bind, Sem.run_pure, Result.andThen_ok, List.map_toArray, List.map_cons, List.map_nil, hx, hy, hrun]
  exact hK _ _ (h w' r1 r2.grown)
theorem Tn.holdsI {B M : Nat} {q q' : World} {v : Value} {L : List Int} (h : Tn B M q q') (hR : HoldsI q v L) (hB : ∀ cs, q.heap[B]? ≠ some (.cells cs 2)) (hM : ∀ cs, q.heap[M]? ≠ some (.cells cs 2)) : HoldsI q' v L := by
  rcases hR with h1 | ⟨g, cp, cur, e1, e2, e3⟩
  · exact Or.inl h1
  · exact Or.inr ⟨g, cp, cur, e1, (h.block g (Array.getElem?_eq_some_iff.1 e2).1 (fun e => hB cur (e ▸ e2)) (fun e => hM cur (e ▸ e2))).trans e2, e3⟩
theorem getI {w : World} {v : Value} {L : List Int} (h : HoldsI w v L) (i : Nat) (hi : i < L.length) : ∃ g cp, v = .slice (some ⟨g, 0, none⟩) L.length cp ∧ w.cell? ⟨g, i, none⟩ = some (.int .i64 L[i]) := by
  rcases h with ⟨_, _, _, e⟩ | ⟨g, cp, cur, e, q1, _, q3⟩
  · rw [e] at hi; exact absurd hi (Nat.not_lt_zero _)
  · refine ⟨g, cp, e, ?_⟩
    rw [cell_of_row _ _ _ _ _ _ q1, q3 i hi]
    simp [icells, hi]
theorem MapB.len {q : World} {M k : Nat} {F : List Fg} (h : MapB q M k F) (ty : TypeId) : (Builtin.len_ #[67] ty #[.map (some M)]).run Try.prog q = .ok (.int .i64 (F.length : Nat)) q := by
  have := World.ownsMap.len h Try.underlying67 ty
  rw [sizeD] at this
  exact this
theorem del_head {f : Fg} {F : List Fg} (h : Ris (f :: F)) : delP (f :: F) f.seq = F := by
  obtain ⟨h1, _⟩ := List.pairwise_cons.1 h
  unfold delP
  rw [List.filter_cons, if_neg (by simp)]
  exact delP_none (fun x hx => by have := h1 x hx; omega)
set_option maxHeartbeats 8000000 in
set_option maxRecDepth 100000 in
theorem iDropB (w q : World) (B M k : Nat) (lv gv : Value) (F : List Fg) (lost : Int) (hB : Bw w B M k lv gv F lost q) (hok : ∀ g ∈ F, 0 ≤ g.seq ∧ g.seq ≤ 16777215) (hlen : F.length ≤ 1000) (hl0 : 0 ≤ lost ∧ lost ≤ 1000000) :
    Calls Try.prog 46 #[.pointer (some ⟨B, 0, none⟩)] q fun e q' => e = .returned (.tuple #[]) ∧ Bw w B M k lv gv (F.drop (F.length - 40)) (lost + (F.length - 40 : Nat)) q' ∧ Tn B M q q' := by
  have C := iSeqsB w q B M k lv gv F lost hB hlen
  have H0 := hide hB
  clear hB
  go_enter Try.func46, Try.ntmps46
  go_wp2_with fail
  refine C.mono ?_
  rintro e q1 ⟨v, rfl, hrow, hb1⟩
  have hB1 := (unhide H0).step hb1
  have hI : HoldsI q1 v (F.map (·.seq)) := HoldsI.own (by rw [List.length_map]; exact hrow)
  obtain ⟨ad, cp, ev⟩ := hI.form
  rw [List.length_map] at ev
  subst ev
  have nB : ∀ cs, q1.heap[B]? ≠ some (.cells cs 2) := fun cs e => by rw [hB1.c] at e; cases e
  have nM : ∀ cs, q1.heap[M]? ≠ some (.cells cs 2) := fun cs e => hB1.ne e rfl
  have HI := hide fun (z : World) (h : Tn B M q1 z) => h.holdsI hI nB nM
  have H1 := hide hB1
  have HT : Hid (Tn B M q q1) := hide (Tn.below hb1)
  clear hB1 hI nB nM hrow hb1 H0 C
  go_upto_region 1 with fail
  go_loopg [7] F.length (fun g y wr => ∃ i : Nat, y = .int .i64 (i : Nat) ∧ i + g = F.length ∧ i ≤ F.length - 40 ∧ Bw w B M k lv gv (F.drop i) (lost + (i : Nat)) wr ∧ Tn B M q1 wr)
  case atStart => exact ⟨0, rfl, Nat.zero_add _, Nat.zero_le _, by simpa using unhide H1, Tn.refl _ _ _⟩
  case round =>
    obtain ⟨i, rfl, hig, hi40, hb, htn⟩ := hrel
    by_cases hlt : i < F.length
    · have e1 : (i : Int) < (F.length : Int) := by omega
      obtain ⟨g, cp', ev, c0⟩ := getI (unhide HI wr htn) i (by rw [List.length_map]; exact hlt)
      rw [List.length_map] at ev
      cases ev
      rw [List.getElem_map] at c0
      have hfi := hok F[i] (List.getElem_mem hlt)
      have hdr : F.drop i = F[i] :: F.drop (i + 1) := (List.drop_eq_getElem_cons hlt)
      have c1 := (row4g hb.c).2.1
      have hln := hb.m.len
      rw [List.length_drop] at hln
      have hdel := del_head (f := F[i]) (F := F.drop (i + 1)) (by rw [← hdr]; exact hb.r)
      rw [← hdr] at hdel
      have hris : Ris (F.drop (i + 1)) := by have := hb.r; rw [hdr] at this; exact (List.pairwise_cons.1 this).2
      generalize (F[i]).seq = s at c0 hfi hdel
      have HD := hide (And.intro hdel hris)
      clear hdel hris hdr
      have H2 := hide (And.intro hb htn)
      clear hb htn H1
      by_cases h40 : F.length - i ≤ 40
      · have e2 : ((F.length - i : Nat) : Int) ≤ 40 := by omega
        have HE : Hid (i = F.length - 40) := hide (by omega)
        go_wp2_with fail
        refine bodyPost_ret (results_none rfl _ _ _) rfl ?_
        have hh := (unhide H2).1
        rw [unhide HE] at hh
        exact ⟨rfl, hh, (unhide HT).trans (unhide H2).2⟩
      · have e2 : ¬ (((F.length - i : Nat) : Int) ≤ 40) := by omega
        go_upto_region 4 with fail
        go_wp2_with (first
          | (refine del_w rfl (.tmp 20) (.tmp 21) rfl M k (F.drop i) s rfl rfl (unhide H2).1.m hfi ?_
             rintro z2 hm2 hg2
             rw [(unhide HD).1] at hm2
             have hB2 := (unhide H2).1.turn hm2 (unhide HD).2 hg2
             have c3 := (row4g hB2.c).2.2.2
             have f3 := frz hB2.c 3
             have H3 := hide (And.intro hB2 ((unhide H2).2.trans (Tn.grown hg2)))
             clear hm2 hg2 hB2))
        go_roundg (gk - 1)
        case measure => omega
        case rel =>
          obtain ⟨k1, k2⟩ := (unhide H3).1.setL (lost + (i : Int) + 1)
          have el : lost + ((i + 1 : Nat) : Int) = lost + (i : Int) + 1 := by omega
          exact ⟨i + 1, by push_cast; rfl, by omega, by omega, by rw [el]; exact k1, (unhide H3).2.trans k2⟩
    · have e1 : ¬ ((i : Int) < (F.length : Int)) := by omega
      have HE : Hid (i = F.length - 40) := hide (by omega)
      have H2 := hide (And.intro hb htn)
      clear hb htn H1
      go_wp2_with fail
      refine bodyPost_end (results_none rfl _ _ _) rfl ?_
      have hh := (unhide H2).1
      rw [unhide HE] at hh
      exact ⟨rfl, hh, (unhide HT).trans (unhide H2).2⟩
theorem find_at {F : List Fg} (h : Ris F) (i : Nat) (hi : i < F.length) : findP F (F[i]).seq = F[i] := by
  have e : F = F.take i ++ F[i] :: F.drop (i + 1) := by rw [← List.drop_eq_getElem_cons hi, List.take_append_drop]
  have h2 : Ris (F.take i ++ F[i] :: F.drop (i + 1)) := by rw [← e]; exact h
  have := find_self h2
  rw [← e] at this
  exact this
theorem own_fg {wr w9 : World} {base n : Nat} {x : Value} {cs : List Value} (ho : wr.ownsRow base 33 4 x n cs) (o : Obj) (hg : (wr.alloc o).grownBy w9 x.ownBlock) (g : Nat) (ob : Obj) (h1 : wr.heap[g]? = some ob) (h2 : ∀ cur, ob ≠ .cells cur 33) : w9.heap[g]? = some ob := by
  have hlt := (Array.getElem?_eq_some_iff.1 h1).1
  refine (hg.block g (by simp; omega) (fun e => ?_)).trans ((Below.heap_alloc _ _ _ hlt).trans h1)
  rcases ho.2 with ⟨e1, _⟩ | ⟨g', cap, cur, e1, _, e3, _⟩
  · rw [e1] at e; cases e
  · rw [e1] at e
    have e' : g = g' := Option.some.inj e
    rw [e', e3] at h1
    exact h2 cur (Option.some.inj h1).symm
theorem Bw.kept {w q q' : World} {B M k : Nat} {lv gv : Value} {F : List Fg} {lost : Int} (h : Bw w B M k lv gv F lost q) (hk : ∀ (g : Nat) (ob : Obj), q.heap[g]? = some ob → (∀ cur, ob ≠ .cells cur 33) → q'.heap[g]? = some ob) (hb : Below w.heap.size w q') : Bw w B M k lv gv F lost q' := by
  refine ⟨hk _ _ h.c (fun cur e => by cases e), ?_, h.r, h.lB, h.lM, hb⟩
  obtain ⟨es, clock, h1, h2⟩ := h.m
  exact ⟨es, clock, hk _ _ h1 (fun cur e => by cases e), h2⟩
theorem HoldsI.kept {q q' : World} {v : Value} {L : List Int} (h : HoldsI q v L) (hk : ∀ (g : Nat) (ob : Obj), q.heap[g]? = some ob → (∀ cur, ob ≠ .cells cur 33) → q'.heap[g]? = some ob) : HoldsI q' v L :=
  h.imp id fun ⟨g, cp, cur, e1, e2, e3⟩ => ⟨g, cp, cur, e1, hk _ _ e2 (fun cur e => by cases e), e3⟩
set_option maxHeartbeats 8000000 in
set_option maxRecDepth 100000 in
theorem iListB (w q : World) (B M k : Nat) (lv gv : Value) (F : List Fg) (lost : Int) (hB : Bw w B M k lv gv F lost q) (hok : ∀ g ∈ F, 0 ≤ g.seq ∧ g.seq ≤ 16777215) (hlen : F.length ≤ 1000) :
    Calls Try.prog 68 #[.pointer (some ⟨B, 0, none⟩)] q fun e q' => ∃ v, e = .returned v ∧ q'.ownsRow q.heap.size 33 4 v F.length (fgcells F) ∧ Below q.heap.size q q' := by
  have C := iSeqsB w q B M k lv gv F lost hB hlen
  have hwq := hB.b.size
  have H0 := hide hB
  clear hB
  go_enter Try.func68, Try.ntmps68
  go_wp2_with fail
  refine C.mono ?_
  rintro e q1 ⟨v, rfl, hrow, hb1⟩
  have hI : HoldsI q1 v (F.map (·.seq)) := HoldsI.own (by rw [List.length_map]; exact hrow)
  obtain ⟨ad, cp, ev⟩ := hI.form
  rw [List.length_map] at ev
  subst ev
  have HI := hide hI
  have H1 := hide (And.intro ((unhide H0).step hb1) hb1)
  clear hI hrow hb1 H0 C
  go_upto_region 3 with fail
  go_loopg [3, 9] F.length (fun g x y wr => ∃ i : Nat, y = .int .i64 (i : Nat) ∧ i + g = F.length ∧ wr.ownsRow q.heap.size 33 4 x i (fgcells (F.take i)) ∧ Bw w B M k lv gv F lost wr ∧ HoldsI wr (.slice ad F.length cp) (F.map (·.seq)) ∧ Below q.heap.size q wr)
  case atStart => exact ⟨0, rfl, Nat.zero_add _, World.ownsRow_nil _ _ _ _, (unhide H1).1, unhide HI, (unhide H1).2⟩
  case round =>
    obtain ⟨i, rfl, hig, hown, hb, hi0, hbl⟩ := hrel
    by_cases hlt : i < F.length
    · have e1 : (i : Int) < (F.length : Int) := by omega
      obtain ⟨g, cp', ev, c0⟩ := getI hi0 i (by rw [List.length_map]; exact hlt)
      rw [List.length_map] at ev
      cases ev
      rw [List.getElem_map] at c0
      have hfi := hok F[i] (List.getElem_mem hlt)
      have c1 := (row4g hb.c).2.1
      have hlk := hb.m.look1 (F[i]).seq (by omega)
      rw [find_at hb.r i hlt] at hlk
      have htk : F.take (i + 1) = F.take i ++ [F[i]] := by rw [List.take_succ_eq_append_getElem hlt]
      have hol : (F.take i).length = i := by rw [List.length_take]; omega
      generalize F[i] = fr at c0 hfi hlk htk
      obtain ⟨s1, s2, s3, s4⟩ := fr
      unfold fgV at hlk
      dsimp only at c0 hfi hlk
      obtain ⟨oa, oc, eo⟩ := own_form hown
      subst eo
      have HO := hide (And.intro hown (And.intro hb (And.intro hi0 hbl)))
      have HK := hide (And.intro htk hol)
      clear hown hb hi0 hbl htk hol H1 HI
      go_wp2_with (first
        | (at_builtin
           refine append_fg rfl _ _ rfl q.heap.size _ (F.take i) i (unhide HK).2 rfl (unhide HO).1 s1 s2 s3 s4 rfl (by omega) (unhide HO).2.2.2.size ?_
           rintro v9 w9 ho9 hg9
           have H9 := hide (And.intro ho9 hg9)
           clear ho9 hg9))
      go_roundg (gk - 1)
      case measure => omega
      case rel =>
        obtain ⟨h1, h2, h3, h4⟩ := unhide HO
        have hk := own_fg h1 _ (unhide H9).2
        have hlo : ∀ b, (Value.slice oa i oc).ownBlock = some b → q.heap.size ≤ b := fun b hb => (h1.lt b hb).1
        have hq := h4.alloc h4.size (.cells #[.int .i64 s1, .bool s2, .bool s3, .string s4] 33)
        have hw := h2.b.alloc h2.b.size (.cells #[.int .i64 s1, .bool s2, .bool s3, .string s4] 33)
        refine ⟨i + 1, by push_cast; rfl, by omega, ?_, h2.kept hk (hw.grown (unhide H9).2 hw.size (fun b hb => Nat.le_trans hwq (hlo b hb))), h3.kept hk, hq.grown (unhide H9).2 hq.size hlo⟩
        rw [(unhide HK).1]
        exact (unhide H9).1
    · have e1 : ¬ ((i : Int) < (F.length : Int)) := by omega
      have ei : i = F.length := by omega
      subst ei
      have HO := hide (And.intro hown hbl)
      clear hown hb hi0 hbl H1 HI
      go_wp2_with fail
      go_ret
      have := (unhide HO).1
      rw [List.take_length] at this
      exact ⟨_, rfl, this, (unhide HO).2⟩
end Go.Proofs.Ytfkeokfmancgiaa
