/- Texts and frames put behind rows of an end at work, at a step of a region that draws its order; no condition but those named. -/
import Derived.Test.YtjgnldkncoighaaLwP
import Derived.ArgAppend
import Derived.Deep.RegionHeld3
namespace Go.Proofs.Ytjgnldkncoighaa
open Go.RowKit
theorem HoldsQ.lower {w : World} {b b' : Nat} {v : Value} {L : List ByteArray} (h : HoldsQ w b v L) (hb : b' ≤ b) : HoldsQ w b' v L :=
  h.imp id fun ⟨g, o, cp, cur, h1, h2, h3, h4⟩ => ⟨g, o, cp, cur, h1, h2, by omega, h4⟩
theorem run_append_q {W : World} {base : Nat} {v : Value} {Q : List ByteArray} {t : ByteArray} {A : Nat} (ty : TypeId) (hq : HoldsQ W base v Q) (hA : W.cell? ⟨A, 0, none⟩ = some (.string t)) (hQ : Q.length ≤ 1000) (hbase : base ≤ W.heap.size) :
    ∃ v' W', (Builtin.append_ #[23, 23] ty #[v, .slice (some ⟨A, 0, none⟩) 1 1]).run Try.prog W = .ok v' W' ∧ HoldsQ W' base v' (Q ++ [t]) ∧ W.grownBy W' v.ownBlock := by
  obtain ⟨i, hi, hz, hsz, hby⟩ := sinfo
  have hnews : ∀ j u, ([.string t] : List Value)[j]? = some u → W.cell? ((⟨A, 0, none⟩ : Addr).add j) = some u := by
    intro j u hu
    cases j with
    | zero => simp at hu; rw [Addr.add_lit, ← hu]; exact hA
    | succ j => simp at hu
  have hone : ∀ u ∈ ([.string t] : List Value), u.oneCell' = true := by
    intro u hu
    simp at hu
    rw [hu]
    rfl
  rcases hq with ⟨rfl, rfl⟩ | ⟨g, o, cp, cur, rfl, h2, h3, h4, h5, h6⟩
  · obtain ⟨v', W', h1, h2, h3, _⟩ := run_append_own (P := Try.prog) W base 23 ty 9 i _ 1 16 Try.underlying23 hi hz hsz hby rfl (by decide) (.slice none 0 0) 0 [] (World.ownsRow_nil _ _ _ _) ⟨A, 0, none⟩ 1 1 [.string t] rfl hnews hone
      (by unfold maxLen; omega) (by omega) hbase
    exact ⟨v', W', h1, HoldsQ.own (L := [] ++ [t]) h2, h3⟩
  · by_cases hr : Q.length + 1 ≤ cp
    · have hc : o + Q.length < cur.size := by omega
      have hcell : ∀ j, j < ([.string t] : List Value).length → (W.cell? ⟨g, o + Q.length * i.size + j, none⟩).isSome = true ∧ W.frozen? ⟨g, o + Q.length * i.size + j, none⟩ = false := by
        intro j hj
        simp at hj
        subst hj
        rw [hsz, Nat.mul_one, Nat.add_zero, cell_of_row _ _ _ _ _ _ h2, Array.getElem?_eq_getElem hc]
        exact ⟨rfl, frz h2 _⟩
      have hrun := run_append_room_cells (P := Try.prog) W 23 ty 9 i Try.underlying23 hi g o Q.length cp ⟨A, 0, none⟩ 1 1 [.string t] (by rw [hsz]; rfl) hnews hone hr (fun j hj => (hcell j hj).1) (fun j hj => (hcell j hj).2)
      rw [hsz, Nat.mul_one] at hrun
      have hset : W.setCells g (o + Q.length) [.string t] = W.setCell ⟨g, o + Q.length, none⟩ (.string t) := rfl
      rw [hset] at hrun
      refine ⟨_, _, hrun, Or.inr ⟨g, o, cp, _, by rw [List.length_append]; rfl, heap_setCell_same _ _ (o + Q.length) _ _ _ h2, h3, by rw [List.length_append]; exact hr, by simpa using h5, fun j hj => ?_⟩, ?_⟩
      · rw [Array.getElem?_setIfInBounds]
        rw [List.length_append, List.length_singleton] at hj
        by_cases e : o + Q.length = o + j
        · rw [if_pos e, if_pos hc]
          have ej : j = Q.length := by omega
          subst ej
          simp
        · rw [if_neg e, h6 j (by omega)]
          rw [List.getElem_append_left (by omega)]
      · have hb := (Below.refl 0 W).setCell (p := ⟨g, o + Q.length, none⟩) (Nat.zero_le _) (.string t)
        exact ⟨hb.os, hb.tape, hb.output, hb.size, fun k _ hk => heap_setCell_other _ _ _ _ (fun e => hk (by rw [e]; rfl))⟩
    · obtain ⟨v', W', h1, r1, r2⟩ := run_append_arg_grows (P := Try.prog) W 23 ty 9 i _ 1 16 Try.underlying23 hi hz hsz hby rfl (by decide) ⟨g, o, none⟩ Q.length cp (scells Q) (by rw [scells_len]; omega) (fun j u hu => by
          have hj : j < Q.length := by have := (List.getElem?_eq_some_iff.1 hu).1; rw [scells_len] at this; exact this
          rw [Addr.add_lit, cell_of_row _ _ _ _ _ _ h2, h6 j hj]
          rw [scells_get Q j _ (List.getElem?_eq_getElem hj)] at hu
          exact hu) ⟨A, 0, none⟩ 1 1 [.string t] rfl hnews (by omega) (by unfold maxLen; omega) (by omega)
      refine ⟨v', W', h1, (HoldsQ.own (L := Q ++ [t]) (base := W.heap.size) ?_).lower hbase, ⟨r2.os, r2.tape, r2.output, r2.size, fun k hk _ => r2.block k hk (by simp)⟩⟩
      rw [List.length_append, scells_append]
      exact r1
theorem step_append_q {ops : Array Oper} {o : Oper} {a : Act} {K : Act → World → Prop} {Q : Exit → Act → World → Prop} {E : Prop} (w : World) (hgd : o.guard = none) (s x : Operand)
    (ho : o.op = .call { callee := .builtin .append, args := #[s, x], argTypes := #[23, 23] }) (base : Nat) (v : Value) (L : List ByteArray) (t : ByteArray) (A : Nat) (hs : a.eval s = v) (hx : a.eval x = .slice (some ⟨A, 0, none⟩) 1 1)
    (hq : HoldsQ w base v L) (hA : w.cell? ⟨A, 0, none⟩ = some (.string t)) (hL : L.length ≤ 1000) (hbase : base ≤ w.heap.size)
    (h : ∀ v' w', HoldsQ w' base v' (L ++ [t]) → w.grownBy w' v.ownBlock → K (a.put o.dst v') w') :
    if Region.wanted o (yielded ops a.tmps) = true then Oper.wp Try.prog o a w K Q else E := by
  have hw : Region.wanted o (yielded ops a.tmps) = true := by simp [Region.wanted, hgd]
  rw [if_pos hw]
  obtain ⟨v', w', hr, h2, h3⟩ := run_append_q (W := w) o.type hq hA hL hbase
  unfold Oper.wp execOp
  simp only [ho, resolve, invoke, builtin, Sem.run_bind, Sem.run_pure, Result.andThen_ok, List.map_toArray, List.map_cons, List.map_nil, hs, hx, hr]
  exact h v' w' h2 h3
theorem step_append_nb {ops : Array Oper} {o : Oper} {a : Act} {K : Act → World → Prop} {Q : Exit → Act → World → Prop} {E : Prop} (w : World) (hgd : o.guard = none) (s x : Operand)
    (ho : o.op = .call { callee := .builtin .append, args := #[s, x], argTypes := #[33, 33] }) (base : Nat) (v : Value) (F : List Nb) (n : Nat) (hn : F.length = n) (kd ns nr : Int) (tx : ByteArray) (A : Nat) (hs : a.eval s = v) (hx : a.eval x = .slice (some ⟨A, 0, none⟩) 1 1)
    (hown : w.ownsRow base 30 4 v n (nbcells F)) (hA : w.heap[A]? = some (.cells #[.int .i64 kd, .int .i64 ns, .int .i64 nr, .string tx] 30)) (hlen : n ≤ 1000) (hbase : base ≤ w.heap.size)
    (h : ∀ v' w', w'.ownsRow base 30 4 v' (n + 1) (nbcells (F ++ [⟨kd, ns, nr, tx⟩])) → w.grownBy w' v.ownBlock → K (a.put o.dst v') w') :
    if Region.wanted o (yielded ops a.tmps) = true then Oper.wp Try.prog o a w K Q else E := by
  have hw : Region.wanted o (yielded ops a.tmps) = true := by simp [Region.wanted, hgd]
  rw [if_pos hw]
  obtain ⟨i0, hi0, hz0, hz1, hz2⟩ := nbinfo
  obtain ⟨v', w', hr, h2, h3, _⟩ := run_append_own (P := Try.prog) w base 33 o.type 30 i0 _ 4 40 Try.underlying33 hi0 hz0 hz1 hz2 rfl (by decide) v n (nbcells F) hown ⟨A, 0, none⟩ 1 1 [.int .i64 kd, .int .i64 ns, .int .i64 nr, .string tx] rfl (fun j u hu => by
      rw [Addr.add_lit, Nat.zero_add, cell_of_row _ _ _ _ _ _ hA, ← hu]
      simp) (fun u hu => by
      simp only [List.mem_cons, List.not_mem_nil, or_false] at hu
      rcases hu with rfl | rfl | rfl | rfl <;> rfl) (by unfold maxLen; omega) (by omega) hbase
  unfold Oper.wp execOp
  simp only [ho, resolve, invoke, builtin, Sem.run_bind, Sem.run_pure, Result.andThen_ok, List.map_toArray, List.map_cons, List.map_nil, hs, hx, hr]
  exact h v' w' (by rw [nbcells_append]; exact h2) h3
section
variable {w0 : World} {B M : Nat} {p : Lp} {S Q : List ByteArray} {F : List Nb} {G : List ByteArray} {vq vf vg : Value} {q q' : World}
/-- A frame was put behind the others, and is laid in the end's cell. -/
theorem Lw.putF (h : Lw w0 B M p S Q F G vq vf vg q) {vf' : Value} {F' : List Nb} (hg : q.grownBy q' vf.ownBlock) (ho : q'.ownsRow w0.heap.size 30 4 vf' F'.length (nbcells F')) :
    Lw w0 B M p S Q F' G vq vf' vg (q'.setCell ⟨B, 7, none⟩ vf') := by
  have nT : ∀ (k : Nat) (o : Obj), q.heap[k]? = some o → (∀ cur, o ≠ .cells cur 30) → q'.heap[k]? = q.heap[k]? := fun k o h1 h2 => by
    refine hg.block k (Array.getElem?_eq_some_iff.1 h1).1 (fun e => ?_)
    rcases h.of.2 with ⟨e1, _⟩ | ⟨g, cap, cur, e1, _, e3, _⟩
    · rw [e1] at e; cases e
    · rw [e1] at e
      have e' : k = g := Option.some.inj e
      rw [e', e3] at h1
      exact h2 cur (Option.some.inj h1).symm
  obtain ⟨es, c, hm1, hm2⟩ := h.mp
  have hB' := (nT B _ h.row (fun cur e => by cases e)).trans h.row
  have hlo : Below w0.heap.size w0 q' := h.lo.grown hg h.lo.size (fun k hk => (h.of.lt k hk).1)
  have hk : ∀ k, k ≠ B → (q'.setCell ⟨B, 7, none⟩ vf').heap[k]? = q'.heap[k]? := fun k hk => heap_setCell_other _ _ _ _ hk
  have nB : ∀ g cur T, T ≠ 59 → q'.heap[g]? = some (.cells cur T) → g ≠ B := fun g cur T hT h1 e => by
    rw [e, hB'] at h1
    cases h1
    exact hT rfl
  have nM : M ≠ B := fun e => by
    rw [e, h.row] at hm1
    cases hm1
  have e1 : HoldsQ q' w0.heap.size vq Q := h.hq.other fun g cur _ h2 => nT g _ h2 (fun cur' e => by cases e)
  have e2 : q'.ownsRow w0.heap.size 9 1 vg G.length (scells G) := own_at h.og fun g cur _ h2 => nT g _ h2 (fun cur' e => by cases e)
  exact ⟨heap_setCell_same _ _ 7 _ _ _ hB', ⟨es, c, (hk M nM).trans ((nT M _ hm1 (fun cur e => by cases e)).trans hm1), hm2⟩, e1.other fun g cur _ h2 => hk g (nB g cur _ (by decide) h2), own_at ho fun g cur _ h2 => hk g (nB g cur _ (by decide) h2), own_at e2 fun g cur _ h2 => hk g (nB g cur _ (by decide) h2), h.bB, h.bM, hlo.setCell (p := ⟨B, 7, none⟩) h.bB _⟩
/-- A text was put behind those that wait, and their row is laid in the end's cell; nothing was got. -/
theorem Lw.putQ (h : Lw w0 B M p S Q F [] vq vf (.slice none 0 0) q) {vq' : Value} {Q' : List ByteArray} (hg : q.grownBy q' vq.ownBlock) (ho : HoldsQ q' w0.heap.size vq' Q') :
    Lw w0 B M p S Q' F [] vq' vf (.slice none 0 0) (q'.setCell ⟨B, 4, none⟩ vq') := by
  have nT : ∀ (k : Nat) (o : Obj), q.heap[k]? = some o → (∀ cur, o ≠ .cells cur 9) → q'.heap[k]? = q.heap[k]? := fun k o h1 h2 => by
    refine hg.block k (Array.getElem?_eq_some_iff.1 h1).1 (fun e => ?_)
    rcases h.hq with ⟨e1, _⟩ | ⟨g, o', cp, cur, e1, e3, _⟩
    · rw [e1] at e; cases e
    · rw [e1] at e
      have e' : k = g := Option.some.inj e
      rw [e', e3] at h1
      exact h2 cur (Option.some.inj h1).symm
  obtain ⟨es, c, hm1, hm2⟩ := h.mp
  have hB' := (nT B _ h.row (fun cur e => by cases e)).trans h.row
  have hlo : Below w0.heap.size w0 q' := h.lo.grown hg h.lo.size (fun k hk => by
    rcases h.hq with ⟨e1, _⟩ | ⟨g, o', cp, cur, e1, e3, e4, _⟩
    · rw [e1] at hk; cases hk
    · rw [e1] at hk
      have e' : g = k := Option.some.inj hk
      omega)
  have hk : ∀ k, k ≠ B → (q'.setCell ⟨B, 4, none⟩ vq').heap[k]? = q'.heap[k]? := fun k hk => heap_setCell_other _ _ _ _ hk
  have nB : ∀ g cur T, T ≠ 59 → q'.heap[g]? = some (.cells cur T) → g ≠ B := fun g cur T hT h1 e => by
    rw [e, hB'] at h1
    cases h1
    exact hT rfl
  have nM : M ≠ B := fun e => by
    rw [e, h.row] at hm1
    cases hm1
  have e2 : q'.ownsRow w0.heap.size 30 4 vf F.length (nbcells F) := own_at h.of fun g cur _ h2 => nT g _ h2 (fun cur' e => by cases e)
  exact ⟨heap_setCell_same _ _ 4 _ _ _ hB', ⟨es, c, (hk M nM).trans ((nT M _ hm1 (fun cur e => by cases e)).trans hm1), hm2⟩, ho.other fun g cur _ h2 => hk g (nB g cur _ (by decide) h2), own_at e2 fun g cur _ h2 => hk g (nB g cur _ (by decide) h2), World.ownsRow_nil _ _ _ _, h.bB, h.bM, hlo.setCell (p := ⟨B, 4, none⟩) h.bB _⟩
/-- The first text was got, and its row is laid in the end's cell. -/
theorem Lw.putG (h : Lw w0 B M p S Q F [] vq vf (.slice none 0 0) q) {vg' : Value} {G' : List ByteArray} (hg : q.grownBy q' none) (ho : q'.ownsRow w0.heap.size 9 1 vg' G'.length (scells G')) :
    Lw w0 B M p S Q F G' vq vf vg' (q'.setCell ⟨B, 8, none⟩ vg') := by
  have hb : Below q.heap.size q q' := ⟨hg.os, hg.tape, hg.output, hg.size, fun k hk => hg.block k hk (by simp)⟩
  have h' := h.step hb
  refine h'.set (i := 8) (x := vg') (p' := p) (vq' := vq) (vf' := vf) (vg' := vg') (Q' := Q) (F' := F) (G' := G') rfl rfl (fun _ k => k) (fun k => k) (fun _ => ?_)
  refine own_at ho fun g cur _ h2 => heap_setCell_other _ _ _ _ (fun e => ?_)
  rw [e, h'.row] at h2
  cases h2
end
end Go.Proofs.Ytjgnldkncoighaa
