/- Rows of parts at any offset, with the room behind them: held, and appended to; what lay in memory stands but for that row; no condition but those named. -/
import Derived.Test.YtfkeokfmancgiaaBdSx
import Derived.Test.YtfkeokfmancgiaaBdPs
namespace Go.Proofs.Ytfkeokfmancgiaa
open Go.RowKit
/-- A row of parts at any offset, its block not below base, with its room. -/
def HoldsP (W : World) (base : Nat) (v : Value) (P : List Fg) : Prop :=
  (v = .slice none 0 0 ∧ P = []) ∨ ∃ g o cp cur, v = .slice (some ⟨g, o, none⟩) P.length cp ∧ W.heap[g]? = some (.cells cur 33) ∧ base ≤ g ∧ P.length ≤ cp ∧ o + cp * 4 ≤ cur.size ∧ ∀ j, j < P.length * 4 → cur[o + j]? = (fgcells P)[j]?
theorem HoldsP.f {W : World} {base : Nat} {v : Value} {P : List Fg} (h : HoldsP W base v P) : HoldsF W v P := by
  rcases h with ⟨rfl, rfl⟩ | ⟨g, o, cp, cur, rfl, h2, h3, h4, h5, h6⟩
  · exact ⟨⟨_, _, rfl⟩, fun i hi => absurd hi (by simp)⟩
  · refine ⟨⟨_, _, rfl⟩, fun i hi => ?_⟩
    have hg := fgcells_get P i P[i] (List.getElem?_eq_getElem hi)
    refine ⟨g, o, cp, rfl, (Array.getElem?_eq_some_iff.1 h2).1, ?_, ?_, ?_, ?_⟩
    · rw [cell_of_row _ _ _ _ _ _ h2, h6 _ (by omega)]; exact hg.1
    · rw [Nat.add_assoc, cell_of_row _ _ _ _ _ _ h2, h6 _ (by omega)]; exact hg.2.1
    · rw [Nat.add_assoc, cell_of_row _ _ _ _ _ _ h2, h6 _ (by omega)]; exact hg.2.2.1
    · rw [Nat.add_assoc, cell_of_row _ _ _ _ _ _ h2, h6 _ (by omega)]; exact hg.2.2.2
theorem HoldsP.cap {W : World} {base n c : Nat} {a : Option Addr} {P : List Fg} (h : HoldsP W base (.slice a n c) P) : P.length ≤ c ∧ P.length = n := by
  rcases h with ⟨e, rfl⟩ | ⟨g, o, cp, cur, e, h2, h3, h4, h5, h6⟩
  · cases e; exact ⟨Nat.le_refl _, rfl⟩
  · cases e; exact ⟨h4, rfl⟩
theorem HoldsP.form {W : World} {base : Nat} {v : Value} {P : List Fg} (h : HoldsP W base v P) : ∃ a c, v = .slice a P.length c := by
  rcases h with ⟨rfl, rfl⟩ | ⟨g, o, cp, cur, rfl, _⟩
  · exact ⟨_, _, rfl⟩
  · exact ⟨_, _, rfl⟩
theorem HoldsP.keep {W W' : World} {base : Nat} {v : Value} {P : List Fg} (h : HoldsP W base v P) (k : ∀ g, base ≤ g → g < W.heap.size → (∀ cur, W.heap[g]? = some (.cells cur 33) → W'.heap[g]? = W.heap[g]?)) : HoldsP W' base v P :=
  h.imp id fun ⟨g, o, cp, cur, e, h2, h3, h4⟩ => ⟨g, o, cp, cur, e, (k g h3 (Array.getElem?_eq_some_iff.1 h2).1 cur h2).trans h2, h3, h4⟩
theorem HoldsP.own {W : World} {base : Nat} {v : Value} {P : List Fg} (h : W.ownsRow base 33 4 v P.length (fgcells P)) : HoldsP W base v P := by
  rcases h.2 with ⟨h1, h2⟩ | ⟨g, cap, cur, h1, hb, h3, h4, _, h6, h7⟩
  · exact Or.inl ⟨h1, List.eq_nil_of_length_eq_zero h2⟩
  · refine Or.inr ⟨g, 0, cap, cur, h1, h3, hb, h4, by omega, fun j hj => ?_⟩
    rw [Nat.zero_add, ← h7, List.getElem?_take, if_pos hj, Array.getElem?_toList]
theorem HoldsP.of {W : World} {base n c : Nat} {a : Option Addr} {P : List Fg} (hn : P.length = n) (h : HoldsF W (.slice a n c) P) (hc : P.length ≤ c) (hr : RoomF W (.slice a n c)) (ho : ∀ g, (Value.slice a n c).ownBlock = some g → base ≤ g) : HoldsP W base (.slice a n c) P := by
  subst hn
  rcases hr with e | ⟨g, o, m, cp, cur, e, h2, h3, h4⟩
  · refine Or.inl ⟨e, ?_⟩
    injection e with _ e _
    exact List.eq_nil_of_length_eq_zero e
  · injection e with e1 e2 e3
    subst e1
    subst e2
    subst e3
    refine Or.inr ⟨g, o, c, cur, rfl, h2, ho g rfl, hc, h4, fun j hj => ?_⟩
    have hl : j < (fgcells P).length := by rw [fgcells_len]; exact hj
    have hk := h.news j _ (List.getElem?_eq_getElem hl)
    rw [Addr.add_lit, cell_of_row _ _ _ _ _ _ h2] at hk
    rw [hk, List.getElem?_eq_getElem hl]
theorem setCells_row {T : TypeId} {g : Nat} : ∀ (vs : List Value) (o : Nat) (W : World) (cur : Array Value), W.heap[g]? = some (.cells cur T) → o + vs.length ≤ cur.size →
    ∃ cur', (W.setCells g o vs).heap[g]? = some (.cells cur' T) ∧ cur'.size = cur.size ∧ (∀ k, k < o → cur'[k]? = cur[k]?) ∧ ∀ j, j < vs.length → cur'[o + j]? = vs[j]?
  | [], _, _, cur, h, _ => ⟨cur, h, rfl, fun _ _ => rfl, fun j hj => absurd hj (by simp)⟩
  | v :: vs, o, W, cur, h, hl => by
    rw [List.length_cons] at hl
    obtain ⟨cur', h1, h2, h3, h4⟩ := setCells_row vs (o + 1) (W.setCell ⟨g, o, none⟩ v) (cur.setIfInBounds o v) (heap_setCell_same _ _ o _ _ v h) (by rw [Array.size_setIfInBounds]; omega)
    refine ⟨cur', h1, by rw [h2, Array.size_setIfInBounds], fun k hk => ?_, fun j hj => ?_⟩
    · rw [h3 k (by omega), Array.getElem?_setIfInBounds, if_neg (by omega)]
    · cases j with
      | zero =>
        rw [Nat.add_zero, h3 o (by omega), Array.getElem?_setIfInBounds, if_pos rfl, if_pos (by omega)]
        rfl
      | succ j =>
        rw [List.length_cons] at hj
        rw [show o + (j + 1) = o + 1 + j by omega, h4 j (by omega)]
        rfl
theorem below_set9 {n g : Nat} {a : World} (hg : n ≤ g) : ∀ (vs : List Value) (o : Nat) (W : World), Below n a W → Below n a (W.setCells g o vs)
  | [], _, _, h => h
  | v :: vs, o, W, h => below_set9 hg vs (o + 1) (W.setCell ⟨g, o, none⟩ v) (h.setCell (p := ⟨g, o, none⟩) hg v)
theorem set_other9 {g k : Nat} (hk : k ≠ g) : ∀ (vs : List Value) (o : Nat) (W : World), (W.setCells g o vs).heap[k]? = W.heap[k]?
  | [], _, _ => rfl
  | v :: vs, o, W => (set_other9 hk vs (o + 1) (W.setCell ⟨g, o, none⟩ v)).trans (Below.heap_setCell _ ⟨g, o, none⟩ _ _ hk)
theorem run_append_no {W : World} (ty : TypeId) (ad ad' : Option Addr) (n cap c' : Nat) (hc : n ≤ cap) : (Builtin.append_ #[25, 25] ty #[.slice ad n cap, .slice ad' 0 c']).run Try.prog W = .ok (.slice ad n cap) W := by
  obtain ⟨i, hi, hz, hsz, hby⟩ := fginfo
  cases ad <;> cases ad' <;> simp [Builtin.append_, run_underlying Try.underlying25, sizeOf, typeInfo, hi, Builtin.lenOf, Builtin.firstCells, loadCells, loadCellsFrom, storeCells, hc]
theorem run_append_p {W : World} {base : Nat} {v s : Value} {P F : List Fg} (ty : TypeId) (hv : HoldsP W base v P) (hs : HoldsF W s F) (hP : P.length ≤ 1000) (hF : F.length ≤ 1000) (hbase : base ≤ W.heap.size) :
    ∃ v' W', (Builtin.append_ #[25, 25] ty #[v, s]).run Try.prog W = .ok v' W' ∧ HoldsP W' base v' (P ++ F) ∧ W.grownBy W' v.ownBlock := by
  obtain ⟨i, hi, hz, hsz, hby⟩ := fginfo
  obtain ⟨ad, cs, rfl⟩ := hs.1
  by_cases hF0 : F = []
  · subst hF0
    rw [List.append_nil]
    rcases hv with ⟨rfl, rfl⟩ | ⟨g, o, cp, cur, rfl, h2, h3, h4, h5, h6⟩
    · exact ⟨_, _, run_append_no ty none ad 0 0 cs (Nat.le_refl _), Or.inl ⟨rfl, rfl⟩, ⟨rfl, rfl, rfl, Nat.le_refl _, fun _ _ _ => rfl⟩⟩
    · exact ⟨_, _, run_append_no ty _ ad _ _ cs h4, Or.inr ⟨g, o, cp, cur, rfl, h2, h3, h4, h5, h6⟩, ⟨rfl, rfl, rfl, Nat.le_refl _, fun _ _ _ => rfl⟩⟩
  · rcases hv with ⟨rfl, rfl⟩ | ⟨g, o, cp, cur, rfl, h2, h3, h4, h5, h6⟩
    · obtain ⟨v', W', h1, h2, h3⟩ := run_append_gs (W := W) (base := base) (G := []) ty (World.ownsRow_nil _ _ _ _) hs (by simp) (by omega) hbase
      exact ⟨v', W', h1, HoldsP.own h2, h3⟩
    · have hlF : 0 < F.length := List.length_pos_iff.2 hF0
      obtain ⟨g2, o2, cp2, e, _⟩ := hs.2 0 hlF
      injection e with e _ _
      subst e
      have hnews := hs.news
      by_cases hr : P.length + F.length ≤ cp
      · have hcell : ∀ j, j < (fgcells F).length → (W.cell? ⟨g, o + P.length * i.size + j, none⟩).isSome = true ∧ W.frozen? ⟨g, o + P.length * i.size + j, none⟩ = false := by
          intro j hj
          rw [fgcells_len] at hj
          have hc : o + P.length * 4 + j < cur.size := by omega
          rw [hsz, cell_of_row _ _ _ _ _ _ h2, Array.getElem?_eq_getElem hc]
          exact ⟨rfl, frz h2 _⟩
        have hrun := run_append_room_cells (P := Try.prog) W 25 ty 33 i Try.underlying25 hi g o P.length cp ⟨g2, o2, none⟩ F.length cs (fgcells F) (by rw [hsz, fgcells_len]) hnews (fgcells_one F) hr (fun j hj => (hcell j hj).1) (fun j hj => (hcell j hj).2)
        rw [hsz] at hrun
        obtain ⟨cur', k1, k2, k3, k4⟩ := setCells_row (fgcells F) (o + P.length * 4) W cur h2 (by rw [fgcells_len]; omega)
        refine ⟨_, _, hrun, Or.inr ⟨g, o, cp, cur', by rw [List.length_append], k1, h3, by rw [List.length_append]; exact hr, by rw [k2]; exact h5, fun j hj => ?_⟩, ?_⟩
        · rw [List.length_append] at hj
          rw [fgcells_append]
          by_cases ej : j < P.length * 4
          · rw [k3 _ (by omega), h6 j ej, List.getElem?_append_left (by rw [fgcells_len]; exact ej)]
          · have e5 : o + j = o + P.length * 4 + (j - P.length * 4) := by omega
            rw [List.getElem?_append_right (by rw [fgcells_len]; omega), fgcells_len, e5]
            exact k4 (j - P.length * 4) (by rw [fgcells_len]; omega)
        · have hb := below_set9 (n := 0) (g := g) (a := W) (Nat.zero_le _) (fgcells F) (o + P.length * 4) W (Below.refl 0 W)
          exact ⟨hb.os, hb.tape, hb.output, hb.size, fun k hkl hne => set_other9 (fun e => hne (by rw [e]; rfl)) (fgcells F) _ _⟩
      · obtain ⟨v', W', h1, r1, r2⟩ := run_append_arg_grows (P := Try.prog) W 25 ty 33 i _ 4 32 Try.underlying25 hi hz hsz hby rfl (by decide) ⟨g, o, none⟩ P.length cp (fgcells P) (fgcells_len P) (fun j u hu => by
            have hj : j < P.length * 4 := by have := (List.getElem?_eq_some_iff.1 hu).1; rw [fgcells_len] at this; exact this
            rw [Addr.add_lit, cell_of_row _ _ _ _ _ _ h2, h6 j hj]
            exact hu) ⟨g2, o2, none⟩ F.length cs (fgcells F) (fgcells_len F) hnews (by omega) (by unfold maxLen; omega) (by omega)
        refine ⟨v', W', h1, ?_, ⟨r2.os, r2.tape, r2.output, r2.size, fun k hk _ => r2.block k hk (by simp)⟩⟩
        have ho : HoldsP W' W.heap.size v' (P ++ F) := HoldsP.own (by rw [List.length_append, fgcells_append]; exact r1)
        exact ho.imp id fun ⟨g, o, cp, cur, e, h2, h3, h4⟩ => ⟨g, o, cp, cur, e, h2, Nat.le_trans hbase h3, h4⟩
theorem append_p {W : World} {ops : Array Oper} {rest : List Oper} {o : Oper} {a : Act} {Q : Exit → Act → World → Prop} (hgd : o.guard = none) (s x : Operand)
    (ho : o.op = .call { callee := .builtin .append, args := #[s, x], argTypes := #[25, 25] })
    (base : Nat) (v sv : Value) (P F : List Fg) (hs : a.eval s = v) (hx : a.eval x = sv) (hv : HoldsP W base v P) (hsv : HoldsF W sv F) (hP : P.length ≤ 1000) (hF : F.length ≤ 1000) (hbase : base ≤ W.heap.size)
    (h : ∀ v' w', HoldsP w' base v' (P ++ F) → W.grownBy w' v.ownBlock → wpList Try.prog ops Q rest (a.put o.dst v') w') : wpList Try.prog ops Q (o :: rest) a W := by
  refine wpList_plain hgd fun K hK => ?_
  obtain ⟨v', w', hr, h2, h3⟩ := run_append_p (W := W) o.type hv hsv hP hF hbase
  unfold Oper.wp execOp
  simp only [ho, resolve, invoke, builtin, Sem.run_bind, Sem.run_pure, Result.andThen_ok, List.map_toArray, List.map_cons, List.map_nil, hs, hx, hr]
  exact hK _ _ (h v' w' h2 h3)
end Go.Proofs.Ytfkeokfmancgiaa
