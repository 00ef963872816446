/- Rows of parts at any offset, with the room behind them: held, and appended to; what lay in memory stands but for that row; no condition but those named. A row of rows of parts (the lines), laid in memory: one of them grown by a part; what lay in memory stands but for that row; no condition but those named. Rows of parts, cut at their front, in blocks of their kind; several texts put behind others; what lay in memory stands but for the row that grows; no condition but those named. What the law FnLoss has laid while it hears: the texts, the lines, the bundle, and what is got; how each is changed; no condition. -/
import Derived.Test.YtfkeokfmancgiaaBdSx
import Derived.Test.YtfkeokfmancgiaaBdPs
import Derived.Test.YtfkeokfmancgiaaStrRow
import Derived.Test.YtfkeokfmancgiaaBdHr
namespace Go.Proofs.Ytfkeokfmancgiaa
open Go.RowKit
/-- A row of parts at any offset, its block not below base, with its room. -/
def HoldsP (W : World) (base : Nat) (v : Value) (P : List Fg) : Prop :=
  (v = .slice none 0 0 ∧ P = []) ∨ ∃ g o cp cur, v = .slice (some ⟨g, o, none⟩) P.length cp ∧ W.heap[g]? = some (.cells cur 33) ∧ base ≤ g ∧ P.length ≤ cp ∧ o + cp * 4 ≤ cur.size ∧ ∀ j, j < P.length * 4 → cur[o + j]? = (fgcells P)[j]?
theorem HoldsP.f {W : World} {base : Nat} {v : Value} {P : List Fg} (h : HoldsP W base v P) : HoldsF W v P := by
  rcases h with ⟨rfl, rfl⟩ | ⟨g, o, cp, cur, rfl, h2, h3, h4, h5, h6⟩
  · exact ⟨⟨_, _, rfl⟩, fun i hi => absurd hi (by simp)⟩
  · refine ⟨⟨_, _, rfl⟩, fun i hi => ?_⟩
    have hg := fgcells_get P i P[i] (List.getElem?_eq_getElem hi)
    refine ⟨g, o, cp, rfl, (Array.getElem?_eq_some_iff.1 h2).1, ?_, ?_, ?_, ?_⟩
    · rw [cell_of_row _ _ _ _ _ _ h2, h6 _ (by omega)]; exact hg.1
    · rw [Nat.add_assoc, cell_of_row _ _ _ _ _ _ h2, h6 _ (by omega)]; exact hg.2.1
    · rw [Nat.add_assoc, cell_of_row _ _ _ _ _ _ h2, h6 _ (by omega)]; exact hg.2.2.1
    · rw [Nat.add_assoc, cell_of_row _ _ _ _ _ _ h2, h6 _ (by omega)]; exact hg.2.2.2
theorem HoldsP.cap {W : World} {base n c : Nat} {a : Option Addr} {P : List Fg} (h : HoldsP W base (.slice a n c) P) : P.length ≤ c ∧ P.length = n := by
  rcases h with ⟨e, rfl⟩ | ⟨g, o, cp, cur, e, h2, h3, h4, h5, h6⟩
  · cases e; exact ⟨Nat.le_refl _, rfl⟩
  · cases e; exact ⟨h4, rfl⟩
theorem HoldsP.form {W : World} {base : Nat} {v : Value} {P : List Fg} (h : HoldsP W base v P) : ∃ a c, v = .slice a P.length c := by
  rcases h with ⟨rfl, rfl⟩ | ⟨g, o, cp, cur, rfl, _⟩
  · exact ⟨_, _, rfl⟩
  · exact ⟨_, _, rfl⟩
theorem HoldsP.keep {W W' : World} {base : Nat} {v : Value} {P : List Fg} (h : HoldsP W base v P) (k : ∀ g, base ≤ g → g < W.heap.size → (∀ cur, W.heap[g]? = some (.cells cur 33) → W'.heap[g]? = W.heap[g]?)) : HoldsP W' base v P :=
  h.imp id fun ⟨g, o, cp, cur, e, h2, h3, h4⟩ => ⟨g, o, cp, cur, e, (k g h3 (Array.getElem?_eq_some_iff.1 h2).1 cur h2).trans h2, h3, h4⟩
theorem HoldsP.own {W : World} {base : Nat} {v : Value} {P : List Fg} (h : W.ownsRow base 33 4 v P.length (fgcells P)) : HoldsP W base v P := by
  rcases h.2 with ⟨h1, h2⟩ | ⟨g, cap, cur, h1, hb, h3, h4, _, h6, h7⟩
  · exact Or.inl ⟨h1, List.eq_nil_of_length_eq_zero h2⟩
  · refine Or.inr ⟨g, 0, cap, cur, h1, h3, hb, h4, by omega, fun j hj => ?_⟩
    rw [Nat.zero_add, ← h7, List.getElem?_take, if_pos hj, Array.getElem?_toList]
theorem HoldsP.of {W : World} {base n c : Nat} {a : Option Addr} {P : List Fg} (hn : P.length = n) (h : HoldsF W (.slice a n c) P) (hc : P.length ≤ c) (hr : RoomF W (.slice a n c)) (ho : ∀ g, (Value.slice a n c).ownBlock = some g → base ≤ g) : HoldsP W base (.slice a n c) P := by
  subst hn
  rcases hr with e | ⟨g, o, m, cp, cur, e, h2, h3, h4⟩
  · refine Or.inl ⟨e, ?_⟩
    injection e with _ e _
    exact List.eq_nil_of_length_eq_zero e
  · injection e with e1 e2 e3
    subst e1
    subst e2
    subst e3
    refine Or.inr ⟨g, o, c, cur, rfl, h2, ho g rfl, hc, h4, fun j hj => ?_⟩
    have hl : j < (fgcells P).length := by rw [fgcells_len]; exact hj
    have hk := h.news j _ (List.getElem?_eq_getElem hl)
    rw [Addr.add_lit, cell_of_row _ _ _ _ _ _ h2] at hk
    rw [hk, List.getElem?_eq_getElem hl]
theorem setCells_row {T : TypeId} {g : Nat} : ∀ (vs : List Value) (o : Nat) (W : World) (cur : Array Value), W.heap[g]? = some (.cells cur T) → o + vs.length ≤ cur.size →
    ∃ cur', (W.setCells g o vs).heap[g]? = some (.cells cur' T) ∧ cur'.size = cur.size ∧ (∀ k, k < o → cur'[k]? = cur[k]?) ∧ ∀ j, j < vs.length → cur'[o + j]? = vs[j]?
  | [], _, _, cur, h, _ => ⟨cur, h, rfl, fun _ _ => rfl, fun j hj => absurd hj (by simp)⟩
  | v :: vs, o, W, cur, h, hl => by
    rw [List.length_cons] at hl
    obtain ⟨cur', h1, h2, h3, h4⟩ := setCells_row vs (o + 1) (W.setCell ⟨g, o, none⟩ v) (cur.setIfInBounds o v) (heap_setCell_same _ _ o _ _ v h) (by rw [Array.size_setIfInBounds]; omega)
    refine ⟨cur', h1, by rw [h2, Array.size_setIfInBounds], fun k hk => ?_, fun j hj => ?_⟩
    · rw [h3 k (by omega), Array.getElem?_setIfInBounds, if_neg (by omega)]
    · cases j with
      | zero =>
        rw [Nat.add_zero, h3 o (by omega), Array.getElem?_setIfInBounds, if_pos rfl, if_pos (by omega)]
        rfl
      | succ j =>
        rw [List.length_cons] at hj
        rw [show o + (j + 1) = o + 1 + j by omega, h4 j (by omega)]
        rfl
theorem below_set9 {n g : Nat} {a : World} (hg : n ≤ g) : ∀ (vs : List Value) (o : Nat) (W : World), Below n a W → Below n a (W.setCells g o vs)
  | [], _, _, h => h
  | v :: vs, o, W, h => below_set9 hg vs (o + 1) (W.setCell ⟨g, o, none⟩ v) (h.setCell (p := ⟨g, o, none⟩) hg v)
theorem set_other9 {g k : Nat} (hk : k ≠ g) : ∀ (vs : List Value) (o : Nat) (W : World), (W.setCells g o vs).heap[k]? = W.heap[k]?
  | [], _, _ => rfl
  | v :: vs, o, W => (set_other9 hk vs (o + 1) (W.setCell ⟨g, o, none⟩ v)).trans (Below.heap_setCell _ ⟨g, o, none⟩ _ _ hk)
theorem run_append_no {W : World} (ty : TypeId) (ad ad' : Option Addr) (n cap c' : Nat) (hc : n ≤ cap) : (Builtin.append_ #[25, 25] ty #[.slice ad n cap, .slice ad' 0 c']).run Try.prog W = .ok (.slice ad n cap) W := by
  obtain ⟨i, hi, hz, hsz, hby⟩ := fginfo
  cases ad <;> cases ad' <;> simp [Builtin.append_, run_underlying Try.underlying25, sizeOf, typeInfo, hi, Builtin.lenOf, Builtin.firstCells, loadCells, loadCellsFrom, storeCells, hc]
theorem run_append_p {W : World} {base : Nat} {v s : Value} {P F : List Fg} (ty : TypeId) (hv : HoldsP W base v P) (hs : HoldsF W s F) (hP : P.length ≤ 1000) (hF : F.length ≤ 1000) (hbase : base ≤ W.heap.size) :
    ∃ v' W', (Builtin.append_ #[25, 25] ty #[v, s]).run Try.prog W = .ok v' W' ∧ HoldsP W' base v' (P ++ F) ∧ W.grownBy W' v.ownBlock := by
  obtain ⟨i, hi, hz, hsz, hby⟩ := fginfo
  obtain ⟨ad, cs, rfl⟩ := hs.1
  by_cases hF0 : F = []
  · subst hF0
    rw [List.append_nil]
    rcases hv with ⟨rfl, rfl⟩ | ⟨g, o, cp, cur, rfl, h2, h3, h4, h5, h6⟩
    · exact ⟨_, _, run_append_no ty none ad 0 0 cs (Nat.le_refl _), Or.inl ⟨rfl, rfl⟩, ⟨rfl, rfl, rfl, Nat.le_refl _, fun _ _ _ => rfl⟩⟩
    · exact ⟨_, _, run_append_no ty _ ad _ _ cs h4, Or.inr ⟨g, o, cp, cur, rfl, h2, h3, h4, h5, h6⟩, ⟨rfl, rfl, rfl, Nat.le_refl _, fun _ _ _ => rfl⟩⟩
  · rcases hv with ⟨rfl, rfl⟩ | ⟨g, o, cp, cur, rfl, h2, h3, h4, h5, h6⟩
    · obtain ⟨v', W', h1, h2, h3⟩ := run_append_gs (W := W) (base := base) (G := []) ty (World.ownsRow_nil _ _ _ _) hs (by simp) (by omega) hbase
      exact ⟨v', W', h1, HoldsP.own h2, h3⟩
    · have hlF : 0 < F.length := List.length_pos_iff.2 hF0
      obtain ⟨g2, o2, cp2, e, _⟩ := hs.2 0 hlF
      injection e with e _ _
      subst e
      have hnews := hs.news
      by_cases hr : P.length + F.length ≤ cp
      · have hcell : ∀ j, j < (fgcells F).length → (W.cell? ⟨g, o + P.length * i.size + j, none⟩).isSome = true ∧ W.frozen? ⟨g, o + P.length * i.size + j, none⟩ = false := by
          intro j hj
          rw [fgcells_len] at hj
          have hc : o + P.length * 4 + j < cur.size := by omega
          rw [hsz, cell_of_row _ _ _ _ _ _ h2, Array.getElem?_eq_getElem hc]
          exact ⟨rfl, frz h2 _⟩
        have hrun := run_append_room_cells (P := Try.prog) W 25 ty 33 i Try.underlying25 hi g o P.length cp ⟨g2, o2, none⟩ F.length cs (fgcells F) (by rw [hsz, fgcells_len]) hnews (fgcells_one F) hr (fun j hj => (hcell j hj).1) (fun j hj => (hcell j hj).2)
        rw [hsz] at hrun
        obtain ⟨cur', k1, k2, k3, k4⟩ := setCells_row (fgcells F) (o + P.length * 4) W cur h2 (by rw [fgcells_len]; omega)
        refine ⟨_, _, hrun, Or.inr ⟨g, o, cp, cur', by rw [List.length_append], k1, h3, by rw [List.length_append]; exact hr, by rw [k2]; exact h5, fun j hj => ?_⟩, ?_⟩
        · rw [List.length_append] at hj
          rw [fgcells_append]
          by_cases ej : j < P.length * 4
          · rw [k3 _ (by omega), h6 j ej, List.getElem?_append_left (by rw [fgcells_len]; exact ej)]
          · have e5 : o + j = o + P.length * 4 + (j - P.length * 4) := by omega
            rw [List.getElem?_append_right (by rw [fgcells_len]; omega), fgcells_len, e5]
            exact k4 (j - P.length * 4) (by rw [fgcells_len]; omega)
        · have hb := below_set9 (n := 0) (g := g) (a := W) (Nat.zero_le _) (fgcells F) (o + P.length * 4) W (Below.refl 0 W)
          exact ⟨hb.os, hb.tape, hb.output, hb.size, fun k hkl hne => set_other9 (fun e => hne (by rw [e]; rfl)) (fgcells F) _ _⟩
      · obtain ⟨v', W', h1, r1, r2⟩ := run_append_arg_grows (P := Try.prog) W 25 ty 33 i _ 4 32 Try.underlying25 hi hz hsz hby rfl (by decide) ⟨g, o, none⟩ P.length cp (fgcells P) (fgcells_len P) (fun j u hu => by
            have hj : j < P.length * 4 := by have := (List.getElem?_eq_some_iff.1 hu).1; rw [fgcells_len] at this; exact this
            rw [Addr.add_lit, cell_of_row _ _ _ _ _ _ h2, h6 j hj]
            exact hu) ⟨g2, o2, none⟩ F.length cs (fgcells F) (fgcells_len F) hnews (by omega) (by unfold maxLen; omega) (by omega)
        refine ⟨v', W', h1, ?_, ⟨r2.os, r2.tape, r2.output, r2.size, fun k hk _ => r2.block k hk (by simp)⟩⟩
        have ho : HoldsP W' W.heap.size v' (P ++ F) := HoldsP.own (by rw [List.length_append, fgcells_append]; exact r1)
        exact ho.imp id fun ⟨g, o, cp, cur, e, h2, h3, h4⟩ => ⟨g, o, cp, cur, e, h2, Nat.le_trans hbase h3, h4⟩
theorem append_p {W : World} {ops : Array Oper} {rest : List Oper} {o : Oper} {a : Act} {Q : Exit → Act → World → Prop} (hgd : o.guard = none) (s x : Operand)
    (ho : o.op = .call { callee := .builtin .append, args := #[s, x], argTypes := #[25, 25] })
    (base : Nat) (v sv : Value) (P F : List Fg) (hs : a.eval s = v) (hx : a.eval x = sv) (hv : HoldsP W base v P) (hsv : HoldsF W sv F) (hP : P.length ≤ 1000) (hF : F.length ≤ 1000) (hbase : base ≤ W.heap.size)
    (h : ∀ v' w', HoldsP w' base v' (P ++ F) → W.grownBy w' v.ownBlock → wpList Try.prog ops Q rest (a.put o.dst v') w') : wpList Try.prog ops Q (o :: rest) a W := by
  refine wpList_plain hgd fun K hK => ?_
  obtain ⟨v', w', hr, h2, h3⟩ := run_append_p (W := W) o.type hv hsv hP hF hbase
  unfold Oper.wp execOp
  simp only [ho, resolve, invoke, builtin, Sem.run_bind, Sem.run_pure, Result.andThen_ok, List.map_toArray, List.map_cons, List.map_nil, hs, hx, hr]
  exact hK _ _ (h v' w' h2 h3)
end Go.Proofs.Ytfkeokfmancgiaa
namespace Go.Proofs.Ytfkeokfmancgiaa
open Go.RowKit
/-- An append onto a row of parts: the row stays where it is, or lies in a new block. -/
theorem run_append_p2 {W : World} {base : Nat} {v s : Value} {P F : List Fg} (ty : TypeId) (hv : HoldsP W base v P) (hs : HoldsF W s F) (hP : P.length ≤ 1000) (hF : F.length ≤ 1000) (hbase : base ≤ W.heap.size) :
    ∃ v' W', (Builtin.append_ #[25, 25] ty #[v, s]).run Try.prog W = .ok v' W' ∧ HoldsP W' base v' (P ++ F) ∧ W.grownBy W' v.ownBlock ∧ ∀ g, v'.ownBlock = some g → v.ownBlock = some g ∨ W.heap.size ≤ g := by
  obtain ⟨i, hi, hz, hsz, hby⟩ := fginfo
  have hs' := hs
  obtain ⟨ad, cs, rfl⟩ := hs.1
  by_cases hF0 : F = []
  · subst hF0
    rw [List.append_nil]
    rcases hv with ⟨rfl, rfl⟩ | ⟨g, o, cp, cur, rfl, h2, h3, h4, h5, h6⟩
    · exact ⟨_, _, run_append_no ty none ad 0 0 cs (Nat.le_refl _), Or.inl ⟨rfl, rfl⟩, ⟨rfl, rfl, rfl, Nat.le_refl _, fun _ _ _ => rfl⟩, fun g hg => Or.inl hg⟩
    · exact ⟨_, _, run_append_no ty _ ad _ _ cs h4, Or.inr ⟨g, o, cp, cur, rfl, h2, h3, h4, h5, h6⟩, ⟨rfl, rfl, rfl, Nat.le_refl _, fun _ _ _ => rfl⟩, fun g hg => Or.inl hg⟩
  · rcases hv with ⟨rfl, rfl⟩ | ⟨g, o, cp, cur, rfl, h2, h3, h4, h5, h6⟩
    · obtain ⟨v', W', h1, h2, h3⟩ := run_append_gs (W := W) (base := W.heap.size) (G := []) ty (World.ownsRow_nil _ _ _ _) hs' (by simp) (by omega) (Nat.le_refl _)
      refine ⟨v', W', h1, ?_, h3, fun g hg => Or.inr (World.ownsRow.lt h2 g hg).1⟩
      have ho : HoldsP W' W.heap.size v' ([] ++ F) := HoldsP.own h2
      exact ho.imp id fun ⟨g, o, cp, cur, e, k2, k3, k4⟩ => ⟨g, o, cp, cur, e, k2, Nat.le_trans hbase k3, k4⟩
    · by_cases hr : P.length + F.length ≤ cp
      · obtain ⟨v', W', h1, k2, k3⟩ := run_append_p (W := W) ty (Or.inr ⟨g, o, cp, cur, rfl, h2, h3, h4, h5, h6⟩) hs' hP hF hbase
        have hlF : 0 < F.length := List.length_pos_iff.2 hF0
        obtain ⟨g2, o2, cp2, e, _⟩ := hs'.2 0 hlF
        injection e with e _ _
        subst e
        have hcell : ∀ j, j < (fgcells F).length → (W.cell? ⟨g, o + P.length * i.size + j, none⟩).isSome = true ∧ W.frozen? ⟨g, o + P.length * i.size + j, none⟩ = false := by
          intro j hj
          rw [fgcells_len] at hj
          have hc : o + P.length * 4 + j < cur.size := by omega
          rw [hsz, cell_of_row _ _ _ _ _ _ h2, Array.getElem?_eq_getElem hc]
          exact ⟨rfl, frz h2 _⟩
        have hrun := run_append_room_cells (P := Try.prog) W 25 ty 33 i Try.underlying25 hi g o P.length cp ⟨g2, o2, none⟩ F.length cs (fgcells F) (by rw [hsz, fgcells_len]) hs'.news (fgcells_one F) hr (fun j hj => (hcell j hj).1) (fun j hj => (hcell j hj).2)
        rw [h1] at hrun
        injection hrun with e1 e2
        subst e1
        exact ⟨_, W', h1, k2, k3, fun m hm => Or.inl hm⟩
      · have hlF : 0 < F.length := List.length_pos_iff.2 hF0
        obtain ⟨g2, o2, cp2, e, _⟩ := hs'.2 0 hlF
        injection e with e _ _
        subst e
        obtain ⟨v', W', h1, r1, r2⟩ := run_append_arg_grows (P := Try.prog) W 25 ty 33 i _ 4 32 Try.underlying25 hi hz hsz hby rfl (by decide) ⟨g, o, none⟩ P.length cp (fgcells P) (fgcells_len P) (fun j u hu => by
            have hj : j < P.length * 4 := by have := (List.getElem?_eq_some_iff.1 hu).1; rw [fgcells_len] at this; exact this
            rw [Addr.add_lit, cell_of_row _ _ _ _ _ _ h2, h6 j hj]
            exact hu) ⟨g2, o2, none⟩ F.length cs (fgcells F) (fgcells_len F) hs'.news (by omega) (by unfold maxLen; omega) (by omega)
        have ho : HoldsP W' W.heap.size v' (P ++ F) := HoldsP.own (by rw [List.length_append, fgcells_append]; exact r1)
        exact ⟨v', W', h1, ho.imp id fun ⟨g, o, cp, cur, e, k2, k3, k4⟩ => ⟨g, o, cp, cur, e, k2, Nat.le_trans hbase k3, k4⟩, ⟨r2.os, r2.tape, r2.output, r2.size, fun k hk _ => r2.block k hk (by simp)⟩, fun m hm => Or.inr (World.ownsRow.lt r1 m hm).1⟩
/-- The lines, laid. -/
structure Rw (W : World) (base g : Nat) (vs : List Value) (Rm : List (List Fg)) : Prop where
  b : W.heap[g]? = some (.cells vs.toArray 25)
  len : vs.length = Rm.length
  row : ∀ (k : Nat) (v : Value) (t : List Fg), vs[k]? = some v → Rm[k]? = some t → HoldsP W base v t
  ap : ∀ (j k : Nat) (u v : Value), j ≠ k → vs[j]? = some u → vs[k]? = some v → ∀ m, u.ownBlock = some m → v.ownBlock ≠ some m
theorem Rw.step {W W' : World} {base g : Nat} {vs : List Value} {Rm : List (List Fg)} (h : Rw W base g vs Rm) (hb : Below W.heap.size W W') : Rw W' base g vs Rm :=
  ⟨(hb.block _ (Array.getElem?_eq_some_iff.1 h.b).1).trans h.b, h.len, fun k v t h1 h2 => (h.row k v t h1 h2).keep fun m _ hl _ _ => hb.block m hl, h.ap⟩
/-- Blocks of other kinds changed. -/
theorem Rw.stay {W W' : World} {base g : Nat} {vs : List Value} {Rm : List (List Fg)} (h : Rw W base g vs Rm) (hk : ∀ (m : Nat) (cur : Array Value) (S : TypeId), W.heap[m]? = some (Obj.cells cur S) → S = 25 ∨ S = 33 → W'.heap[m]? = some (Obj.cells cur S)) : Rw W' base g vs Rm :=
  ⟨hk _ _ _ h.b (Or.inl rfl), h.len, fun k v t h1 h2 => (h.row k v t h1 h2).keep fun m _ _ cur hc => (hk m cur _ hc (Or.inr rfl)).trans hc.symm, h.ap⟩
/-- A line grown by a part, and laid in its place. -/
theorem Rw.app {W W' : World} {base g : Nat} {vs : List Value} {Rm : List (List Fg)} (h : Rw W base g vs Rm) {k : Nat} {v v' : Value} {t t' : List Fg} (hk : vs[k]? = some v) (hg : W.grownBy W' v.ownBlock) (hv : HoldsP W' base v' t') (ho : ∀ m, v'.ownBlock = some m → v.ownBlock = some m ∨ W.heap.size ≤ m) (ht : Rm[k]? = some t) :
    W'.heap[g]? = some (.cells vs.toArray 25) ∧ Rw (W'.setCell ⟨g, k, none⟩ v') base g (vs.set k v') (Rm.set k t') := by
  have hkl : k < vs.length := (List.getElem?_eq_some_iff.1 hk).1
  have hkR : k < Rm.length := (List.getElem?_eq_some_iff.1 ht).1
  have hvk := h.row k v t hk ht
  have hgv : v.ownBlock ≠ some g := fun e => by
    rcases hvk with ⟨rfl, _⟩ | ⟨m, o, cp, cur, rfl, h2, _⟩
    · cases e
    · have e' : m = g := Option.some.inj e
      rw [e', h.b] at h2
      injection h2 with h2
      injection h2 with _ h2
      exact absurd h2 (by decide)
  have hb' : W'.heap[g]? = some (.cells vs.toArray 25) := (hg.block g (Array.getElem?_eq_some_iff.1 h.b).1 (fun e => hgv e.symm)).trans h.b
  have hne : ∀ {m : Nat} {cur : Array Value}, W'.heap[m]? = some (.cells cur 33) → m ≠ g := fun hm e => by
    subst e
    rw [hb'] at hm
    injection hm with hm
    injection hm with _ hm
    exact absurd hm (by decide)
  have far : ∀ {u : Value} {s : List Fg}, HoldsP W' base u s → HoldsP (W'.setCell ⟨g, k, none⟩ v') base u s := fun hu => hu.keep fun m _ _ cur hc => Below.heap_setCell _ ⟨g, k, none⟩ _ _ (hne hc)
  refine ⟨hb', ?_, by rw [List.length_set, List.length_set]; exact h.len, fun j u s hu hs => ?_, fun i j a b hij ha hb m hm => ?_⟩
  · rw [heap_setCell_same _ _ k _ _ v' hb', List.setIfInBounds_toArray]
  · by_cases e : j = k
    · subst e
      rw [List.getElem?_set_self hkl] at hu
      rw [List.getElem?_set_self hkR] at hs
      cases hu
      cases hs
      exact far hv
    · rw [List.getElem?_set_ne (Ne.symm e)] at hu hs
      have hj := h.row j u s hu hs
      refine far ?_
      rcases hj with h' | ⟨m, o, cp, cur, e1, h2, h3⟩
      · exact Or.inl h'
      · refine Or.inr ⟨m, o, cp, cur, e1, (hg.block m (Array.getElem?_eq_some_iff.1 h2).1 (fun em => ?_)).trans h2, h3⟩
        exact h.ap j k u v e hu hk m (by rw [e1]; rfl) em.symm
  · by_cases ei : i = k
    · subst ei
      rw [List.getElem?_set_self hkl] at ha
      cases ha
      rw [List.getElem?_set_ne hij] at hb
      intro hbm
      rcases ho m hm with h1 | h1
      · exact h.ap i j v b hij hk hb m h1 hbm
      · have hjl : j < vs.length := (List.getElem?_eq_some_iff.1 hb).1
        obtain ⟨s, hs⟩ : ∃ s, Rm[j]? = some s := ⟨_, List.getElem?_eq_getElem (by rw [← h.len]; exact hjl)⟩
        rcases h.row j b s hb hs with ⟨rfl, _⟩ | ⟨m', o, cp, cur, rfl, h2, _⟩
        · cases hbm
        · have e' : m' = m := Option.some.inj hbm
          have := (Array.getElem?_eq_some_iff.1 h2).1
          omega
    · rw [List.getElem?_set_ne (Ne.symm ei)] at ha
      by_cases ej : j = k
      · subst ej
        rw [List.getElem?_set_self hkl] at hb
        cases hb
        intro hbm
        rcases ho m hbm with h1 | h1
        · exact h.ap i j a v hij ha hk m hm h1
        · have hil : i < vs.length := (List.getElem?_eq_some_iff.1 ha).1
          obtain ⟨s, hs⟩ : ∃ s, Rm[i]? = some s := ⟨_, List.getElem?_eq_getElem (by rw [← h.len]; exact hil)⟩
          rcases h.row i a s ha hs with ⟨rfl, _⟩ | ⟨m', o, cp, cur, rfl, h2, _⟩
          · cases hm
          · have e' : m' = m := Option.some.inj hm
            have := (Array.getElem?_eq_some_iff.1 h2).1
            omega
      · rw [List.getElem?_set_ne (Ne.symm ej)] at hb
        exact h.ap i j a b hij ha hb m hm
end Go.Proofs.Ytfkeokfmancgiaa
namespace Go.Proofs.Ytfkeokfmancgiaa
open Go.RowKit
/-- A row of parts, wherever it lies in a block of its kind. -/
def HoldsV (W : World) (v : Value) (P : List Fg) : Prop :=
  (P = [] ∧ ∃ ad cp, v = .slice ad 0 cp) ∨ ∃ g o cp cur, v = .slice (some ⟨g, o, none⟩) P.length cp ∧ W.heap[g]? = some (.cells cur 33) ∧ P.length ≤ cp ∧ ∀ j, j < P.length * 4 → cur[o + j]? = (fgcells P)[j]?
theorem HoldsP.v {W : World} {base : Nat} {v : Value} {P : List Fg} (h : HoldsP W base v P) : HoldsV W v P := by
  rcases h with ⟨rfl, rfl⟩ | ⟨g, o, cp, cur, e, h2, _, h4, _, h6⟩
  · exact Or.inl ⟨rfl, _, _, rfl⟩
  · exact Or.inr ⟨g, o, cp, cur, e, h2, h4, h6⟩
theorem HoldsV.form {W : World} {v : Value} {P : List Fg} (h : HoldsV W v P) : ∃ ad cp, v = .slice ad P.length cp := by
  rcases h with ⟨rfl, ad, cp, rfl⟩ | ⟨g, o, cp, cur, e, _⟩
  · exact ⟨_, _, rfl⟩
  · exact ⟨_, _, e⟩
/-- Blocks of parts stand: so does the row. -/
theorem HoldsV.stay {W W' : World} {v : Value} {P : List Fg} (h : HoldsV W v P) (k : ∀ (m : Nat) (cur : Array Value), W.heap[m]? = some (Obj.cells cur 33) → W'.heap[m]? = some (Obj.cells cur 33)) : HoldsV W' v P :=
  h.imp id fun ⟨g, o, cp, cur, e, h2, h3⟩ => ⟨g, o, cp, cur, e, k g cur h2, h3⟩
/-- The first part. -/
theorem HoldsV.head {W : World} {v : Value} {f : Fg} {P : List Fg} (h : HoldsV W v (f :: P)) : ∃ g o cp, v = .slice (some ⟨g, o, none⟩) (P.length + 1) cp ∧ P.length + 1 ≤ cp ∧ g < W.heap.size ∧ W.cell? ⟨g, o, none⟩ = some (.int .i64 f.seq) ∧ W.cell? ⟨g, o + 1, none⟩ = some (.bool f.beg) ∧ W.cell? ⟨g, o + 2, none⟩ = some (.bool f.fin) ∧ W.cell? ⟨g, o + 3, none⟩ = some (.string f.text) := by
  rcases h with ⟨e, _⟩ | ⟨g, o, cp, cur, e, h2, h3, h4⟩
  · cases e
  · have hl : (f :: P).length = P.length + 1 := rfl
    refine ⟨g, o, cp, e, h3, (Array.getElem?_eq_some_iff.1 h2).1, ?_, ?_, ?_, ?_⟩
    · have := h4 0 (by omega)
      rw [Nat.add_zero] at this
      rw [cell_of_row _ _ _ _ _ _ h2, this]
      rfl
    · rw [cell_of_row _ _ _ _ _ _ h2, h4 1 (by omega)]
      rfl
    · rw [cell_of_row _ _ _ _ _ _ h2, h4 2 (by omega)]
      rfl
    · rw [cell_of_row _ _ _ _ _ _ h2, h4 3 (by omega)]
      rfl
/-- The row without its first part. -/
theorem HoldsV.tail {W : World} {g o cp : Nat} {f : Fg} {P : List Fg} (h : HoldsV W (.slice (some ⟨g, o, none⟩) (P.length + 1) cp) (f :: P)) (b : Addr) (hb : P ≠ [] → b = ⟨g, o + 4, none⟩) : HoldsV W (.slice (some b) P.length (cp - 1)) P := by
  rcases h with ⟨e, _⟩ | ⟨g', o', cp', cur, e, h2, h3, h4⟩
  · cases e
  · cases e
    have hl : (f :: P).length = P.length + 1 := rfl
    by_cases hP : P = []
    · subst hP
      exact Or.inl ⟨rfl, _, _, rfl⟩
    · rw [hb hP]
      refine Or.inr ⟨g, o + 4, cp - 1, cur, rfl, h2, by omega, fun j hj => ?_⟩
      rw [show o + 4 + j = o + (j + 4) by omega, h4 (j + 4) (by omega)]
      rfl
/-- Texts put behind others. -/
theorem run_append_ts {W : World} {base b2 : Nat} {v s : Value} {G F : List ByteArray} (ty : TypeId) (hown : W.ownsRow base 9 1 v G.length (scells G)) (hs : W.ownsRow b2 9 1 s F.length (scells F)) (hG : G.length ≤ 1048576) (hF : F.length ≤ 1048576) (hbase : base ≤ W.heap.size) :
    ∃ v' W', (Builtin.append_ #[31, 31] ty #[v, s]).run Try.prog W = .ok v' W' ∧ W'.ownsRow base 9 1 v' (G ++ F).length (scells (G ++ F)) ∧ W.grownBy W' v.ownBlock := by
  obtain ⟨i, hi, hz, hsz, hby⟩ := sinfo
  rcases hs.2 with ⟨rfl, e⟩ | ⟨g, cap, cur, rfl, _, h3, _, _, _, h7⟩
  · have eF : F = [] := List.eq_nil_of_length_eq_zero e
    subst eF
    refine ⟨v, W, ?_, by rw [List.append_nil]; exact hown, ⟨rfl, rfl, rfl, Nat.le_refl _, fun _ _ _ => rfl⟩⟩
    rcases hown.2 with ⟨rfl, _⟩ | ⟨g, cap, cur, rfl, _, _, hnc, _⟩
    · simp [Builtin.append_, run_underlying Try.underlying31, sizeOf, typeInfo, hi, Builtin.lenOf, Builtin.firstCells]
    · simp [Builtin.append_, run_underlying Try.underlying31, sizeOf, typeInfo, hi, Builtin.lenOf, Builtin.firstCells, hnc, storeCells]
  · obtain ⟨v', W', h1, h2, h4, _⟩ := run_append_own (P := Try.prog) W base 31 ty 9 i _ 1 16 Try.underlying31 hi hz hsz hby rfl (by decide) v G.length (scells G) hown ⟨g, 0, none⟩ F.length cap (scells F) (by rw [scells_len]; omega) (fun j u hu => by
        rw [Addr.add_lit, Nat.zero_add, cell_of_row _ _ _ _ _ _ h3, ← hu, ← h7, List.getElem?_take, Array.getElem?_toList]
        have hj := (List.getElem?_eq_some_iff.1 hu).1
        rw [scells_len] at hj
        rw [if_pos (by omega)]) (fun u hu => by
        simp only [scells, List.mem_map] at hu
        obtain ⟨x, _, rfl⟩ := hu
        rfl) (by unfold maxLen; omega) (by omega) hbase
    exact ⟨v', W', h1, by rw [List.length_append, scells_append]; exact h2, h4⟩
theorem append_ts {W : World} {ops : Array Oper} {rest : List Oper} {o : Oper} {a : Act} {Q : Exit → Act → World → Prop} (hgd : o.guard = none) (s x : Operand)
    (ho : o.op = .call { callee := .builtin .append, args := #[s, x], argTypes := #[31, 31] }) (base b2 : Nat) (v sv : Value) (G F : List ByteArray) (hs : a.eval s = v) (hx : a.eval x = sv) (hv : W.ownsRow base 9 1 v G.length (scells G)) (hsv : W.ownsRow b2 9 1 sv F.length (scells F)) (hG : G.length ≤ 1048576) (hF : F.length ≤ 1048576) (hbase : base ≤ W.heap.size)
    (h : ∀ v' w', w'.ownsRow base 9 1 v' (G ++ F).length (scells (G ++ F)) → W.grownBy w' v.ownBlock → wpList Try.prog ops Q rest (a.put o.dst v') w') : wpList Try.prog ops Q (o :: rest) a W := by
  refine wpList_plain hgd fun K hK => ?_
  obtain ⟨v', w', hr, h2, h3⟩ := run_append_ts (W := W) o.type hv hsv hG hF hbase
  unfold Oper.wp execOp
  simp only [ho, resolve, invoke, builtin, Sem.run_bind, Sem.run_pure, Result.andThen_ok, List.map_toArray, List.map_cons, List.map_nil, hs, hx, hr]
  exact hK _ _ (h v' w' h2 h3)
theorem scells_one (F : List ByteArray) : ∀ u ∈ scells F, u.oneCell' = true := by
  intro u hu
  simp only [scells, List.mem_map] at hu
  obtain ⟨x, _, rfl⟩ := hu
  rfl
/-- Texts put behind others: the row stays where it is, or lies in a new block. -/
theorem run_append_ts2 {W : World} {base b2 : Nat} {v s : Value} {G F : List ByteArray} (ty : TypeId) (hown : W.ownsRow base 9 1 v G.length (scells G)) (hs : W.ownsRow b2 9 1 s F.length (scells F)) (hG : G.length ≤ 1048576) (hF : F.length ≤ 1048576) (hbase : base ≤ W.heap.size) :
    ∃ v' W', (Builtin.append_ #[31, 31] ty #[v, s]).run Try.prog W = .ok v' W' ∧ W'.ownsRow base 9 1 v' (G ++ F).length (scells (G ++ F)) ∧ W.grownBy W' v.ownBlock ∧ ∀ m, v'.ownBlock = some m → v.ownBlock = some m ∨ W.heap.size ≤ m := by
  obtain ⟨i, hi, hz, hsz, hby⟩ := sinfo
  obtain ⟨v', W', h1, h2, h3⟩ := run_append_ts (W := W) ty hown hs hG hF hbase
  refine ⟨v', W', h1, h2, h3, fun m hm => ?_⟩
  rcases hown.2 with ⟨e, e0⟩ | ⟨g, cap, cur, e, _, hc, hnc, hcm, hcs, htk⟩
  · -- a new row
    subst e
    obtain ⟨v2, W2, k1, k2, _⟩ := run_append_ts (W := W) (base := W.heap.size) (G := []) ty (World.ownsRow_nil _ _ _ _) hs (by simp) hF (Nat.le_refl _)
    rw [h1] at k1
    injection k1 with k1 _
    subst k1
    exact Or.inr (World.ownsRow.lt k2 m hm).1
  · subst e
    rcases hs.2 with ⟨es, ef⟩ | ⟨g2, cap2, cur2, es, _, s3, _, _, _, s7⟩
    · subst es
      have hrun : (Builtin.append_ #[31, 31] ty #[.slice (some ⟨g, 0, none⟩) G.length cap, .slice none 0 0]).run Try.prog W = .ok (.slice (some ⟨g, 0, none⟩) G.length cap) W := by
        simp [Builtin.append_, run_underlying Try.underlying31, sizeOf, typeInfo, hi, Builtin.lenOf, Builtin.firstCells, hnc, storeCells]
      rw [h1] at hrun
      injection hrun with hrun _
      subst hrun
      exact Or.inl hm
    · subst es
      have hnews : ∀ j u, (scells F)[j]? = some u → W.cell? ((⟨g2, 0, none⟩ : Addr).add j) = some u := fun j u hu => by
        rw [Addr.add_lit, Nat.zero_add, cell_of_row _ _ _ _ _ _ s3, ← hu, ← s7, List.getElem?_take, Array.getElem?_toList]
        have hj := (List.getElem?_eq_some_iff.1 hu).1
        rw [scells_len] at hj
        rw [if_pos (by omega)]
      have holds : ∀ j u, (scells G)[j]? = some u → W.cell? ((⟨g, 0, none⟩ : Addr).add j) = some u := fun j u hu => by
        rw [Addr.add_lit, Nat.zero_add, cell_of_row _ _ _ _ _ _ hc, ← hu, ← htk, List.getElem?_take, Array.getElem?_toList]
        have hj := (List.getElem?_eq_some_iff.1 hu).1
        rw [scells_len] at hj
        rw [if_pos (by omega)]
      by_cases hr : G.length + F.length ≤ cap
      · have hcell : ∀ j, j < (scells F).length → (W.cell? ⟨g, 0 + G.length * i.size + j, none⟩).isSome = true ∧ W.frozen? ⟨g, 0 + G.length * i.size + j, none⟩ = false := by
          intro j hj
          rw [scells_len] at hj
          have hlt : 0 + G.length * 1 + j < cur.size := by omega
          rw [hsz, cell_of_row _ _ _ _ _ _ hc, Array.getElem?_eq_getElem hlt]
          exact ⟨rfl, frz hc _⟩
        have hrun := run_append_room_cells (P := Try.prog) W 31 ty 9 i Try.underlying31 hi g 0 G.length cap ⟨g2, 0, none⟩ F.length cap2 (scells F) (by rw [hsz, scells_len]; omega) hnews (scells_one F) hr (fun j hj => (hcell j hj).1) (fun j hj => (hcell j hj).2)
        rw [h1] at hrun
        injection hrun with hrun _
        subst hrun
        exact Or.inl hm
      · obtain ⟨v2, W2, k1, r1, r2⟩ := run_append_arg_grows (P := Try.prog) W 31 ty 9 i _ 1 16 Try.underlying31 hi hz hsz hby rfl (by decide) ⟨g, 0, none⟩ G.length cap (scells G) (by rw [scells_len]; omega) holds ⟨g2, 0, none⟩ F.length cap2 (scells F) (by rw [scells_len]; omega) hnews (by omega) (by unfold maxLen; omega) (by omega)
        rw [h1] at k1
        injection k1 with k1 _
        subst k1
        exact Or.inr (World.ownsRow.lt r1 m hm).1
end Go.Proofs.Ytfkeokfmancgiaa
namespace Go.Proofs.Ytfkeokfmancgiaa
open Go.RowKit
/-- All blocks but those of one kind stand. -/
def Sty (T : TypeId) (q q' : World) : Prop := ∀ (g : Nat) (cur : Array Value) (S : TypeId), q.heap[g]? = some (Obj.cells cur S) → S ≠ T → q'.heap[g]? = some (Obj.cells cur S)
theorem sty_set {T : TypeId} {q : World} {B o : Nat} {cs : Array Value} (hB : q.heap[B]? = some (.cells cs T)) (x : Value) : Sty T q (q.setCell ⟨B, o, none⟩ x) := by
  intro g cur S hg hS
  refine (Below.heap_setCell _ ⟨B, o, none⟩ _ _ (fun e => ?_)).trans hg
  have e' : g = B := e
  rw [e', hB] at hg
  injection hg with hg
  injection hg with _ hg
  exact hS hg.symm
theorem sty_grown {T : TypeId} {q q' : World} {base size n : Nat} {v : Value} {xs : List Value} (ho : q.ownsRow base T size v n xs) (h : q.grownBy q' v.ownBlock) : Sty T q q' := by
  intro g cur S hg hS
  refine (h.block g (Array.getElem?_eq_some_iff.1 hg).1 (fun e => ?_)).trans hg
  rcases ho.2 with ⟨e1, _⟩ | ⟨g', cap, cur', e1, _, e3, _⟩
  · rw [e1] at e; cases e
  · rw [e1] at e
    have e' : g = g' := Option.some.inj e
    rw [e', e3] at hg
    injection hg with hg
    injection hg with _ hg
    exact hS hg.symm
theorem HoldsG.sty {T : TypeId} {q q' : World} {v : Value} {F : List Fg} (h : HoldsG q v F) (hT : 33 ≠ T) (hk : Sty T q q') : HoldsG q' v F :=
  h.imp id fun ⟨g, cp, cur, h1, h2, h3⟩ => ⟨g, cp, cur, h1, hk _ _ _ h2 hT, h3⟩
theorem HoldsI.sty {T : TypeId} {q q' : World} {v : Value} {L : List Int} (h : HoldsI q v L) (hT : 2 ≠ T) (hk : Sty T q q') : HoldsI q' v L :=
  h.imp id fun ⟨g, cp, cur, h1, h2, h3⟩ => ⟨g, cp, cur, h1, hk _ _ _ h2 hT, h3⟩
theorem HoldsT.sty {T : TypeId} {q q' : World} {v : Value} {L : List ByteArray} (h : HoldsT q v L) (hT : 9 ≠ T) (hk : Sty T q q') : HoldsT q' v L :=
  h.imp id fun ⟨g, cp, cur, h1, h2, h3⟩ => ⟨g, cp, cur, h1, hk _ _ _ h2 hT, h3⟩
theorem own_sty {T : TypeId} {q q' : World} {base : Nat} {e : TypeId} {size : Nat} {v : Value} {n : Nat} {xs : List Value} (h : q.ownsRow base e size v n xs) (hT : e ≠ T) (hk : Sty T q q') : q'.ownsRow base e size v n xs :=
  ⟨h.1, h.2.imp id fun ⟨g, cap, cur, p1, p2, p3, p4⟩ => ⟨g, cap, cur, p1, p2, hk _ _ _ p3 hT, p4⟩⟩
theorem sty_below {T : TypeId} {q q' : World} (hb : Below q.heap.size q q') : Sty T q q' := fun _ _ _ hg _ => (hb.block _ (Array.getElem?_eq_some_iff.1 hg).1).trans hg
/-- What the law has laid while it hears. -/
structure Lq (w q : World) (G B : Nat) (vs : List Value) (Rm : List (List Fg)) (L : List Int) (P : List Fg) (a1 a2 : Option Addr) (c1 c2 : Nat) (gv : Value) (Gt : List ByteArray) (tv : Value) (ts : List ByteArray) : Prop where
  tx : HoldsT q tv ts
  g : q.heap[G]? = some (.cells vs.toArray 25)
  len : vs.length = Rm.length
  row : ∀ (k : Nat) (v : Value) (t : List Fg), vs[k]? = some v → Rm[k]? = some t → HoldsV q v t
  b : q.heap[B]? = some (.cells #[.slice a1 L.length c1, .slice a2 P.length c2] 29)
  l : HoldsI q (.slice a1 L.length c1) L
  p : HoldsG q (.slice a2 P.length c2) P
  o : q.ownsRow w.heap.size 9 1 gv Gt.length (scells Gt)
  txg : ts ≠ [] → ∀ m, tv.ownBlock = some m → gv.ownBlock ≠ some m
  bw : Below w.heap.size w q
  bB : w.heap.size ≤ B
  bG : w.heap.size ≤ G
variable {w q q' : World} {G B : Nat} {vs : List Value} {Rm : List (List Fg)} {L L' : List Int} {P P' : List Fg} {a1 a2 a1' a2' : Option Addr} {c1 c2 c1' c2' : Nat} {gv gv' : Value} {Gt Gt' : List ByteArray} {tv : Value} {ts : List ByteArray}
/-- Blocks of a kind that is none of these changed. -/
theorem Lq.sty {T : TypeId} (h : Lq w q G B vs Rm L P a1 a2 c1 c2 gv Gt tv ts) (k : Sty T q q') (hb : Below w.heap.size w q') (e1 : 29 ≠ T) (e2 : 2 ≠ T) (e3 : 33 ≠ T) (e4 : 9 ≠ T) (e5 : 25 ≠ T) : Lq w q' G B vs Rm L P a1 a2 c1 c2 gv Gt tv ts :=
  ⟨h.tx.sty e4 k, k _ _ _ h.g e5, h.len, fun j v t h1 h2 => (h.row j v t h1 h2).stay fun m cur hm => k m cur _ hm e3, k _ _ _ h.b e1, h.l.sty e2 k, h.p.sty e3 k, own_sty h.o e4 k, h.txg, hb, h.bB, h.bG⟩
theorem Lq.step (h : Lq w q G B vs Rm L P a1 a2 c1 c2 gv Gt tv ts) (hb : Below q.heap.size q q') : Lq w q' G B vs Rm L P a1 a2 c1 c2 gv Gt tv ts := by
  have k : ∀ {m : Nat} {ob : Obj}, q.heap[m]? = some ob → q'.heap[m]? = some ob := fun hm => (hb.block _ (Array.getElem?_eq_some_iff.1 hm).1).trans hm
  exact ⟨h.tx.below hb rfl, k h.g, h.len, fun j v t h1 h2 => (h.row j v t h1 h2).stay fun m cur hm => k hm, k h.b, h.l.below hb rfl, h.p.below hb rfl, ⟨h.o.1, h.o.2.imp id fun ⟨g, cap, cur, p1, p2, p3, p4⟩ => ⟨g, cap, cur, p1, p2, k p3, p4⟩⟩, h.txg, h.bw.trans (hb.mono h.bw.size), h.bB, h.bG⟩
/-- The bundle changed for the answer's. -/
theorem Lq.setB (h : Lq w q G B vs Rm L P a1 a2 c1 c2 gv Gt tv ts) (hl : HoldsI q (.slice a1' L'.length c1') L') (hp : HoldsG q (.slice a2' P'.length c2') P') :
    Lq w ((q.setCell ⟨B, 0, none⟩ (.slice a1' L'.length c1')).setCell ⟨B, 1, none⟩ (.slice a2' P'.length c2')) G B vs Rm L' P' a1' a2' c1' c2' gv Gt tv ts ∧ Sty 29 q ((q.setCell ⟨B, 0, none⟩ (.slice a1' L'.length c1')).setCell ⟨B, 1, none⟩ (.slice a2' P'.length c2')) := by
  have e1 := heap_setCell_same q B 0 _ _ (.slice a1' L'.length c1') h.b
  have e2 := heap_setCell_same _ B 1 _ _ (.slice a2' P'.length c2') e1
  have k : Sty 29 q ((q.setCell ⟨B, 0, none⟩ (.slice a1' L'.length c1')).setCell ⟨B, 1, none⟩ (.slice a2' P'.length c2')) := fun g cur S hg hS => sty_set e1 _ g cur S (sty_set h.b _ g cur S hg hS) hS
  exact ⟨⟨h.tx.sty (by decide) k, k _ _ _ h.g (by decide), h.len, fun j v t h1 h2 => (h.row j v t h1 h2).stay fun m cur hm => k m cur _ hm (by decide), e2, hl.sty (by decide) k, hp.sty (by decide) k, own_sty h.o (by decide) k, h.txg, (h.bw.setCell (p := ⟨B, 0, none⟩) h.bB _).setCell (p := ⟨B, 1, none⟩) h.bB _, h.bB, h.bG⟩, k⟩
/-- More is got. -/
theorem Lq.app (h : Lq w q G B vs Rm L P a1 a2 c1 c2 gv Gt tv ts) (hg : q.grownBy q' gv.ownBlock) (ho : q'.ownsRow w.heap.size 9 1 gv' Gt'.length (scells Gt')) (hn : ∀ m, gv'.ownBlock = some m → gv.ownBlock = some m ∨ q.heap.size ≤ m) : Lq w q' G B vs Rm L P a1 a2 c1 c2 gv' Gt' tv ts := by
  have k := sty_grown h.o hg
  have htx : ∀ m, tv.ownBlock = some m → ts ≠ [] → m < q.heap.size := fun m hm hne => by
    rcases h.tx with ⟨ad, cp, _, e0⟩ | ⟨g, cp, cur, e1, h2, _⟩
    · exact absurd e0 hne
    · rw [e1] at hm
      have e' : g = m := Option.some.inj hm
      rw [← e']
      exact (Array.getElem?_eq_some_iff.1 h2).1
  refine ⟨?_, k _ _ _ h.g (by decide), h.len, fun j v t h1 h2 => (h.row j v t h1 h2).stay fun m cur hm => k m cur _ hm (by decide), k _ _ _ h.b (by decide), h.l.sty (by decide) k, h.p.sty (by decide) k, ho, ?_, h.bw.grown hg h.bw.size (fun m hm => (World.ownsRow.lt h.o m hm).1), h.bB, h.bG⟩
  · by_cases hne : ts = []
    · rcases h.tx with h' | ⟨g, cp, cur, e1, h2, h3⟩
      · exact Or.inl h'
      · exact Or.inl ⟨_, _, by rw [e1, hne]; rfl, hne⟩
    · rcases h.tx with h' | ⟨g, cp, cur, e1, h2, h3⟩
      · exact Or.inl h'
      · exact Or.inr ⟨g, cp, cur, e1, (hg.block g (Array.getElem?_eq_some_iff.1 h2).1 (fun e => h.txg hne g (by rw [e1]; rfl) e.symm)).trans h2, h3⟩
  · intro hne m hm hgm
    rcases hn m hgm with h1 | h1
    · exact h.txg hne m hm h1
    · have := htx m hm hne
      omega
/-- A line without its first part. -/
theorem Lq.cut (h : Lq w q G B vs Rm L P a1 a2 c1 c2 gv Gt tv ts) {k : Nat} {v' : Value} {t' : List Fg} (hk : k < vs.length) (hv : HoldsV q v' t') : Lq w (q.setCell ⟨G, k, none⟩ v') G B (vs.set k v') (Rm.set k t') L P a1 a2 c1 c2 gv Gt tv ts := by
  have s := sty_set (o := k) h.g v'
  have far : ∀ {u : Value} {x : List Fg}, HoldsV q u x → HoldsV (q.setCell ⟨G, k, none⟩ v') u x := fun hu => hu.stay fun m cur hm => s m cur _ hm (by decide)
  refine ⟨h.tx.sty (by decide) s, by rw [heap_setCell_same _ _ k _ _ v' h.g, List.setIfInBounds_toArray], by rw [List.length_set, List.length_set]; exact h.len, fun j u x hu hx => ?_, s _ _ _ h.b (by decide), h.l.sty (by decide) s, h.p.sty (by decide) s, own_sty h.o (by decide) s, h.txg, h.bw.setCell (p := ⟨G, k, none⟩) h.bG _, h.bB, h.bG⟩
  by_cases e : j = k
  · subst e
    rw [List.getElem?_set_self hk] at hu
    rw [List.getElem?_set_self (by rw [← h.len]; exact hk)] at hx
    cases hu
    cases hx
    exact far hv
  · rw [List.getElem?_set_ne (Ne.symm e)] at hu hx
    exact far (h.row j u x hu hx)
end Go.Proofs.Ytfkeokfmancgiaa
