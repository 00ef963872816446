/- What the model's BundleHear has laid in memory, and how its steps turn it; no condition but those named. -/
import Derived.Test.YtfkeokfmancgiaaBdPs
namespace Go.Proofs.Ytfkeokfmancgiaa
open Go.RowKit
theorem icells_one (L : List Int) : ∀ u ∈ icells L, u.oneCell' = true := by
  intro u hu
  simp only [icells, List.mem_map] at hu
  obtain ⟨x, _, rfl⟩ := hu
  rfl
theorem run_append_is {W : World} {base : Nat} {v s : Value} {G F : List Int} (ty : TypeId) (hown : W.ownsRow base 2 1 v G.length (icells G)) (hs : HoldsI W s F) (hG : G.length ≤ 1048576) (hF : F.length ≤ 1048576) (hbase : base ≤ W.heap.size) :
    ∃ v' W', (Builtin.append_ #[27, 27] ty #[v, s]).run Try.prog W = .ok v' W' ∧ W'.ownsRow base 2 1 v' (G ++ F).length (icells (G ++ F)) ∧ W.grownBy W' v.ownBlock := by
  obtain ⟨i, hi, hz, hsz, hby⟩ := iinfo
  have key : ∀ (a : Addr) (cp : Nat), s = .slice (some a) F.length cp → (∀ j u, (icells F)[j]? = some u → W.cell? (a.add j) = some u) →
      ∃ v' W', (Builtin.append_ #[27, 27] ty #[v, s]).run Try.prog W = .ok v' W' ∧ W'.ownsRow base 2 1 v' (G ++ F).length (icells (G ++ F)) ∧ W.grownBy W' v.ownBlock := by
    rintro a cp rfl hn
    obtain ⟨v', W', h1, h2, h3, _⟩ := run_append_own (P := Try.prog) W base 27 ty 2 i _ 1 8 Try.underlying27 hi hz hsz hby rfl (by decide) v G.length (icells G) hown a F.length cp (icells F) (by rw [icells_len, Nat.mul_one]) hn (icells_one F)
      (by unfold maxLen; omega) (by omega) hbase
    exact ⟨v', W', h1, by rw [List.length_append, icells_append]; exact h2, h3⟩
  rcases hs with ⟨ad, cp, rfl, rfl⟩ | ⟨g, cp, cur, rfl, hg, hg2, hg3⟩
  · cases ad with
    | some a => exact key a cp rfl (fun j u h => by cases h)
    | none =>
      refine ⟨v, W, ?_, by rw [List.append_nil]; exact hown, ⟨rfl, rfl, rfl, Nat.le_refl _, fun _ _ _ => rfl⟩⟩
      rcases hown.2 with ⟨rfl, _⟩ | ⟨g, cap, cur, rfl, _, _, hnc, _⟩
      · simp [Builtin.append_, run_underlying Try.underlying27, sizeOf, typeInfo, hi, Builtin.lenOf, Builtin.firstCells]
      · simp [Builtin.append_, run_underlying Try.underlying27, sizeOf, typeInfo, hi, Builtin.lenOf, Builtin.firstCells, hnc, storeCells]
  · refine key ⟨g, 0, none⟩ cp rfl (fun j u h => ?_)
    have hadd : (⟨g, 0, none⟩ : Addr).add j = ⟨g, j, none⟩ := by unfold Addr.add; split <;> simp_all
    rw [hadd, cell_of_row _ _ _ _ _ _ hg, hg3 j (by have := (List.getElem?_eq_some_iff.1 h).1; rw [icells_len] at this; exact this)]
    exact h
theorem append_is {W : World} {ops : Array Oper} {rest : List Oper} {o : Oper} {a : Act} {Q : Exit → Act → World → Prop} (hgd : o.guard = none) (s x : Operand)
    (ho : o.op = .call { callee := .builtin .append, args := #[s, x], argTypes := #[27, 27] })
    (base : Nat) (v sv : Value) (G F : List Int) (hs : a.eval s = v) (hx : a.eval x = sv) (hown : W.ownsRow base 2 1 v G.length (icells G)) (hsv : HoldsI W sv F) (hG : G.length ≤ 1048576) (hF : F.length ≤ 1048576) (hbase : base ≤ W.heap.size)
    (h : ∀ v' w', w'.ownsRow base 2 1 v' (G ++ F).length (icells (G ++ F)) → W.grownBy w' v.ownBlock → wpList Try.prog ops Q rest (a.put o.dst v') w') : wpList Try.prog ops Q (o :: rest) a W := by
  refine wpList_plain hgd fun K hK => ?_
  obtain ⟨v', w', hr, h2, h3⟩ := run_append_is (W := W) o.type hown hsv hG hF hbase
  unfold Oper.wp execOp
  simp only [ho, resolve, invoke, builtin, Sem.run_bind, Sem.run_pure, Result.andThen_ok, List.map_toArray, List.map_cons, List.map_nil, hs, hx, hr]
  exact hK _ _ (h v' w' h2 h3)
/-- What an owned row's block holds. -/
theorem own_kind {z : World} {base n sz : Nat} {T : TypeId} {v : Value} {xs : List Value} (h : z.ownsRow base T sz v n xs) {g : Nat} (e : v.ownBlock = some g) : ∃ cs, z.heap[g]? = some (.cells cs T) := by
  rcases h.2 with ⟨e1, _⟩ | ⟨g', cap, cur, e1, _, e3, _⟩
  · rw [e1] at e; cases e
  · rw [e1] at e
    cases e
    exact ⟨cur, e3⟩
/-- Blocks of two kinds are two. -/
theorem kind_ne {z : World} {g h : Nat} {c1 c2 : Array Value} {T1 T2 : TypeId} (e1 : z.heap[g]? = some (.cells c1 T1)) (e2 : z.heap[h]? = some (.cells c2 T2)) (hT : T1 ≠ T2) : g ≠ h := fun e => by
  subst e
  rw [e1] at e2
  injection e2 with e2
  injection e2 with _ e2
  exact hT e2
/-- A row stands where a row of another kind was put behind. -/
theorem own_grown {z z' : World} {base n sz : Nat} {T T2 : TypeId} {v : Value} {xs : List Value} (h : z.ownsRow base T sz v n xs) {row : Option Nat} (hg : z.grownBy z' row) (hr : ∀ g, row = some g → ∃ cs, z.heap[g]? = some (.cells cs T2)) (hT : T ≠ T2) : z'.ownsRow base T sz v n xs :=
  ⟨h.1, h.2.imp id fun ⟨g, cap, cur, e1, e2, e3, e4⟩ => ⟨g, cap, cur, e1, e2, (hg.block g (Array.getElem?_eq_some_iff.1 e3).1 (fun e => by
    obtain ⟨cs, e5⟩ := hr g e.symm
    exact kind_ne e3 e5 hT rfl)).trans e3, e4⟩⟩
theorem own_setc {z : World} {base n sz : Nat} {T T2 : TypeId} {v : Value} {xs : List Value} (h : z.ownsRow base T sz v n xs) {X i : Nat} {cs : Array Value} (hX : z.heap[X]? = some (.cells cs T2)) (hT : T ≠ T2) (x : Value) : (z.setCell ⟨X, i, none⟩ x).ownsRow base T sz v n xs :=
  ⟨h.1, h.2.imp id fun ⟨g, cap, cur, e1, e2, e3, e4⟩ => ⟨g, cap, cur, e1, e2, (heap_setCell_other _ _ _ _ (kind_ne e3 hX hT)).trans e3, e4⟩⟩
/-- What the model's BundleHear has laid. -/
structure Mx (w : World) (b0 b1 X : Nat) (lv pv : Value) (L : List Int) (P : List Fg) (xv : Value) (st : List Fg) (gv : Value) (G : List ByteArray) (c : Int) (z : World) : Prop where
  x : z.heap[X]? = some (.cells #[.slice none 0 0, .slice none 0 0, gv, .int .i64 c, .int .i64 0] 37)
  r : z.heap[w.heap.size + 1 + 1]? = some (.cells #[.slice none 0 0, .slice none 0 0, .slice none 0 0, .int .i64 0, .int .i64 0] 37)
  n : X ≠ w.heap.size + 1 + 1
  l : z.ownsRow b0 2 1 lv L.length (icells L)
  p : z.ownsRow b0 33 4 pv P.length (fgcells P)
  s : z.ownsRow b1 33 4 xv st.length (fgcells st)
  d : ∀ g, pv.ownBlock = some g → g < b1
  g : z.ownsRow b0 9 1 gv G.length (scells G)
  b : Below w.heap.size w z
  q0 : w.heap.size ≤ b0
  q1 : b0 ≤ b1
  bX : b0 ≤ X
  bz : b1 ≤ z.heap.size
section
variable {w : World} {b0 b1 X : Nat} {lv pv : Value} {L : List Int} {P : List Fg} {xv : Value} {st : List Fg} {gv : Value} {G : List ByteArray} {c : Int} {z z' : World}
theorem Mx.step (h : Mx w b0 b1 X lv pv L P xv st gv G c z) (hb : Below z.heap.size z z') : Mx w b0 b1 X lv pv L P xv st gv G c z' :=
  ⟨(hb.block _ (Array.getElem?_eq_some_iff.1 h.x).1).trans h.x, (hb.block _ (Array.getElem?_eq_some_iff.1 h.r).1).trans h.r, h.n, own_below hb h.l, own_below hb h.p, own_below hb h.s, h.d, own_below hb h.g, h.b.trans (hb.mono h.b.size), h.q0, h.q1, h.bX, Nat.le_trans h.bz hb.size⟩
/-- Parts put behind those that stay. -/
theorem Mx.stay (h : Mx w b0 b1 X lv pv L P xv st gv G c z) {xv' : Value} {st' : List Fg} (hg : z.grownBy z' xv.ownBlock) (ho : z'.ownsRow b1 33 4 xv' st'.length (fgcells st')) : Mx w b0 b1 X lv pv L P xv' st' gv G c z' := by
  have hk : ∀ g, xv.ownBlock = some g → ∃ cs, z.heap[g]? = some (.cells cs 33) := fun g e => own_kind h.s e
  have hl : ∀ g, xv.ownBlock = some g → b1 ≤ g := fun g e => (h.s.lt g e).1
  refine ⟨(hg.block _ (Array.getElem?_eq_some_iff.1 h.x).1 (fun e => ?_)).trans h.x, (hg.block _ (Array.getElem?_eq_some_iff.1 h.r).1 (fun e => ?_)).trans h.r, h.n, own_grown h.l hg hk (by decide), ?_, ho, h.d, own_grown h.g hg hk (by decide), h.b.grown hg h.b.size (fun g e => ?_), h.q0, h.q1, h.bX, Nat.le_trans h.bz hg.size⟩
  · obtain ⟨cs, e5⟩ := hk _ e.symm
    exact kind_ne h.x e5 (by decide) rfl
  · obtain ⟨cs, e5⟩ := hk _ e.symm
    exact kind_ne h.r e5 (by decide) rfl
  · exact ⟨h.p.1, h.p.2.imp id fun ⟨g, cap, cur, e1, e2, e3, e4⟩ => ⟨g, cap, cur, e1, e2, (hg.block g (Array.getElem?_eq_some_iff.1 e3).1 (fun e => by
      have h1 := hl g e.symm
      have h2 := h.d g (by rw [e1]; rfl)
      omega)).trans e3, e4⟩⟩
  · have h1 := hl g e
    have h2 := h.q0
    have h3 := h.q1
    omega
/-- More is lost. -/
theorem Mx.lost (h : Mx w b0 b1 X lv pv L P xv st gv G c z) (x : Int) : Mx w b0 b1 X lv pv L P xv st gv G x (z.setCell ⟨X, 3, none⟩ (.int .i64 x)) :=
  ⟨heap_setCell_same _ _ 3 _ _ _ h.x, (heap_setCell_other _ _ _ _ (Ne.symm h.n)).trans h.r, h.n, own_setc h.l h.x (by decide) _, own_setc h.p h.x (by decide) _, own_setc h.s h.x (by decide) _, h.d, own_setc h.g h.x (by decide) _, h.b.setCell (p := ⟨X, 3, none⟩) (by have := h.bX; have := h.q0; show w.heap.size ≤ X; omega) _, h.q0, h.q1, h.bX, by rw [World.size_setCell]; exact h.bz⟩
/-- A text is got. -/
theorem Mx.got (h : Mx w b0 b1 X lv pv L P xv st gv G c z) {gv' : Value} {G' : List ByteArray} (hg : z.grownBy z' gv.ownBlock) (ho : z'.ownsRow b0 9 1 gv' G'.length (scells G')) : z'.heap[X]? = some (.cells #[.slice none 0 0, .slice none 0 0, gv, .int .i64 c, .int .i64 0] 37) ∧ Mx w b0 b1 X lv pv L P xv st gv' G' c (z'.setCell ⟨X, 2, none⟩ gv') := by
  have hk : ∀ g, gv.ownBlock = some g → ∃ cs, z.heap[g]? = some (.cells cs 9) := fun g e => own_kind h.g e
  have hx : z'.heap[X]? = some (.cells #[.slice none 0 0, .slice none 0 0, gv, .int .i64 c, .int .i64 0] 37) := (hg.block _ (Array.getElem?_eq_some_iff.1 h.x).1 (fun e => by
    obtain ⟨cs, e5⟩ := hk _ e.symm
    exact kind_ne h.x e5 (by decide) rfl)).trans h.x
  have hr : z'.heap[w.heap.size + 1 + 1]? = _ := (hg.block _ (Array.getElem?_eq_some_iff.1 h.r).1 (fun e => by
    obtain ⟨cs, e5⟩ := hk _ e.symm
    exact kind_ne h.r e5 (by decide) rfl)).trans h.r
  have hX : w.heap.size ≤ X := Nat.le_trans h.q0 h.bX
  exact ⟨hx, ⟨heap_setCell_same _ _ 2 _ _ _ hx, (heap_setCell_other _ _ _ _ (Ne.symm h.n)).trans hr, h.n, own_setc (own_grown h.l hg hk (by decide)) hx (by decide) _, own_setc (own_grown h.p hg hk (by decide)) hx (by decide) _, own_setc (own_grown h.s hg hk (by decide)) hx (by decide) _, h.d, own_setc ho hx (by decide) _, (h.b.grown hg h.b.size (fun g e => Nat.le_trans h.q0 (h.g.lt g e).1)).setCell (p := ⟨X, 2, none⟩) hX _, h.q0, h.q1, h.bX, by rw [World.size_setCell]; exact Nat.le_trans h.bz hg.size⟩⟩
end
/-- A row of parts has room for its capacity. -/
def RoomF (w : World) (v : Value) : Prop :=
  v = .slice none 0 0 ∨ ∃ g o n cp cur, v = .slice (some ⟨g, o, none⟩) n cp ∧ w.heap[g]? = some (.cells cur 33) ∧ n ≤ cp ∧ o + cp * 4 ≤ cur.size
theorem RoomF.own {z : World} {base n c : Nat} {a : Option Addr} {xs : List Value} (h : z.ownsRow base 33 4 (.slice a n c) n xs) : RoomF z (.slice a n c) := by
  rcases h.2 with ⟨e, _⟩ | ⟨g, cap, cur, e1, _, e3, e4, _, e6, _⟩
  · exact Or.inl e
  · exact Or.inr ⟨g, 0, n, cap, cur, e1, e3, e4, by omega⟩
theorem RoomF.cut {z : World} {base n c d : Nat} {a : Option Addr} {xs : List Value} (h : z.ownsRow base 33 4 (.slice a n c) n xs) (hd : d ≤ c) : RoomF z (.slice (if c = d then a else a.map (·.add (d * 4))) (n - d) (c - d)) := by
  rcases h.2 with ⟨e, e2⟩ | ⟨g, cap, cur, e1, _, e3, e4, _, e6, _⟩
  · injection e with ea _ ec
    subst ea ec e2
    left
    have h0 : (if 0 = d then (none : Option Addr) else Option.map (fun x : Addr => x.add (d * 4)) none) = none := by split <;> rfl
    rw [h0, Nat.zero_sub]
  · injection e1 with ea _ ec
    subst ea ec
    right
    by_cases hc : c = d
    · rw [if_pos hc]
      exact ⟨g, 0, _, _, cur, rfl, e3, by omega, by omega⟩
    · rw [if_neg hc]
      have hadd : (⟨g, 0, none⟩ : Addr).add (d * 4) = ⟨g, 0 + d * 4, none⟩ := by unfold Addr.add; split <;> simp_all
      exact ⟨g, 0 + d * 4, _, _, cur, by rw [Option.map_some, hadd], e3, by omega, by omega⟩
/-- A model's answer, laid in memory behind a world. -/
def AnsM (w : World) (o : BO) (e : Ending) (q : World) : Prop :=
  ∃ la lc pa pc ga gc, e = .returned (.agg #[.slice la o.L.length lc, .slice pa o.F.length pc, .slice ga o.G.length gc, .int .i64 (o.lost : Nat), .int .i64 o.cd]) ∧ HoldsI q (.slice la o.L.length lc) o.L ∧ HoldsF q (.slice pa o.F.length pc) o.F ∧ (o.F.length ≤ pc ∧ RoomF q (.slice pa o.F.length pc)) ∧ HoldsT q (.slice ga o.G.length gc) o.G ∧ (∀ g, (Value.slice la o.L.length lc).ownBlock = some g → w.heap.size ≤ g) ∧ (∀ g, (Value.slice pa o.F.length pc).ownBlock = some g → w.heap.size ≤ g) ∧ (∀ g, (Value.slice ga o.G.length gc).ownBlock = some g → w.heap.size ≤ g) ∧ Below w.heap.size w q
/-- A cut lies where the row does. -/
theorem ownb_cut (a : Option Addr) (c : Prop) [Decidable c] (n m k m' k' : Nat) : (Value.slice (if c then a else a.map (·.add n)) m k).ownBlock = (Value.slice a m' k').ownBlock := by
  cases a with
  | none => split <;> rfl
  | some a =>
    split
    · rfl
    · show some (a.add n).block = some a.block
      unfold Addr.add
      split <;> rfl
/-- The least of numbers is no less than a bound of all. -/
theorem minP_ge (m : Int) : ∀ (L : List Int) (a : Int), m ≤ a → (∀ x ∈ L, m ≤ x) → m ≤ minP a L := by
  intro L
  induction L with
  | nil => intro a h _; exact h
  | cons x L ih =>
    intro a h hL
    exact ih (min a x) (by have := hL x List.mem_cons_self; omega) (fun y hy => hL y (List.mem_cons_of_mem _ hy))
end Go.Proofs.Ytfkeokfmancgiaa
