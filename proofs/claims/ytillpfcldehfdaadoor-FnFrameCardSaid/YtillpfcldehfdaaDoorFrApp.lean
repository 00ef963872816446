/- append of what was found onto a row that the call owns, at a step of a region that draws its order; no condition. -/
import Derived.Test.YtillpfcldehfdaaDoorHoldF
import Derived.Deep.AppendLies
import Derived.Deep.RegionHeld3
namespace Go.Proofs.YtillpfcldehfdaaDoor
open Go.RowKit
theorem run_append_fd {W : World} {base : Nat} {v s : Value} {G F : List Hd.Fd} (ty : TypeId) (hown : W.ownsRow base 44 2 v G.length (fcells G)) (hs : HoldsF W s F) (hG : G.length ≤ 1000) (hF : F.length ≤ 1000) (hbase : base ≤ W.heap.size) :
    ∃ v' W', (Builtin.append_ #[39, 39] ty #[v, s]).run Tryd.prog W = .ok v' W' ∧ W'.ownsRow base 44 2 v' (G ++ F).length (fcells (G ++ F)) ∧ W.grownBy W' v.ownBlock := by
  obtain ⟨i, hi, hz, hsz, hby⟩ := finfo
  have key : ∀ (a : Addr) (cp : Nat), s = .slice (some a) F.length cp → (∀ j u, (fcells F)[j]? = some u → W.cell? (a.add j) = some u) →
      ∃ v' W', (Builtin.append_ #[39, 39] ty #[v, s]).run Tryd.prog W = .ok v' W' ∧ W'.ownsRow base 44 2 v' (G ++ F).length (fcells (G ++ F)) ∧ W.grownBy W' v.ownBlock := by
    rintro a cp rfl hn
    obtain ⟨v', W', h1, h2, h3, _⟩ := run_append_own (P := Tryd.prog) W base 39 ty 44 i _ 2 24 Tryd.underlying39 hi hz hsz hby rfl (by decide) v G.length (fcells G) hown a F.length cp (fcells F) (fcells_len F) hn (fcells_one F)
      (by unfold maxLen; omega) (by omega) hbase
    exact ⟨v', W', h1, by rw [List.length_append, fcells_append]; exact h2, h3⟩
  rcases hs with ⟨ad, cp, rfl, rfl⟩ | ⟨g, cp, cur, rfl, hg, hg2, hg3⟩
  · cases ad with
    | some a => exact key a cp rfl (fun j u h => by cases h)
    | none =>
      refine ⟨v, W, ?_, by rw [List.append_nil]; exact hown, ⟨rfl, rfl, rfl, Nat.le_refl _, fun _ _ _ => rfl⟩⟩
      rcases hown.2 with ⟨rfl, _⟩ | ⟨g, cap, cur, rfl, _, _, hnc, _⟩
      · simp [Builtin.append_, run_underlying Tryd.underlying39, sizeOf, typeInfo, hi, Builtin.lenOf, Builtin.firstCells]
      · simp [Builtin.append_, run_underlying Tryd.underlying39, sizeOf, typeInfo, hi, Builtin.lenOf, Builtin.firstCells, hnc, storeCells]
  · refine key ⟨g, 0, none⟩ cp rfl (fun j u h => ?_)
    have hadd : (⟨g, 0, none⟩ : Addr).add j = ⟨g, j, none⟩ := by unfold Addr.add; split <;> simp_all
    rw [hadd, cell_of_row _ _ _ _ _ _ hg, hg3 j (by have := (List.getElem?_eq_some_iff.1 h).1; rw [fcells_len] at this; exact this)]
    exact h
theorem step_append_fd {ops : Array Oper} {o : Oper} {a : Act} {K : Act → World → Prop} {Q : Exit → Act → World → Prop} {E : Prop} (w : World) (hgd : o.guard = none) (s x : Operand)
    (ho : o.op = .call { callee := .builtin .append, args := #[s, x], argTypes := #[39, 39] }) (base : Nat) (v sv : Value) (G F : List Hd.Fd) (hs : a.eval s = v) (hx : a.eval x = sv)
    (hown : w.ownsRow base 44 2 v G.length (fcells G)) (hsv : HoldsF w sv F) (hG : G.length ≤ 1000) (hF : F.length ≤ 1000) (hbase : base ≤ w.heap.size)
    (h : ∀ v' w', w'.ownsRow base 44 2 v' (G ++ F).length (fcells (G ++ F)) → w.grownBy w' v.ownBlock → K (a.put o.dst v') w') :
    if Region.wanted o (yielded ops a.tmps) = true then Oper.wp Tryd.prog o a w K Q else E := by
  have hw : Region.wanted o (yielded ops a.tmps) = true := by simp [Region.wanted, hgd]
  rw [if_pos hw]
  obtain ⟨v', w', hr, h2, h3⟩ := run_append_fd (W := w) o.type hown hsv hG hF hbase
  unfold Oper.wp execOp
  simp only [ho, resolve, invoke, builtin, Sem.run_bind, Sem.run_pure, Result.andThen_ok, List.map_toArray, List.map_cons, List.map_nil, hs, hx, hr]
  exact h v' w' h2 h3
end Go.Proofs.YtillpfcldehfdaaDoor
