/- Options put behind a row of options that the call made, and where the row lies then; no condition but those named. -/
import Derived.Test.YtkadbghglmlpkaaOptApp
import Derived.Maps.AppendAt
namespace Go.Proofs.Ytkadbghglmlpkaa
open Go.RowKit
theorem append_opt_at {wr : World} {ops : Array Oper} {rest : List Oper} {o : Oper} {a : Act} {Q : Exit → Act → World → Prop} (hgd : o.guard = none) (s x : Operand)
    (ho : o.op = .call { callee := .builtin .append, args := #[s, x], argTypes := #[24, 24] })
    (base : Nat) (v : Value) (F : List Op.Opt) (n : Nat) (hn : F.length = n) (hs : a.eval s = v) (hown : wr.ownsRow base 54 2 v n (ocells F)) (kd : Int) (dt : ByteArray) (hx : a.eval x = .slice (some ⟨wr.heap.size, 0, none⟩) 1 1) (hlen : n ≤ 1000) (hbase : base ≤ wr.heap.size)
    (h : ∀ v' w', w'.ownsRow base 54 2 v' (n + 1) (ocells (F ++ [⟨kd, dt⟩])) → (wr.alloc (.cells #[.int .i64 kd, .string dt] 54)).grownBy w' v.ownBlock → (v'.ownBlock = v.ownBlock ∨ v'.ownBlock = some (wr.heap.size + 1)) → wpList Try.prog ops Q rest (a.put o.dst v') w') : wpList Try.prog ops Q (o :: rest) a (wr.alloc (.cells #[.int .i64 kd, .string dt] 54)) := by
  obtain ⟨i0, hi0, hz0, hz1, hz2⟩ := oinfo
  refine wpList_append_own_at _ hgd s x 24 ho base 54 i0 _ 2 24 Try.underlying24 hi0 hz0 hz1 hz2 rfl (by decide) v n (ocells F) hs (hown.alloc _) ⟨wr.heap.size, 0, none⟩ 1 1 [.int .i64 kd, .string dt] hx rfl ?_ ?_ ?_ ?_ ?_ ?_
  · intro i u hu
    rw [Addr.add_lit, Nat.zero_add, World.cell?_alloc_at _ _ _ _ rfl, ← hu]
    simp
  · intro u hu
    simp only [List.mem_cons, List.not_mem_nil, or_false] at hu
    rcases hu with rfl | rfl <;> rfl
  · unfold maxLen; omega
  · omega
  · simp; omega
  · intro v' w2 hown2 hg2 _ hat
    refine h v' w2 ?_ hg2 (by simpa using hat)
    rw [ocells_append]
    exact hown2
theorem ocells_one (F : List Op.Opt) : ∀ u ∈ ocells F, u.oneCell' = true := by
  intro u hu
  simp only [ocells, List.mem_flatMap, List.mem_cons, List.not_mem_nil, or_false] at hu
  obtain ⟨f, _, rfl | rfl⟩ := hu <;> rfl
theorem run_append_od {W : World} {base : Nat} {v s : Value} {G F : List Op.Opt} (ty : TypeId) (hown : W.ownsRow base 54 2 v G.length (ocells G)) (hs : HoldsO W s F) (hG : G.length ≤ 1000) (hF : F.length ≤ 1000) (hbase : base ≤ W.heap.size) :
    ∃ v' W', (Builtin.append_ #[24, 24] ty #[v, s]).run Try.prog W = .ok v' W' ∧ W'.ownsRow base 54 2 v' (G ++ F).length (ocells (G ++ F)) ∧ W.grownBy W' v.ownBlock := by
  obtain ⟨i, hi, hz, hsz, hby⟩ := oinfo
  have key : ∀ (a : Addr) (cp : Nat), s = .slice (some a) F.length cp → (∀ j u, (ocells F)[j]? = some u → W.cell? (a.add j) = some u) →
      ∃ v' W', (Builtin.append_ #[24, 24] ty #[v, s]).run Try.prog W = .ok v' W' ∧ W'.ownsRow base 54 2 v' (G ++ F).length (ocells (G ++ F)) ∧ W.grownBy W' v.ownBlock := by
    rintro a cp rfl hn
    obtain ⟨v', W', h1, h2, h3, _⟩ := run_append_own (P := Try.prog) W base 24 ty 54 i _ 2 24 Try.underlying24 hi hz hsz hby rfl (by decide) v G.length (ocells G) hown a F.length cp (ocells F) (ocells_len F) hn (ocells_one F)
      (by unfold maxLen; omega) (by omega) hbase
    exact ⟨v', W', h1, by rw [List.length_append, ocells_append]; exact h2, h3⟩
  rcases hs with ⟨ad, cp, rfl, rfl⟩ | ⟨g, cp, cur, rfl, hg, hg2, hg3⟩
  · cases ad with
    | some a => exact key a cp rfl (fun j u h => by cases h)
    | none =>
      refine ⟨v, W, ?_, by rw [List.append_nil]; exact hown, ⟨rfl, rfl, rfl, Nat.le_refl _, fun _ _ _ => rfl⟩⟩
      rcases hown.2 with ⟨rfl, _⟩ | ⟨g, cap, cur, rfl, _, _, hnc, _⟩
      · simp [Builtin.append_, run_underlying Try.underlying24, sizeOf, typeInfo, hi, Builtin.lenOf, Builtin.firstCells]
      · simp [Builtin.append_, run_underlying Try.underlying24, sizeOf, typeInfo, hi, Builtin.lenOf, Builtin.firstCells, hnc, storeCells]
  · refine key ⟨g, 0, none⟩ cp rfl (fun j u h => ?_)
    have hadd : (⟨g, 0, none⟩ : Addr).add j = ⟨g, j, none⟩ := by unfold Addr.add; split <;> simp_all
    rw [hadd, cell_of_row _ _ _ _ _ _ hg, hg3 j (by have := (List.getElem?_eq_some_iff.1 h).1; rw [ocells_len] at this; exact this)]
    exact h
theorem append_od {W : World} {ops : Array Oper} {rest : List Oper} {o : Oper} {a : Act} {Q : Exit → Act → World → Prop} (hgd : o.guard = none) (s x : Operand)
    (ho : o.op = .call { callee := .builtin .append, args := #[s, x], argTypes := #[24, 24] })
    (base : Nat) (v sv : Value) (G F : List Op.Opt) (hs : a.eval s = v) (hx : a.eval x = sv) (hown : W.ownsRow base 54 2 v G.length (ocells G)) (hsv : HoldsO W sv F) (hG : G.length ≤ 1000) (hF : F.length ≤ 1000) (hbase : base ≤ W.heap.size)
    (h : ∀ v' w', w'.ownsRow base 54 2 v' (G ++ F).length (ocells (G ++ F)) → W.grownBy w' v.ownBlock → wpList Try.prog ops Q rest (a.put o.dst v') w') : wpList Try.prog ops Q (o :: rest) a W := by
  refine wpList_plain hgd fun K hK => ?_
  obtain ⟨v', w', hr, h2, h3⟩ := run_append_od (W := W) o.type hown hsv hG hF hbase
  unfold Oper.wp execOp
  simp only [ho, resolve, invoke, builtin, Sem.run_bind, Sem.run_pure, Result.andThen_ok, List.map_toArray, List.map_cons, List.map_nil, hs, hx, hr]
  exact hK _ _ (h v' w' h2 h3)
/-- A row stands where its block does. -/
theorem own_blk {w w' : World} {base : Nat} {e : TypeId} {size : Nat} {v : Value} {n : Nat} {xs : List Value} (h : w.ownsRow base e size v n xs) (hb : ∀ g, v.ownBlock = some g → w'.heap[g]? = w.heap[g]?) : w'.ownsRow base e size v n xs :=
  ⟨h.1, h.2.imp id fun ⟨g, cap, cur, h1, h2, h3, h4⟩ => ⟨g, cap, cur, h1, h2, (hb g (by rw [h1]; rfl)).trans h3, h4⟩⟩
end Go.Proofs.Ytkadbghglmlpkaa
