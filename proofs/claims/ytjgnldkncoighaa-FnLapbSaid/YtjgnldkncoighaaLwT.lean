/- Rows of texts put behind one that the call owns; the program's copies of texts, and all the texts of an end at work; what lay in memory stands. -/
import Derived.Test.YtjgnldkncoighaaLwF
import Derived.Test.YtjgnldkncoighaaLpR
import Derived.Test.YtjgnldkncoighaaCln
namespace Go.Proofs.Ytjgnldkncoighaa
open Go.RowKit
theorem HoldsQ.s {w : World} {base : Nat} {v : Value} {L : List ByteArray} (h : HoldsQ w base v L) : HoldsS w v L := by
  rcases h with ⟨h1, h2⟩ | ⟨g, o, cp, cur, h1, h2, _, _, _, h3⟩
  · exact Or.inl ⟨_, _, h1, h2⟩
  · exact Or.inr ⟨g, o, cp, cur, h1, h2, h3⟩
theorem scells_one (L : List ByteArray) : ∀ u ∈ scells L, u.oneCell' = true := by
  intro u hu
  simp only [scells, List.mem_map] at hu
  obtain ⟨t, _, rfl⟩ := hu
  rfl
theorem run_append_ts {W : World} {base : Nat} {v s : Value} {G L : List ByteArray} (ty : TypeId) (hown : W.ownsRow base 9 1 v G.length (scells G)) (hs : HoldsS W s L) (hG : G.length ≤ 2000000) (hL : L.length ≤ 2000000) (hbase : base ≤ W.heap.size) :
    ∃ v' W', (Builtin.append_ #[23, 23] ty #[v, s]).run Try.prog W = .ok v' W' ∧ W'.ownsRow base 9 1 v' (G ++ L).length (scells (G ++ L)) ∧ W.grownBy W' v.ownBlock := by
  obtain ⟨i, hi, hz, hsz, hby⟩ := sinfo
  have key : ∀ (a : Addr) (cp : Nat), s = .slice (some a) L.length cp → (∀ j u, (scells L)[j]? = some u → W.cell? (a.add j) = some u) →
      ∃ v' W', (Builtin.append_ #[23, 23] ty #[v, s]).run Try.prog W = .ok v' W' ∧ W'.ownsRow base 9 1 v' (G ++ L).length (scells (G ++ L)) ∧ W.grownBy W' v.ownBlock := by
    rintro a cp rfl hn
    obtain ⟨v', W', h1, h2, h3, _⟩ := run_append_own (P := Try.prog) W base 23 ty 9 i _ 1 16 Try.underlying23 hi hz hsz hby rfl (by decide) v G.length (scells G) hown a L.length cp (scells L) (by rw [scells_len]; omega) hn (scells_one L)
      (by unfold maxLen; omega) (by omega) hbase
    exact ⟨v', W', h1, by rw [List.length_append, scells_append]; exact h2, h3⟩
  rcases hs with ⟨ad, cp, rfl, rfl⟩ | ⟨g, o, cp, cur, rfl, hg, hg3⟩
  · cases ad with
    | some a => exact key a cp rfl (fun j u h => by cases h)
    | none =>
      refine ⟨v, W, ?_, by rw [List.append_nil]; exact hown, ⟨rfl, rfl, rfl, Nat.le_refl _, fun _ _ _ => rfl⟩⟩
      rcases hown.2 with ⟨rfl, _⟩ | ⟨g, cap, cur, rfl, _, _, hnc, _⟩
      · simp [Builtin.append_, run_underlying Try.underlying23, sizeOf, typeInfo, hi, Builtin.lenOf, Builtin.firstCells]
      · simp [Builtin.append_, run_underlying Try.underlying23, sizeOf, typeInfo, hi, Builtin.lenOf, Builtin.firstCells, hnc, storeCells]
  · refine key ⟨g, o, none⟩ cp rfl (fun j u h => ?_)
    have hj : j < L.length := by have := (List.getElem?_eq_some_iff.1 h).1; rw [scells_len] at this; exact this
    rw [Addr.add_lit, cell_of_row _ _ _ _ _ _ hg, hg3 j hj]
    rw [scells_get L j _ (List.getElem?_eq_getElem hj)] at h
    exact h
theorem append_ts {w : World} {ops : Array Oper} {rest : List Oper} {o : Oper} {a : Act} {Q : Exit → Act → World → Prop} (hgd : o.guard = none) (s x : Operand)
    (ho : o.op = .call { callee := .builtin .append, args := #[s, x], argTypes := #[23, 23] }) (base : Nat) (v sv : Value) (G L : List ByteArray) (hs : a.eval s = v) (hx : a.eval x = sv)
    (hown : w.ownsRow base 9 1 v G.length (scells G)) (hsv : HoldsS w sv L) (hG : G.length ≤ 2000000) (hL : L.length ≤ 2000000) (hbase : base ≤ w.heap.size)
    (h : ∀ v' w', w'.ownsRow base 9 1 v' (G ++ L).length (scells (G ++ L)) → w.grownBy w' v.ownBlock → wpList Try.prog ops Q rest (a.put o.dst v') w') : wpList Try.prog ops Q (o :: rest) a w := by
  refine wpList_plain hgd fun K hK => ?_
  obtain ⟨v', w', hr, h2, h3⟩ := run_append_ts (W := w) o.type hown hsv hG hL hbase
  unfold Oper.wp execOp
  simp only [ho, resolve, invoke, builtin, Sem.run_bind, Sem.run_pure, Result.andThen_ok, List.map_toArray, List.map_cons, List.map_nil, hs, hx, hr]
  exact hK _ _ (h v' w' h2 h3)
set_option maxHeartbeats 400000 in
theorem cloneS (t : ByteArray) (w : World) (ht : t.size ≤ 281474976710656) : Calls Try.prog 34 #[.string t] w fun e w' => e = .returned (.string t) ∧ Below w.heap.size w w' := by
  have C := hide (Any.stringslite_Clone Try.laysCln t w ht)
  go_enter Try.func34, Try.ntmps34
  go_wp2_with fail
  refine (unhide C).mono ?_
  rintro e w1 ⟨rfl, hb⟩
  go_wp2
  go_ret
  exact ⟨rfl, hb⟩
theorem field_st (T : TypeId) (t : ByteArray) (hT : T = 79) (W : World) : (Instr.field T (.agg #[.string t]) 0).run Try.prog W = .ok (.string t) W := by
  subst hT
  have hi : (Try.prog.info? 9).map (·.size) = some 1 := by kernel_rfl
  obtain ⟨i, hi0, hi1⟩ := Option.map_eq_some_iff.1 hi
  simp [Instr.field, run_underlying Try.underlying79, part, asAgg, sizeOf, typeInfo, hi0, hi1]
end Go.Proofs.Ytjgnldkncoighaa
