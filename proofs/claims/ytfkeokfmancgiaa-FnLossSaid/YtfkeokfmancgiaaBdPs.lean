/- The model's l09Put: a part put among the others; memory stands. -/
import Derived.Test.YtfkeokfmancgiaaBdHr
namespace Go.Proofs.Ytfkeokfmancgiaa
open Go.RowKit
theorem fgcells_one (F : List Fg) : ∀ u ∈ fgcells F, u.oneCell' = true := by
  intro u hu
  simp only [fgcells, List.mem_flatMap, List.mem_cons, List.not_mem_nil, or_false] at hu
  obtain ⟨f, _, rfl | rfl | rfl | rfl⟩ := hu <;> rfl
/-- A row of parts, cell by cell. -/
theorem HoldsF.news {w : World} {g o cp : Nat} {F : List Fg} (h : HoldsF w (.slice (some ⟨g, o, none⟩) F.length cp) F) : ∀ j u, (fgcells F)[j]? = some u → w.cell? ((⟨g, o, none⟩ : Addr).add j) = some u := by
  intro j u hu
  have hj := (List.getElem?_eq_some_iff.1 hu).1
  rw [fgcells_len] at hj
  have hi : j / 4 < F.length := by omega
  obtain ⟨g', o', cp', e, _, c0, c1, c2, c3⟩ := h.2 (j / 4) hi
  cases e
  have hg := fgcells_get F (j / 4) F[j / 4] (List.getElem?_eq_getElem hi)
  have hadd : (⟨g, o, none⟩ : Addr).add j = ⟨g, o + j, none⟩ := by unfold Addr.add; split <;> simp_all
  rw [hadd]
  have e4 : j % 4 = 0 ∨ j % 4 = 1 ∨ j % 4 = 2 ∨ j % 4 = 3 := by omega
  rcases e4 with e4 | e4 | e4 | e4
  · have ej : j = j / 4 * 4 := by omega
    rw [ej, hg.1] at hu
    rw [ej, ← hu]
    exact c0
  · have ej : j = j / 4 * 4 + 1 := by omega
    rw [ej, hg.2.1] at hu
    rw [ej, ← hu, ← Nat.add_assoc]
    exact c1
  · have ej : j = j / 4 * 4 + 2 := by omega
    rw [ej, hg.2.2.1] at hu
    rw [ej, ← hu, ← Nat.add_assoc]
    exact c2
  · have ej : j = j / 4 * 4 + 3 := by omega
    rw [ej, hg.2.2.2] at hu
    rw [ej, ← hu, ← Nat.add_assoc]
    exact c3
theorem run_append_gs {W : World} {base : Nat} {v s : Value} {G F : List Fg} (ty : TypeId) (hown : W.ownsRow base 33 4 v G.length (fgcells G)) (hs : HoldsF W s F) (hG : G.length ≤ 1048576) (hF : F.length ≤ 1048576) (hbase : base ≤ W.heap.size) :
    ∃ v' W', (Builtin.append_ #[25, 25] ty #[v, s]).run Try.prog W = .ok v' W' ∧ W'.ownsRow base 33 4 v' (G ++ F).length (fgcells (G ++ F)) ∧ W.grownBy W' v.ownBlock := by
  obtain ⟨i, hi, hz, hsz, hby⟩ := fginfo
  have key : ∀ (a : Addr) (cp : Nat), s = .slice (some a) F.length cp → (∀ j u, (fgcells F)[j]? = some u → W.cell? (a.add j) = some u) →
      ∃ v' W', (Builtin.append_ #[25, 25] ty #[v, s]).run Try.prog W = .ok v' W' ∧ W'.ownsRow base 33 4 v' (G ++ F).length (fgcells (G ++ F)) ∧ W.grownBy W' v.ownBlock := by
    rintro a cp rfl hn
    obtain ⟨v', W', h1, h2, h3, _⟩ := run_append_own (P := Try.prog) W base 25 ty 33 i _ 4 32 Try.underlying25 hi hz hsz hby rfl (by decide) v G.length (fgcells G) hown a F.length cp (fgcells F) (fgcells_len F) hn (fgcells_one F)
      (by unfold maxLen; omega) (by omega) hbase
    exact ⟨v', W', h1, by rw [List.length_append, fgcells_append]; exact h2, h3⟩
  obtain ⟨ad, cp, rfl⟩ := hs.1
  cases F with
  | nil =>
    cases ad with
    | some a => exact key a cp rfl (fun j u h => by cases h)
    | none =>
      refine ⟨v, W, ?_, by rw [List.append_nil]; exact hown, ⟨rfl, rfl, rfl, Nat.le_refl _, fun _ _ _ => rfl⟩⟩
      rcases hown.2 with ⟨rfl, _⟩ | ⟨g, cap, cur, rfl, _, _, hnc, _⟩
      · simp [Builtin.append_, run_underlying Try.underlying25, sizeOf, typeInfo, hi, Builtin.lenOf, Builtin.firstCells]
      · simp [Builtin.append_, run_underlying Try.underlying25, sizeOf, typeInfo, hi, Builtin.lenOf, Builtin.firstCells, hnc, storeCells]
  | cons f F =>
    obtain ⟨g, o, cp', e, _⟩ := hs.2 0 (by simp)
    injection e with e _ _
    subst e
    exact key ⟨g, o, none⟩ cp rfl hs.news
theorem append_gs {W : World} {ops : Array Oper} {rest : List Oper} {o : Oper} {a : Act} {Q : Exit → Act → World → Prop} (hgd : o.guard = none) (s x : Operand)
    (ho : o.op = .call { callee := .builtin .append, args := #[s, x], argTypes := #[25, 25] })
    (base : Nat) (v sv : Value) (G F : List Fg) (hs : a.eval s = v) (hx : a.eval x = sv) (hown : W.ownsRow base 33 4 v G.length (fgcells G)) (hsv : HoldsF W sv F) (hG : G.length ≤ 1048576) (hF : F.length ≤ 1048576) (hbase : base ≤ W.heap.size)
    (h : ∀ v' w', w'.ownsRow base 33 4 v' (G ++ F).length (fgcells (G ++ F)) → W.grownBy w' v.ownBlock → wpList Try.prog ops Q rest (a.put o.dst v') w') : wpList Try.prog ops Q (o :: rest) a W := by
  refine wpList_plain hgd fun K hK => ?_
  obtain ⟨v', w', hr, h2, h3⟩ := run_append_gs (W := W) o.type hown hsv hG hF hbase
  unfold Oper.wp execOp
  simp only [ho, resolve, invoke, builtin, Sem.run_bind, Sem.run_pure, Result.andThen_ok, List.map_toArray, List.map_cons, List.map_nil, hs, hx, hr]
  exact hK _ _ (h v' w' h2 h3)
/-- A part of a row of parts. -/
theorem HoldsF.cut {z : World} {ad : Option Addr} {cp lo hi : Nat} {F : List Fg} (h : HoldsF z (.slice ad F.length cp) F) (h1 : lo ≤ hi) (h2 : hi ≤ F.length) (hc : F.length ≤ cp) : HoldsF z (.slice (if cp = lo then ad else ad.map (·.add (lo * 4))) (hi - lo) (cp - lo)) ((F.drop lo).take (hi - lo)) := by
  have hlen : ((F.drop lo).take (hi - lo)).length = hi - lo := by rw [List.length_take, List.length_drop]; omega
  refine ⟨⟨_, _, by rw [hlen]⟩, fun i hi' => ?_⟩
  rw [hlen] at hi'
  obtain ⟨g, o, cp', e, hlt, c0, c1, c2, c3⟩ := h.2 (lo + i) (by omega)
  injection e with e _ _
  subst e
  rw [if_neg (by omega), hlen]
  have hadd : (⟨g, o, none⟩ : Addr).add (lo * 4) = ⟨g, o + lo * 4, none⟩ := by unfold Addr.add; split <;> simp_all
  have eg : ((F.drop lo).take (hi - lo))[i] = F[lo + i] := by simp
  refine ⟨g, o + lo * 4, cp - lo, by rw [Option.map_some, hadd], hlt, ?_⟩
  rw [eg]
  have e : o + lo * 4 + i * 4 = o + (lo + i) * 4 := by omega
  rw [e]
  exact ⟨c0, c1, c2, c3⟩
theorem elemG : Try.prog.elem 25 = 33 := by kernel_rfl
theorem slice_gh (z : World) (ad : Option Addr) (n cp h : Nat) (hh : h ≤ cp) : (Instr.slice 25 (.slice ad n cp) none (some (.int .i64 (h : Nat))) none).run Try.prog z = .ok (.slice (if cp = 0 then ad else ad.map (·.add (0 * 4))) (h - 0) (cp - 0)) z := by
  have hs := Try.sizeOf33 z
  rw [run_slice_h (P := Try.prog) (w := z) 25 ad n cp (by rw [elemG]; exact Try.underlying25) .i64 (h : Int) (by omega) (by omega), elemG, hs]
  simp [Result.andThen, sliced]
theorem slice_gl (z : World) (ad : Option Addr) (n cp l : Nat) (hl : l ≤ n) : (Instr.slice 25 (.slice ad n cp) (some (.int .i64 (l : Nat))) none none).run Try.prog z = .ok (.slice (if cp = l then ad else ad.map (·.add (l * 4))) (n - l) (cp - l)) z := by
  have hs := Try.sizeOf33 z
  rw [run_slice_l (P := Try.prog) (w := z) 25 ad n cp (by rw [elemG]; exact Try.underlying25) .i64 (l : Int) (by omega) (by omega), elemG, hs]
  simp [Result.andThen, sliced]
theorem slice_glh (z : World) (ad : Option Addr) (n cp l h : Nat) (hl : l ≤ h) (hh : h ≤ cp) : (Instr.slice 25 (.slice ad n cp) (some (.int .i64 (l : Nat))) (some (.int .i64 (h : Nat))) none).run Try.prog z = .ok (.slice (if cp = l then ad else ad.map (·.add (l * 4))) (h - l) (cp - l)) z := by
  have hs := Try.sizeOf33 z
  rw [run_slice_lh (P := Try.prog) (w := z) 25 ad n cp (by rw [elemG]; exact Try.underlying25) .i64 .i64 (l : Int) (h : Int) (by omega) (by omega) (by omega), elemG, hs]
  simp [Result.andThen, sliced]
theorem posP_lt {F : List Fg} {n : Int} : ∀ k (h : k < posP F n), (F[k]'(Nat.lt_of_lt_of_le h (posP_le F n))).seq < n := by
  induction F with
  | nil => intro k h; cases h
  | cons g F ih =>
    intro k h
    unfold posP at h
    split at h
    · rename_i hg
      cases k with
      | zero => exact hg
      | succ k => exact ih k (by omega)
    · cases h
theorem posP_stop {F : List Fg} {n : Int} : ∀ (h : posP F n < F.length), ¬ (F[posP F n]).seq < n := by
  induction F with
  | nil => intro h; cases h
  | cons g F ih =>
    by_cases hg : g.seq < n
    · have e : posP (g :: F) n = posP F n + 1 := by rw [posP, if_pos hg]
      simp only [e]
      intro h
      exact ih (by simpa using h)
    · have e : posP (g :: F) n = 0 := by rw [posP, if_neg hg]
      simp only [e]
      intro _
      exact hg
/-- At work on a put. -/
structure Pu (q : World) (s : Int) (b fn : Bool) (t : ByteArray) (z : World) : Prop where
  lo : Below q.heap.size q z
  bx : z.heap[q.heap.size]? = some (.cells #[.int .i64 s, .bool b, .bool fn, .string t] 33)
theorem Pu.step {q z z' : World} {s : Int} {b fn : Bool} {t : ByteArray} (h : Pu q s b fn t z) (hb : Below z.heap.size z z') : Pu q s b fn t z' :=
  ⟨h.lo.trans (hb.mono h.lo.size), (hb.block _ (Array.getElem?_eq_some_iff.1 h.bx).1).trans h.bx⟩
theorem Pu.grown {q z z' : World} {s : Int} {b fn : Bool} {t : ByteArray} (h : Pu q s b fn t z) {row : Option Nat} (hg : z.grownBy z' row) (hr : ∀ g, row = some g → q.heap.size + 1 ≤ g) : Pu q s b fn t z' :=
  ⟨h.lo.grown hg h.lo.size (fun g e => by have := hr g e; omega), (hg.block _ (Array.getElem?_eq_some_iff.1 h.bx).1 (fun e => by have := hr _ e.symm; omega)).trans h.bx⟩
set_option linter.unusedSimpArgs false in
set_option maxHeartbeats 16000000 in
set_option maxRecDepth 100000 in
/-- The loop that looks for the part's place. -/
theorem sPutB (q : World) (F : List Fg) (ad : Option Addr) (cp : Nat) (f : Fg) (hF : HoldsF q (.slice ad F.length cp) F) (hcp : F.length ≤ cp) (hlen : F.length ≤ 1000) :
    Calls Try.prog 53 #[.slice ad F.length cp, fgV f] q fun e q' => ∃ v, e = .returned v ∧ q'.ownsRow q.heap.size 33 4 v (putP F f).length (fgcells (putP F f)) ∧ Below q.heap.size q q' := by
  have hsp := putP_split F f
  obtain ⟨s, b, fn, t⟩ := f
  unfold fgV
  dsimp only at hsp ⊢
  have HF := hide fun (z : World) (h : Below q.heap.size q z) => hF.below h
  have HSP := hide hsp
  have hbA := (Below.refl q.heap.size q).alloc (Nat.le_refl _) (.cells #[.int .i64 s, .bool b, .bool fn, .string t] 33)
  have H0 : Hid (Pu q s b fn t (q.alloc (.cells #[.int .i64 s, .bool b, .bool fn, .string t] 33))) := hide ⟨hbA, heap_alloc_new q _⟩
  clear hF hsp hbA
  have hpl := posP_le F s
  generalize putP F ⟨s, b, fn, t⟩ = PF at HSP ⊢
  generalize hn : posP F s = p at *
  have HP := hide hn
  go_enter Try.func53, Try.ntmps53
  go_upto_region 2 with fail
  go_loopg [5] F.length (fun gk x wr => ∃ k : Nat, x = .int .i64 (k : Nat) ∧ k + gk = F.length ∧ k ≤ p ∧ Pu q s b fn t wr)
  case atStart => exact ⟨0, rfl, Nat.zero_add _, Nat.zero_le _, unhide H0⟩
  case round =>
    obtain ⟨k, rfl, hkg, hkp, hpu⟩ := hrel
    have HU := hide hpu
    clear hpu H0 hn
    by_cases hk : k < F.length
    · obtain ⟨g, o, cp', e, _⟩ := (unhide HF wr (unhide HU).lo).2 k hk
      injection e with e e2 e3
      clear e2 e3
      subst e
      have e1 : (k : Int) < (F.length : Int) := by omega
      have e0 : (0 : Int) ≤ (k : Int) := by omega
      have hpk : k < p ↔ F[k].seq < s := by
        have h := unhide HP
        subst h
        constructor
        · intro h
          exact posP_lt k h
        · intro h
          rcases Nat.lt_or_ge k (posP F s) with h' | h'
          · exact h'
          · have e : k = posP F s := by omega
            subst e
            exact absurd h (posP_stop hk)
      have hpe : k = p → ∀ hp : p < F.length, F[p] = F[k] := fun e _ => by subst e; rfl
      generalize hyk : F[k] = y at *
      obtain ⟨y1, y2, y3, y4⟩ := y
      dsimp only at hpk
      have ey : F[k].seq = y1 := by rw [hyk]
      have HY := hide hyk
      clear hyk
      go_upto_region 2 with fail
      have HS : Hid (∀ z : World, Pu q s b fn t z → (fun z => z.cell? ⟨g, o + k * 4, none⟩ = some (.int .i64 y1) ∧ z.cell? ⟨q.heap.size, 0, none⟩ = some (.int .i64 s)) z) := hide fun z h => by
        obtain ⟨g', o', cp', e, _, c0, _⟩ := (unhide HF z h.lo).2 k hk
        cases e
        rw [ey] at c0
        exact ⟨c0, (row4g h.bx).1⟩
      go_cut [20] (fun x wx => x = .bool (decide (y1 < s)) ∧ Pu q s b fn t wx)
      case first =>
        refine wp_region_held_drew (S := fun z => z.cell? ⟨g, o + k * 4, none⟩ = some (.int .i64 y1) ∧ z.cell? ⟨q.heap.size, 0, none⟩ = some (.int .i64 s)) (by kernel_rfl) (unhide HS _ ((unhide HU).step ((Below.refl _ _).drew))) (fun hHeld => ?_)
        have D0 := hide ((unhide HU).step ((Below.refl _ _).drew))
        skip
        generalize wr.drew = yy at D0 hHeld ⊢
        refine wpAnyH_take (i := 0) (v := ?vpa1_0) rfl (by kernel_rfl) (by kernel_rfl) (by kernel_rfl) (fun _ _ _ h => h) (Or.inl ⟨by rfl, ?hypa1_0⟩) (by assumption) ?_
        case hypa1_0 =>
          intro w hSw
          try dsimp only at hSw
          go_simp
          try with_reducible rfl
        try simp only [Act.put, List.setIfInBounds_toArray, List.set_cons_zero, List.set_cons_succ, List.getElem_toArray, List.getElem_cons_zero]
        refine wpAnyH_take (i := 1) (v := ?vpa2_1) rfl (by kernel_rfl) (by kernel_rfl) (by kernel_rfl) (fun _ _ _ h => h) (Or.inl ⟨by rfl, ?hypa2_1⟩) (by assumption) ?_
        case hypa2_1 =>
          intro w hSw
          try dsimp only at hSw
          go_simp
          try with_reducible rfl
        try simp only [Act.put, List.setIfInBounds_toArray, List.set_cons_zero, List.set_cons_succ, List.getElem_toArray, List.getElem_cons_zero, List.getElem_cons_succ]
        refine wpAnyH_take (i := 2) (v := ?vpa3_2) rfl (by kernel_rfl) (by kernel_rfl) (by kernel_rfl) (fun _ _ _ h => h) (Or.inl ⟨by rfl, ?hypa3_2⟩) (by assumption) ?_
        case hypa3_2 =>
          intro w hSw
          try dsimp only at hSw
          go_simp
          try with_reducible rfl
        try simp only [Act.put, List.setIfInBounds_toArray, List.set_cons_zero, List.set_cons_succ, List.getElem_toArray, List.getElem_cons_zero, List.getElem_cons_succ]
        refine wpAnyH_take (i := 3) (v := ?vpa4_3) rfl (by kernel_rfl) (by kernel_rfl) (by kernel_rfl) (fun _ _ _ h => h) (Or.inl ⟨by rfl, ?hypa4_3⟩) (by assumption) ?_
        case hypa4_3 =>
          intro w hSw
          try dsimp only at hSw
          go_simp
          try with_reducible rfl
        try simp only [Act.put, List.setIfInBounds_toArray, List.set_cons_zero, List.set_cons_succ, List.getElem_toArray, List.getElem_cons_zero, List.getElem_cons_succ]
        refine wpAnyH_take (i := 4) (v := ?vpa5_4) rfl (by kernel_rfl) (by kernel_rfl) (by kernel_rfl) (fun _ _ _ h => h) (Or.inl ⟨by rfl, ?hypa5_4⟩) (by assumption) ?_
        case hypa5_4 =>
          intro w hSw
          try dsimp only at hSw
          go_simp
          try with_reducible rfl
        try simp only [Act.put, List.setIfInBounds_toArray, List.set_cons_zero, List.set_cons_succ, List.getElem_toArray, List.getElem_cons_zero, List.getElem_cons_succ]
        refine wpAnyH_take (i := 5) (v := ?vpa6_5) rfl (by kernel_rfl) (by kernel_rfl) (by kernel_rfl) (fun _ _ _ h => h) (Or.inl ⟨by rfl, ?hypa6_5⟩) (by assumption) ?_
        case hypa6_5 =>
          intro w hSw
          try dsimp only at hSw
          go_simp
          try with_reducible rfl
        try simp only [Act.put, List.setIfInBounds_toArray, List.set_cons_zero, List.set_cons_succ, List.getElem_toArray, List.getElem_cons_zero, List.getElem_cons_succ]
        refine wpAnyH_take (i := 6) (v := ?vpa7_6) rfl (by kernel_rfl) (by kernel_rfl) (by kernel_rfl) (fun _ _ _ h => h) (Or.inl ⟨by rfl, ?hypa7_6⟩) (by assumption) ?_
        case hypa7_6 =>
          intro w hSw
          try dsimp only at hSw
          go_simp
          try with_reducible rfl
        try simp only [Act.put, List.setIfInBounds_toArray, List.set_cons_zero, List.set_cons_succ, List.getElem_toArray, List.getElem_cons_zero, List.getElem_cons_succ]
        refine wpAnyH_take (i := 7) (v := ?vpa8_7) rfl (by kernel_rfl) (by kernel_rfl) (by kernel_rfl) (fun _ _ _ h => h) (Or.inl ⟨by rfl, ?hypa8_7⟩) (by assumption) ?_
        case hypa8_7 =>
          intro w hSw
          try dsimp only at hSw
          go_simp
          try with_reducible rfl
        try simp only [Act.put, List.setIfInBounds_toArray, List.set_cons_zero, List.set_cons_succ, List.getElem_toArray, List.getElem_cons_zero, List.getElem_cons_succ]
        refine wpAnyH_take (i := 8) (v := ?vpa9_8) rfl (by kernel_rfl) (by kernel_rfl) (by kernel_rfl) (fun _ _ _ h => h) (Or.inl ⟨by rfl, ?hypa9_8⟩) (by assumption) ?_
        case hypa9_8 =>
          intro w hSw
          try dsimp only at hSw
          go_simp
          try with_reducible rfl
        try simp only [Act.put, List.setIfInBounds_toArray, List.set_cons_zero, List.set_cons_succ, List.getElem_toArray, List.getElem_cons_zero, List.getElem_cons_succ]
        refine wpAnyH_take (i := 9) (v := ?vpa10_9) rfl (by kernel_rfl) (by kernel_rfl) (by kernel_rfl) (fun _ _ _ h => h) (Or.inl ⟨by rfl, ?hypa10_9⟩) (by assumption) ?_
        case hypa10_9 =>
          intro w hSw
          try dsimp only at hSw
          go_simp
          try with_reducible rfl
        try simp only [Act.put, List.setIfInBounds_toArray, List.set_cons_zero, List.set_cons_succ, List.getElem_toArray, List.getElem_cons_zero, List.getElem_cons_succ]
        refine wpAnyH_take (i := 10) (v := ?vpa11_10) rfl (by kernel_rfl) (by kernel_rfl) (by kernel_rfl) (fun _ _ _ h => h) (Or.inl ⟨by rfl, ?hypa11_10⟩) (by assumption) ?_
        case hypa11_10 =>
          intro w hSw
          try dsimp only at hSw
          go_simp
          try with_reducible rfl
        try simp only [Act.put, List.setIfInBounds_toArray, List.set_cons_zero, List.set_cons_succ, List.getElem_toArray, List.getElem_cons_zero, List.getElem_cons_succ]
        refine wpAnyH_take (i := 11) (v := ?vpa12_11) rfl (by kernel_rfl) (by kernel_rfl) (by kernel_rfl) (fun _ _ _ h => h) (Or.inl ⟨by rfl, ?hypa12_11⟩) (by assumption) ?_
        case hypa12_11 =>
          intro w hSw
          try dsimp only at hSw
          go_simp
          try with_reducible rfl
        try simp only [Act.put, List.setIfInBounds_toArray, List.set_cons_zero, List.set_cons_succ, List.getElem_toArray, List.getElem_cons_zero, List.getElem_cons_succ]
        refine wpAnyH_take (i := 12) (v := ?vpa13_12) rfl (by kernel_rfl) (by kernel_rfl) (by kernel_rfl) (fun _ _ _ h => h) (Or.inl ⟨by rfl, ?hypa13_12⟩) (by assumption) ?_
        case hypa13_12 =>
          intro w hSw
          try dsimp only at hSw
          go_simp
          try with_reducible rfl
        try simp only [Act.put, List.setIfInBounds_toArray, List.set_cons_zero, List.set_cons_succ, List.getElem_toArray, List.getElem_cons_zero, List.getElem_cons_succ]
        refine wpAnyH_take (i := 13) (v := ?vpa14_13) rfl (by kernel_rfl) (by kernel_rfl) (by kernel_rfl) (fun _ _ _ h => h) (Or.inl ⟨by rfl, ?hypa14_13⟩) (by assumption) ?_
        case hypa14_13 =>
          intro w hSw
          try dsimp only at hSw
          go_simp
          try with_reducible rfl
        try simp only [Act.put, List.setIfInBounds_toArray, List.set_cons_zero, List.set_cons_succ, List.getElem_toArray, List.getElem_cons_zero, List.getElem_cons_succ]
        refine wpAnyH_done (by kernel_rfl) ?_ _
        go_wp2_with fail
        go_meet
        exact ⟨rfl, unhide D0⟩
      case rest =>
        obtain ⟨ex, hcut⟩ := hcut
        subst ex

        have HU2 := hide hcut
        clear hcut HU HS
        by_cases hys : y1 < s
        · have ds : decide (y1 < s) = true := decide_eq_true hys
          rw [ds]
          have hkp2 := hpk.2 hys
          clear ds hys hpk ey hpe
          go_wp2_with fail
          go_roundg (gk - 1)
          case measure => omega
          case rel => exact ⟨k + 1, by push_cast; rfl, by omega, by omega, unhide HU2⟩
        · have ds : decide (y1 < s) = false := decide_eq_false hys
          rw [ds]
          have ekp : k = p := by
            have : ¬ k < p := fun h => hys (hpk.1 h)
            omega
          subst ekp
          clear ds hpk hpe
          have hq1 : q.heap.size + 1 ≤ wc.heap.size := (Array.getElem?_eq_some_iff.1 (unhide HU2).bx).1
          obtain ⟨ys, hys1⟩ : ∃ ys : Value, ys = .slice (if cp = 0 then (some ⟨g, o, none⟩) else ((some ⟨g, o, none⟩) : Option Addr).map (·.add (0 * 4))) (k - 0) (cp - 0) := ⟨_, rfl⟩
          have hs1 : ∀ z : World, (Instr.slice 25 (.slice (some ⟨g, o, none⟩) F.length cp) none (some (.int .i64 (k : Nat))) none).run Try.prog z = .ok ys z := fun z => by rw [hys1]; exact slice_gh z _ _ _ k (by omega)
          have HYS : Hid (∀ z, Below q.heap.size q z → HoldsF z ys (F.take k)) := hide fun z hb => by
            have h := (unhide HF z hb).cut (lo := 0) (hi := k) (Nat.zero_le _) (by omega) hcp
            rw [List.drop_zero, Nat.sub_zero] at h
            rw [hys1, Nat.sub_zero]
            exact h
          have hbE := (Below.refl wc.heap.size wc).alloc (Nat.le_refl _) (.cells #[] 33)
          have hown0 : (wc.alloc (.cells #[] 33)).ownsRow (q.heap.size + 1) 33 4 (.slice (some ⟨wc.heap.size, 0, none⟩) 0 0) ([] : List Fg).length (fgcells []) := ⟨rfl, Or.inr ⟨wc.heap.size, 0, #[], rfl, hq1, heap_alloc_new wc _, Nat.le_refl _, Nat.zero_le _, rfl, rfl⟩⟩
          have H4 := hide (And.intro hown0 (And.intro ((unhide HU2).step hbE) hbE.size))
          clear hbE hown0 hys1 HU2
          go_wp2_with (first
            | (at_builtin; refine append_gs rfl _ _ rfl (q.heap.size + 1) _ ys [] (F.take k) rfl rfl (unhide H4).1 (unhide HYS _ (unhide H4).2.1.lo) (by simp) (by rw [List.length_take]; omega) (by have := (unhide H4).2.2; omega) ?_))
          rintro v4 w4 ho4 hg4
          have hp4 := (unhide H4).2.1.grown hg4 (fun g e => by cases e; exact hq1)
          obtain ⟨va4, vc4, ev4⟩ := own_form ho4
          subst ev4
          try rw [List.nil_append] at ho4
          have hn4 : ([] ++ F.take k).length = k := by rw [List.nil_append, List.length_take]; omega
          have hn4' : (F.take k).length = k := by rw [List.length_take]; omega
          try rw [hn4'] at ho4
          try rw [hn4]
          have hq4 : q.heap.size + 1 ≤ w4.heap.size := (Array.getElem?_eq_some_iff.1 hp4.bx).1
          obtain ⟨m0, m1, m2, m3⟩ := row4g hp4.bx
          have H5 := hide (And.intro ho4 hp4)
          clear hg4 H4 hs1 HYS hp4 ho4 hn4
          go_wp2_with (first
            | (at_builtin; refine append_fg rfl _ _ rfl (q.heap.size + 1) _ (F.take k) k hn4' rfl (unhide H5).1 s b fn t rfl (by omega) hq4 ?_))
          rintro v5 w5 ho5 hg5
          have hbE5 := (Below.refl w4.heap.size w4).alloc (Nat.le_refl _) (.cells #[.int .i64 s, .bool b, .bool fn, .string t] 33)
          have hp5 := ((unhide H5).2.step hbE5).grown hg5 (fun g e => ((unhide H5).1.lt g e).1)
          obtain ⟨va5, vc5, ev5⟩ := own_form ho5
          subst ev5
          have H6 := hide (And.intro ho5 hp5)
          have HU3 := hide hp5
          clear ho5 hg5 hbE5 hp5 H5 m0 m1 m2 m3
          go_upto_region 6 with fail
          have HS : Hid (∀ z : World, Pu q s b fn t z → (fun z => z.cell? ⟨g, o + k * 4, none⟩ = some (.int .i64 y1) ∧ z.cell? ⟨q.heap.size, 0, none⟩ = some (.int .i64 s)) z) := hide fun z h => by
            obtain ⟨g', o', cp', e, _, c0, _⟩ := (unhide HF z h.lo).2 k hk
            cases e
            rw [ey] at c0
            exact ⟨c0, (row4g h.bx).1⟩
          go_cut [45] (fun x wx => x = .bool (y1 == s) ∧ Pu q s b fn t wx ∧ wx.ownsRow (q.heap.size + 1) 33 4 (.slice va5 (k + 1) vc5) (k + 1) (fgcells (F.take k ++ [(⟨s, b, fn, t⟩ : Fg)])))
          case first =>
            refine wp_region_held_drew (S := fun z => z.cell? ⟨g, o + k * 4, none⟩ = some (.int .i64 y1) ∧ z.cell? ⟨q.heap.size, 0, none⟩ = some (.int .i64 s)) (by kernel_rfl) (unhide HS _ ((unhide HU3).step ((Below.refl _ _).drew))) (fun hHeld => ?_)
            have D0 := hide ((unhide HU3).step ((Below.refl _ _).drew))
            have D1 : Hid (w5.drew.ownsRow (q.heap.size + 1) 33 4 (.slice va5 (k + 1) vc5) (k + 1) (fgcells (F.take k ++ [(⟨s, b, fn, t⟩ : Fg)]))) := hide (unhide H6).1
            generalize w5.drew = yy at D0 D1 hHeld ⊢
            refine wpAnyH_take (i := 0) (v := ?vpc1_0) rfl (by kernel_rfl) (by kernel_rfl) (by kernel_rfl) (fun _ _ _ h => h) (Or.inl ⟨by rfl, ?hypc1_0⟩) (by assumption) ?_
            case hypc1_0 =>
              intro w hSw
              try dsimp only at hSw
              go_simp
              try with_reducible rfl
            try simp only [Act.put, List.setIfInBounds_toArray, List.set_cons_zero, List.set_cons_succ, List.getElem_toArray, List.getElem_cons_zero]
            refine wpAnyH_take (i := 1) (v := ?vpc2_1) rfl (by kernel_rfl) (by kernel_rfl) (by kernel_rfl) (fun _ _ _ h => h) (Or.inl ⟨by rfl, ?hypc2_1⟩) (by assumption) ?_
            case hypc2_1 =>
              intro w hSw
              try dsimp only at hSw
              go_simp
              try with_reducible rfl
            try simp only [Act.put, List.setIfInBounds_toArray, List.set_cons_zero, List.set_cons_succ, List.getElem_toArray, List.getElem_cons_zero, List.getElem_cons_succ]
            refine wpAnyH_take (i := 2) (v := ?vpc3_2) rfl (by kernel_rfl) (by kernel_rfl) (by kernel_rfl) (fun _ _ _ h => h) (Or.inl ⟨by rfl, ?hypc3_2⟩) (by assumption) ?_
            case hypc3_2 =>
              intro w hSw
              try dsimp only at hSw
              go_simp
              try with_reducible rfl
            try simp only [Act.put, List.setIfInBounds_toArray, List.set_cons_zero, List.set_cons_succ, List.getElem_toArray, List.getElem_cons_zero, List.getElem_cons_succ]
            refine wpAnyH_take (i := 3) (v := ?vpc4_3) rfl (by kernel_rfl) (by kernel_rfl) (by kernel_rfl) (fun _ _ _ h => h) (Or.inl ⟨by rfl, ?hypc4_3⟩) (by assumption) ?_
            case hypc4_3 =>
              intro w hSw
              try dsimp only at hSw
              go_simp
              try with_reducible rfl
            try simp only [Act.put, List.setIfInBounds_toArray, List.set_cons_zero, List.set_cons_succ, List.getElem_toArray, List.getElem_cons_zero, List.getElem_cons_succ]
            refine wpAnyH_take (i := 4) (v := ?vpc5_4) rfl (by kernel_rfl) (by kernel_rfl) (by kernel_rfl) (fun _ _ _ h => h) (Or.inl ⟨by rfl, ?hypc5_4⟩) (by assumption) ?_
            case hypc5_4 =>
              intro w hSw
              try dsimp only at hSw
              go_simp
              try with_reducible rfl
            try simp only [Act.put, List.setIfInBounds_toArray, List.set_cons_zero, List.set_cons_succ, List.getElem_toArray, List.getElem_cons_zero, List.getElem_cons_succ]
            refine wpAnyH_take (i := 5) (v := ?vpc6_5) rfl (by kernel_rfl) (by kernel_rfl) (by kernel_rfl) (fun _ _ _ h => h) (Or.inl ⟨by rfl, ?hypc6_5⟩) (by assumption) ?_
            case hypc6_5 =>
              intro w hSw
              try dsimp only at hSw
              go_simp
              try with_reducible rfl
            try simp only [Act.put, List.setIfInBounds_toArray, List.set_cons_zero, List.set_cons_succ, List.getElem_toArray, List.getElem_cons_zero, List.getElem_cons_succ]
            refine wpAnyH_take (i := 6) (v := ?vpc7_6) rfl (by kernel_rfl) (by kernel_rfl) (by kernel_rfl) (fun _ _ _ h => h) (Or.inl ⟨by rfl, ?hypc7_6⟩) (by assumption) ?_
            case hypc7_6 =>
              intro w hSw
              try dsimp only at hSw
              go_simp
              try with_reducible rfl
            try simp only [Act.put, List.setIfInBounds_toArray, List.set_cons_zero, List.set_cons_succ, List.getElem_toArray, List.getElem_cons_zero, List.getElem_cons_succ]
            refine wpAnyH_take (i := 7) (v := ?vpc8_7) rfl (by kernel_rfl) (by kernel_rfl) (by kernel_rfl) (fun _ _ _ h => h) (Or.inl ⟨by rfl, ?hypc8_7⟩) (by assumption) ?_
            case hypc8_7 =>
              intro w hSw
              try dsimp only at hSw
              go_simp
              try with_reducible rfl
            try simp only [Act.put, List.setIfInBounds_toArray, List.set_cons_zero, List.set_cons_succ, List.getElem_toArray, List.getElem_cons_zero, List.getElem_cons_succ]
            refine wpAnyH_take (i := 8) (v := ?vpc9_8) rfl (by kernel_rfl) (by kernel_rfl) (by kernel_rfl) (fun _ _ _ h => h) (Or.inl ⟨by rfl, ?hypc9_8⟩) (by assumption) ?_
            case hypc9_8 =>
              intro w hSw
              try dsimp only at hSw
              go_simp
              try with_reducible rfl
            try simp only [Act.put, List.setIfInBounds_toArray, List.set_cons_zero, List.set_cons_succ, List.getElem_toArray, List.getElem_cons_zero, List.getElem_cons_succ]
            refine wpAnyH_take (i := 9) (v := ?vpc10_9) rfl (by kernel_rfl) (by kernel_rfl) (by kernel_rfl) (fun _ _ _ h => h) (Or.inl ⟨by rfl, ?hypc10_9⟩) (by assumption) ?_
            case hypc10_9 =>
              intro w hSw
              try dsimp only at hSw
              go_simp
              try with_reducible rfl
            try simp only [Act.put, List.setIfInBounds_toArray, List.set_cons_zero, List.set_cons_succ, List.getElem_toArray, List.getElem_cons_zero, List.getElem_cons_succ]
            refine wpAnyH_take (i := 10) (v := ?vpc11_10) rfl (by kernel_rfl) (by kernel_rfl) (by kernel_rfl) (fun _ _ _ h => h) (Or.inl ⟨by rfl, ?hypc11_10⟩) (by assumption) ?_
            case hypc11_10 =>
              intro w hSw
              try dsimp only at hSw
              go_simp
              try with_reducible rfl
            try simp only [Act.put, List.setIfInBounds_toArray, List.set_cons_zero, List.set_cons_succ, List.getElem_toArray, List.getElem_cons_zero, List.getElem_cons_succ]
            refine wpAnyH_take (i := 11) (v := ?vpc12_11) rfl (by kernel_rfl) (by kernel_rfl) (by kernel_rfl) (fun _ _ _ h => h) (Or.inl ⟨by rfl, ?hypc12_11⟩) (by assumption) ?_
            case hypc12_11 =>
              intro w hSw
              try dsimp only at hSw
              go_simp
              try with_reducible rfl
            try simp only [Act.put, List.setIfInBounds_toArray, List.set_cons_zero, List.set_cons_succ, List.getElem_toArray, List.getElem_cons_zero, List.getElem_cons_succ]
            refine wpAnyH_take (i := 12) (v := ?vpc13_12) rfl (by kernel_rfl) (by kernel_rfl) (by kernel_rfl) (fun _ _ _ h => h) (Or.inl ⟨by rfl, ?hypc13_12⟩) (by assumption) ?_
            case hypc13_12 =>
              intro w hSw
              try dsimp only at hSw
              go_simp
              try with_reducible rfl
            try simp only [Act.put, List.setIfInBounds_toArray, List.set_cons_zero, List.set_cons_succ, List.getElem_toArray, List.getElem_cons_zero, List.getElem_cons_succ]
            refine wpAnyH_take (i := 13) (v := ?vpc14_13) rfl (by kernel_rfl) (by kernel_rfl) (by kernel_rfl) (fun _ _ _ h => h) (Or.inl ⟨by rfl, ?hypc14_13⟩) (by assumption) ?_
            case hypc14_13 =>
              intro w hSw
              try dsimp only at hSw
              go_simp
              try with_reducible rfl
            try simp only [Act.put, List.setIfInBounds_toArray, List.set_cons_zero, List.set_cons_succ, List.getElem_toArray, List.getElem_cons_zero, List.getElem_cons_succ]
            refine wpAnyH_done (by kernel_rfl) ?_ _
            go_wp2_with fail
            go_meet
            exact ⟨rfl, unhide D0, unhide D1⟩
          case rest =>
            obtain ⟨ex, hcut⟩ := hcut
            subst ex

            have H8 : Hid (Pu q s b fn t wc ∧ wc.ownsRow (q.heap.size + 1) 33 4 (.slice va5 (k + 1) vc5) (k + 1) (fgcells (F.take k ++ [(⟨s, b, fn, t⟩ : Fg)]))) := hide ⟨hcut.1, hcut.2⟩
            clear hcut HS H6 HU3
            have hdr : F.drop k = ⟨y1, y2, y3, y4⟩ :: F.drop (k + 1) := by rw [List.drop_eq_getElem_cons hk, unhide HY]
            by_cases hse : y1 = s
            · have hsb : (y1 == s) = true := by rw [hse]; exact beq_self_eq_true _
              rw [hsb]
              have EP : Hid (PF = F.take k ++ ⟨s, b, fn, t⟩ :: F.drop (k + 1)) := hide (by
                have h := unhide HSP
                rw [hdr] at h
                simp only [hse, if_true] at h
                exact h)
              clear hsb HSP hdr ey
              obtain ⟨ys, hys1⟩ : ∃ ys : Value, ys = .slice (if cp = (k + 1) then (some ⟨g, o, none⟩) else ((some ⟨g, o, none⟩) : Option Addr).map (·.add ((k + 1) * 4))) (F.length - (k + 1)) (cp - (k + 1)) := ⟨_, rfl⟩
              have hs1 : ∀ z : World, (Instr.slice 25 (.slice (some ⟨g, o, none⟩) F.length cp) (some (.int .i64 ((k : Int) + 1))) none none).run Try.prog z = .ok ys z := fun z => by rw [hys1]; have h := slice_gl z (some ⟨g, o, none⟩) F.length cp (k + 1) (by omega); rw [show ((k + 1 : Nat) : Int) = (k : Int) + 1 by omega] at h; exact h
              have hdl : (F.drop (k + 1)).take (F.length - (k + 1)) = F.drop (k + 1) := List.take_of_length_le (by rw [List.length_drop]; omega)
              have HYS : Hid (∀ z, Below q.heap.size q z → HoldsF z ys (F.drop (k + 1))) := hide fun z hb => by
                have h := (unhide HF z hb).cut (lo := (k + 1)) (hi := F.length) (by omega) (Nat.le_refl _) hcp
                rw [hdl] at h
                rw [hys1]
                exact h
              have hl7 : (F.take k ++ [(⟨s, b, fn, t⟩ : Fg)]).length = k + 1 := by rw [List.length_append, hn4']; rfl
              have H7 : Hid (wc.ownsRow (q.heap.size + 1) 33 4 (.slice va5 (k + 1) vc5) (F.take k ++ [(⟨s, b, fn, t⟩ : Fg)]).length (fgcells (F.take k ++ [(⟨s, b, fn, t⟩ : Fg)])) ∧ Pu q s b fn t wc ∧ q.heap.size + 1 ≤ wc.heap.size) := hide ⟨by rw [hl7]; exact (unhide H8).2, (unhide H8).1, (Array.getElem?_eq_some_iff.1 (unhide H8).1.bx).1⟩
              clear hys1 hdl H8
              go_wp2_with (first
                | (at_builtin; refine append_gs rfl _ _ rfl (q.heap.size + 1) _ ys (F.take k ++ [(⟨s, b, fn, t⟩ : Fg)]) (F.drop (k + 1)) rfl rfl (unhide H7).1 (unhide HYS _ (unhide H7).2.1.lo) (by omega) (by rw [List.length_drop]; omega) (unhide H7).2.2 ?_))
              rintro v9 w9 ho9 hg9
              have hp9 := (unhide H7).2.1.grown hg9 (fun g e => ((unhide H7).1.lt g e).1)
              have HR : Hid (w9.ownsRow q.heap.size 33 4 v9 PF.length (fgcells PF) ∧ Below q.heap.size q w9) := hide ⟨own_lowB (base := q.heap.size + 1) (by
                have hl9 : PF.length = k + (F.length - (k + 1) + 1) := by rw [unhide EP, List.length_append, List.length_cons, List.length_drop, hn4']
                rw [hl9, unhide EP]
                exact ho9) (Nat.le_succ _), hp9.lo⟩
              obtain ⟨va9, vc9, ev9⟩ := own_form ho9
              subst ev9
              clear ho9 hg9 hp9 H7 HYS hs1
              go_wp2
              go_ret
              exact ⟨_, rfl, (unhide HR).1, (unhide HR).2⟩
            · have hsb : (y1 == s) = false := beq_eq_false_iff_ne.2 hse
              rw [hsb]
              have EP : Hid (PF = F.take k ++ ⟨s, b, fn, t⟩ :: F.drop k) := hide (by
                have h := unhide HSP
                rw [hdr] at h
                simp only [hse, if_false] at h
                rw [h, hdr])
              clear hsb HSP hdr ey
              obtain ⟨ys, hys1⟩ : ∃ ys : Value, ys = .slice (if cp = k then (some ⟨g, o, none⟩) else ((some ⟨g, o, none⟩) : Option Addr).map (·.add (k * 4))) (F.length - k) (cp - k) := ⟨_, rfl⟩
              have hs1 : ∀ z : World, (Instr.slice 25 (.slice (some ⟨g, o, none⟩) F.length cp) (some (.int .i64 ((k : Int)))) none none).run Try.prog z = .ok ys z := fun z => by rw [hys1]; exact slice_gl z _ _ _ k (by omega)
              have hdl : (F.drop k).take (F.length - k) = F.drop k := List.take_of_length_le (by rw [List.length_drop]; omega)
              have HYS : Hid (∀ z, Below q.heap.size q z → HoldsF z ys (F.drop k)) := hide fun z hb => by
                have h := (unhide HF z hb).cut (lo := k) (hi := F.length) (by omega) (Nat.le_refl _) hcp
                rw [hdl] at h
                rw [hys1]
                exact h
              have hl7 : (F.take k ++ [(⟨s, b, fn, t⟩ : Fg)]).length = k + 1 := by rw [List.length_append, hn4']; rfl
              have H7 : Hid (wc.ownsRow (q.heap.size + 1) 33 4 (.slice va5 (k + 1) vc5) (F.take k ++ [(⟨s, b, fn, t⟩ : Fg)]).length (fgcells (F.take k ++ [(⟨s, b, fn, t⟩ : Fg)])) ∧ Pu q s b fn t wc ∧ q.heap.size + 1 ≤ wc.heap.size) := hide ⟨by rw [hl7]; exact (unhide H8).2, (unhide H8).1, (Array.getElem?_eq_some_iff.1 (unhide H8).1.bx).1⟩
              clear hys1 hdl H8
              go_wp2_with (first
                | (at_builtin; refine append_gs rfl _ _ rfl (q.heap.size + 1) _ ys (F.take k ++ [(⟨s, b, fn, t⟩ : Fg)]) (F.drop k) rfl rfl (unhide H7).1 (unhide HYS _ (unhide H7).2.1.lo) (by omega) (by rw [List.length_drop]; omega) (unhide H7).2.2 ?_))
              rintro v9 w9 ho9 hg9
              have hp9 := (unhide H7).2.1.grown hg9 (fun g e => ((unhide H7).1.lt g e).1)
              have HR : Hid (w9.ownsRow q.heap.size 33 4 v9 PF.length (fgcells PF) ∧ Below q.heap.size q w9) := hide ⟨own_lowB (base := q.heap.size + 1) (by
                have hl9 : PF.length = k + (F.length - k + 1) := by rw [unhide EP, List.length_append, List.length_cons, List.length_drop, hn4']
                rw [hl9, unhide EP]
                exact ho9) (Nat.le_succ _), hp9.lo⟩
              obtain ⟨va9, vc9, ev9⟩ := own_form ho9
              subst ev9
              clear ho9 hg9 hp9 H7 HYS hs1
              go_wp2
              go_ret
              exact ⟨_, rfl, (unhide HR).1, (unhide HR).2⟩
    · have ek : k = F.length := by omega
      have ekp : k = p := by omega
      subst ekp
      have e1 : ¬ ((k : Int) < (F.length : Int)) := by omega
      have EK := hide ek
      clear ek hkg
      go_upto_region 2 with fail
      go_cut [20] (fun x wx => x = .bool false ∧ Pu q s b fn t wx)
      case first =>
        refine wp_region_held_drew (S := fun _ => True) (by kernel_rfl) trivial (fun hHeld => ?_)
        have D0 := hide ((unhide HU).step ((Below.refl _ _).drew))
        skip
        generalize wr.drew = yy at D0 hHeld ⊢
        refine wpAnyH_take (i := 0) (v := ?vpb1_0) rfl (by kernel_rfl) (by kernel_rfl) (by kernel_rfl) (fun _ _ _ h => h) (Or.inl ⟨by rfl, ?hypb1_0⟩) (by assumption) ?_
        case hypb1_0 =>
          intro w hSw
          try dsimp only at hSw
          go_simp
          try with_reducible rfl
        try simp only [Act.put, List.setIfInBounds_toArray, List.set_cons_zero, List.set_cons_succ, List.getElem_toArray, List.getElem_cons_zero]
        refine wpAnyH_take (i := 1) (v := ?vpb2_1) rfl (by kernel_rfl) (by kernel_rfl) (by kernel_rfl) (fun _ _ _ h => h) (Or.inl ⟨by rfl, ?hypb2_1⟩) (by assumption) ?_
        case hypb2_1 =>
          intro w hSw
          try dsimp only at hSw
          go_simp
          try with_reducible rfl
        try simp only [Act.put, List.setIfInBounds_toArray, List.set_cons_zero, List.set_cons_succ, List.getElem_toArray, List.getElem_cons_zero, List.getElem_cons_succ]
        refine wpAnyH_take (i := 2) (v := ?vpb3_2) rfl (by kernel_rfl) (by kernel_rfl) (by kernel_rfl) (fun _ _ _ h => h) (Or.inl ⟨by rfl, ?hypb3_2⟩) (by assumption) ?_
        case hypb3_2 =>
          intro w hSw
          try dsimp only at hSw
          go_simp
          try with_reducible rfl
        try simp only [Act.put, List.setIfInBounds_toArray, List.set_cons_zero, List.set_cons_succ, List.getElem_toArray, List.getElem_cons_zero, List.getElem_cons_succ]
        refine wpAnyH_take (i := 3) (v := ?vpb4_3) rfl (by kernel_rfl) (by kernel_rfl) (by kernel_rfl) (fun _ _ _ h => h) (Or.inl ⟨by rfl, ?hypb4_3⟩) (by assumption) ?_
        case hypb4_3 =>
          intro w hSw
          try dsimp only at hSw
          go_simp
          try with_reducible rfl
        try simp only [Act.put, List.setIfInBounds_toArray, List.set_cons_zero, List.set_cons_succ, List.getElem_toArray, List.getElem_cons_zero, List.getElem_cons_succ]
        refine wpAnyH_take (i := 4) (v := ?vpb5_4) rfl (by kernel_rfl) (by kernel_rfl) (by kernel_rfl) (fun _ _ _ h => h) (Or.inl ⟨by rfl, ?hypb5_4⟩) (by assumption) ?_
        case hypb5_4 =>
          intro w hSw
          try dsimp only at hSw
          go_simp
          try with_reducible rfl
        try simp only [Act.put, List.setIfInBounds_toArray, List.set_cons_zero, List.set_cons_succ, List.getElem_toArray, List.getElem_cons_zero, List.getElem_cons_succ]
        refine wpAnyH_take (i := 5) (v := undef) rfl (by kernel_rfl) (by kernel_rfl) (by kernel_rfl) (fun _ _ _ h => h) (Or.inr ⟨by rfl, rfl⟩) (by assumption) ?_
        try simp only [Act.put, List.setIfInBounds_toArray, List.set_cons_zero, List.set_cons_succ, List.getElem_toArray, List.getElem_cons_zero, List.getElem_cons_succ]
        refine wpAnyH_take (i := 6) (v := undef) rfl (by kernel_rfl) (by kernel_rfl) (by kernel_rfl) (fun _ _ _ h => h) (Or.inr ⟨by rfl, rfl⟩) (by assumption) ?_
        try simp only [Act.put, List.setIfInBounds_toArray, List.set_cons_zero, List.set_cons_succ, List.getElem_toArray, List.getElem_cons_zero, List.getElem_cons_succ]
        refine wpAnyH_take (i := 7) (v := undef) rfl (by kernel_rfl) (by kernel_rfl) (by kernel_rfl) (fun _ _ _ h => h) (Or.inr ⟨by rfl, rfl⟩) (by assumption) ?_
        try simp only [Act.put, List.setIfInBounds_toArray, List.set_cons_zero, List.set_cons_succ, List.getElem_toArray, List.getElem_cons_zero, List.getElem_cons_succ]
        refine wpAnyH_take (i := 8) (v := undef) rfl (by kernel_rfl) (by kernel_rfl) (by kernel_rfl) (fun _ _ _ h => h) (Or.inr ⟨by rfl, rfl⟩) (by assumption) ?_
        try simp only [Act.put, List.setIfInBounds_toArray, List.set_cons_zero, List.set_cons_succ, List.getElem_toArray, List.getElem_cons_zero, List.getElem_cons_succ]
        refine wpAnyH_take (i := 9) (v := undef) rfl (by kernel_rfl) (by kernel_rfl) (by kernel_rfl) (fun _ _ _ h => h) (Or.inr ⟨by rfl, rfl⟩) (by assumption) ?_
        try simp only [Act.put, List.setIfInBounds_toArray, List.set_cons_zero, List.set_cons_succ, List.getElem_toArray, List.getElem_cons_zero, List.getElem_cons_succ]
        refine wpAnyH_take (i := 10) (v := undef) rfl (by kernel_rfl) (by kernel_rfl) (by kernel_rfl) (fun _ _ _ h => h) (Or.inr ⟨by rfl, rfl⟩) (by assumption) ?_
        try simp only [Act.put, List.setIfInBounds_toArray, List.set_cons_zero, List.set_cons_succ, List.getElem_toArray, List.getElem_cons_zero, List.getElem_cons_succ]
        refine wpAnyH_take (i := 11) (v := undef) rfl (by kernel_rfl) (by kernel_rfl) (by kernel_rfl) (fun _ _ _ h => h) (Or.inr ⟨by rfl, rfl⟩) (by assumption) ?_
        try simp only [Act.put, List.setIfInBounds_toArray, List.set_cons_zero, List.set_cons_succ, List.getElem_toArray, List.getElem_cons_zero, List.getElem_cons_succ]
        refine wpAnyH_take (i := 12) (v := undef) rfl (by kernel_rfl) (by kernel_rfl) (by kernel_rfl) (fun _ _ _ h => h) (Or.inr ⟨by rfl, rfl⟩) (by assumption) ?_
        try simp only [Act.put, List.setIfInBounds_toArray, List.set_cons_zero, List.set_cons_succ, List.getElem_toArray, List.getElem_cons_zero, List.getElem_cons_succ]
        refine wpAnyH_take (i := 13) (v := ?vpb14_13) rfl (by kernel_rfl) (by kernel_rfl) (by kernel_rfl) (fun _ _ _ h => h) (Or.inl ⟨by rfl, ?hypb14_13⟩) (by assumption) ?_
        case hypb14_13 =>
          intro w hSw
          try dsimp only at hSw
          go_simp
          try with_reducible rfl
        try simp only [Act.put, List.setIfInBounds_toArray, List.set_cons_zero, List.set_cons_succ, List.getElem_toArray, List.getElem_cons_zero, List.getElem_cons_succ]
        refine wpAnyH_done (by kernel_rfl) ?_ _
        go_wp2_with fail
        go_meet
        exact ⟨rfl, unhide D0⟩
      case rest =>
        obtain ⟨ex, hcut⟩ := hcut
        subst ex

        have HU2 := hide hcut
        clear hcut HU
        have hq1 : q.heap.size + 1 ≤ wc.heap.size := (Array.getElem?_eq_some_iff.1 (unhide HU2).bx).1
        obtain ⟨ys, hys1⟩ : ∃ ys : Value, ys = .slice (if cp = 0 then ad else (ad : Option Addr).map (·.add (0 * 4))) (k - 0) (cp - 0) := ⟨_, rfl⟩
        have hs1 : ∀ z : World, (Instr.slice 25 (.slice ad F.length cp) none (some (.int .i64 (k : Nat))) none).run Try.prog z = .ok ys z := fun z => by rw [hys1]; exact slice_gh z _ _ _ k (by omega)
        have HYS : Hid (∀ z, Below q.heap.size q z → HoldsF z ys (F.take k)) := hide fun z hb => by
          have h := (unhide HF z hb).cut (lo := 0) (hi := k) (Nat.zero_le _) (by omega) hcp
          rw [List.drop_zero, Nat.sub_zero] at h
          rw [hys1, Nat.sub_zero]
          exact h
        have hbE := (Below.refl wc.heap.size wc).alloc (Nat.le_refl _) (.cells #[] 33)
        have hown0 : (wc.alloc (.cells #[] 33)).ownsRow (q.heap.size + 1) 33 4 (.slice (some ⟨wc.heap.size, 0, none⟩) 0 0) ([] : List Fg).length (fgcells []) := ⟨rfl, Or.inr ⟨wc.heap.size, 0, #[], rfl, hq1, heap_alloc_new wc _, Nat.le_refl _, Nat.zero_le _, rfl, rfl⟩⟩
        have H4 := hide (And.intro hown0 (And.intro ((unhide HU2).step hbE) hbE.size))
        clear hbE hown0 hys1 HU2
        go_wp2_with (first
          | (at_builtin; refine append_gs rfl _ _ rfl (q.heap.size + 1) _ ys [] (F.take k) rfl rfl (unhide H4).1 (unhide HYS _ (unhide H4).2.1.lo) (by simp) (by rw [List.length_take]; omega) (by have := (unhide H4).2.2; omega) ?_))
        rintro v4 w4 ho4 hg4
        have hp4 := (unhide H4).2.1.grown hg4 (fun g e => by cases e; exact hq1)
        obtain ⟨va4, vc4, ev4⟩ := own_form ho4
        subst ev4
        try rw [List.nil_append] at ho4
        have hn4 : ([] ++ F.take k).length = k := by rw [List.nil_append, List.length_take]; omega
        have hn4' : (F.take k).length = k := by rw [List.length_take]; omega
        try rw [hn4'] at ho4
        try rw [hn4]
        have hq4 : q.heap.size + 1 ≤ w4.heap.size := (Array.getElem?_eq_some_iff.1 hp4.bx).1
        obtain ⟨m0, m1, m2, m3⟩ := row4g hp4.bx
        have H5 := hide (And.intro ho4 hp4)
        clear hg4 H4 hs1 HYS hp4 ho4 hn4
        go_wp2_with (first
          | (at_builtin; refine append_fg rfl _ _ rfl (q.heap.size + 1) _ (F.take k) k hn4' rfl (unhide H5).1 s b fn t rfl (by omega) hq4 ?_))
        rintro v5 w5 ho5 hg5
        have hbE5 := (Below.refl w4.heap.size w4).alloc (Nat.le_refl _) (.cells #[.int .i64 s, .bool b, .bool fn, .string t] 33)
        have hp5 := ((unhide H5).2.step hbE5).grown hg5 (fun g e => ((unhide H5).1.lt g e).1)
        obtain ⟨va5, vc5, ev5⟩ := own_form ho5
        subst ev5
        have H6 := hide (And.intro ho5 hp5)
        have HU3 := hide hp5
        clear ho5 hg5 hbE5 hp5 H5 m0 m1 m2 m3
        go_upto_region 6 with fail
        go_cut [45] (fun x wx => x = .bool false ∧ Pu q s b fn t wx ∧ wx.ownsRow (q.heap.size + 1) 33 4 (.slice va5 (k + 1) vc5) (k + 1) (fgcells (F.take k ++ [(⟨s, b, fn, t⟩ : Fg)])))
        case first =>
          refine wp_region_held_drew (S := fun _ => True) (by kernel_rfl) trivial (fun hHeld => ?_)
          have D0 := hide ((unhide HU3).step ((Below.refl _ _).drew))
          have D1 : Hid (w5.drew.ownsRow (q.heap.size + 1) 33 4 (.slice va5 (k + 1) vc5) (k + 1) (fgcells (F.take k ++ [(⟨s, b, fn, t⟩ : Fg)]))) := hide (unhide H6).1
          generalize w5.drew = yy at D0 D1 hHeld ⊢
          refine wpAnyH_take (i := 0) (v := ?vpd1_0) rfl (by kernel_rfl) (by kernel_rfl) (by kernel_rfl) (fun _ _ _ h => h) (Or.inl ⟨by rfl, ?hypd1_0⟩) (by assumption) ?_
          case hypd1_0 =>
            intro w hSw
            try dsimp only at hSw
            go_simp
            try with_reducible rfl
          try simp only [Act.put, List.setIfInBounds_toArray, List.set_cons_zero, List.set_cons_succ, List.getElem_toArray, List.getElem_cons_zero]
          refine wpAnyH_take (i := 1) (v := ?vpd2_1) rfl (by kernel_rfl) (by kernel_rfl) (by kernel_rfl) (fun _ _ _ h => h) (Or.inl ⟨by rfl, ?hypd2_1⟩) (by assumption) ?_
          case hypd2_1 =>
            intro w hSw
            try dsimp only at hSw
            go_simp
            try with_reducible rfl
          try simp only [Act.put, List.setIfInBounds_toArray, List.set_cons_zero, List.set_cons_succ, List.getElem_toArray, List.getElem_cons_zero, List.getElem_cons_succ]
          refine wpAnyH_take (i := 2) (v := ?vpd3_2) rfl (by kernel_rfl) (by kernel_rfl) (by kernel_rfl) (fun _ _ _ h => h) (Or.inl ⟨by rfl, ?hypd3_2⟩) (by assumption) ?_
          case hypd3_2 =>
            intro w hSw
            try dsimp only at hSw
            go_simp
            try with_reducible rfl
          try simp only [Act.put, List.setIfInBounds_toArray, List.set_cons_zero, List.set_cons_succ, List.getElem_toArray, List.getElem_cons_zero, List.getElem_cons_succ]
          refine wpAnyH_take (i := 3) (v := ?vpd4_3) rfl (by kernel_rfl) (by kernel_rfl) (by kernel_rfl) (fun _ _ _ h => h) (Or.inl ⟨by rfl, ?hypd4_3⟩) (by assumption) ?_
          case hypd4_3 =>
            intro w hSw
            try dsimp only at hSw
            go_simp
            try with_reducible rfl
          try simp only [Act.put, List.setIfInBounds_toArray, List.set_cons_zero, List.set_cons_succ, List.getElem_toArray, List.getElem_cons_zero, List.getElem_cons_succ]
          refine wpAnyH_take (i := 4) (v := ?vpd5_4) rfl (by kernel_rfl) (by kernel_rfl) (by kernel_rfl) (fun _ _ _ h => h) (Or.inl ⟨by rfl, ?hypd5_4⟩) (by assumption) ?_
          case hypd5_4 =>
            intro w hSw
            try dsimp only at hSw
            go_simp
            try with_reducible rfl
          try simp only [Act.put, List.setIfInBounds_toArray, List.set_cons_zero, List.set_cons_succ, List.getElem_toArray, List.getElem_cons_zero, List.getElem_cons_succ]
          refine wpAnyH_take (i := 5) (v := undef) rfl (by kernel_rfl) (by kernel_rfl) (by kernel_rfl) (fun _ _ _ h => h) (Or.inr ⟨by rfl, rfl⟩) (by assumption) ?_
          try simp only [Act.put, List.setIfInBounds_toArray, List.set_cons_zero, List.set_cons_succ, List.getElem_toArray, List.getElem_cons_zero, List.getElem_cons_succ]
          refine wpAnyH_take (i := 6) (v := undef) rfl (by kernel_rfl) (by kernel_rfl) (by kernel_rfl) (fun _ _ _ h => h) (Or.inr ⟨by rfl, rfl⟩) (by assumption) ?_
          try simp only [Act.put, List.setIfInBounds_toArray, List.set_cons_zero, List.set_cons_succ, List.getElem_toArray, List.getElem_cons_zero, List.getElem_cons_succ]
          refine wpAnyH_take (i := 7) (v := undef) rfl (by kernel_rfl) (by kernel_rfl) (by kernel_rfl) (fun _ _ _ h => h) (Or.inr ⟨by rfl, rfl⟩) (by assumption) ?_
          try simp only [Act.put, List.setIfInBounds_toArray, List.set_cons_zero, List.set_cons_succ, List.getElem_toArray, List.getElem_cons_zero, List.getElem_cons_succ]
          refine wpAnyH_take (i := 8) (v := undef) rfl (by kernel_rfl) (by kernel_rfl) (by kernel_rfl) (fun _ _ _ h => h) (Or.inr ⟨by rfl, rfl⟩) (by assumption) ?_
          try simp only [Act.put, List.setIfInBounds_toArray, List.set_cons_zero, List.set_cons_succ, List.getElem_toArray, List.getElem_cons_zero, List.getElem_cons_succ]
          refine wpAnyH_take (i := 9) (v := undef) rfl (by kernel_rfl) (by kernel_rfl) (by kernel_rfl) (fun _ _ _ h => h) (Or.inr ⟨by rfl, rfl⟩) (by assumption) ?_
          try simp only [Act.put, List.setIfInBounds_toArray, List.set_cons_zero, List.set_cons_succ, List.getElem_toArray, List.getElem_cons_zero, List.getElem_cons_succ]
          refine wpAnyH_take (i := 10) (v := undef) rfl (by kernel_rfl) (by kernel_rfl) (by kernel_rfl) (fun _ _ _ h => h) (Or.inr ⟨by rfl, rfl⟩) (by assumption) ?_
          try simp only [Act.put, List.setIfInBounds_toArray, List.set_cons_zero, List.set_cons_succ, List.getElem_toArray, List.getElem_cons_zero, List.getElem_cons_succ]
          refine wpAnyH_take (i := 11) (v := undef) rfl (by kernel_rfl) (by kernel_rfl) (by kernel_rfl) (fun _ _ _ h => h) (Or.inr ⟨by rfl, rfl⟩) (by assumption) ?_
          try simp only [Act.put, List.setIfInBounds_toArray, List.set_cons_zero, List.set_cons_succ, List.getElem_toArray, List.getElem_cons_zero, List.getElem_cons_succ]
          refine wpAnyH_take (i := 12) (v := undef) rfl (by kernel_rfl) (by kernel_rfl) (by kernel_rfl) (fun _ _ _ h => h) (Or.inr ⟨by rfl, rfl⟩) (by assumption) ?_
          try simp only [Act.put, List.setIfInBounds_toArray, List.set_cons_zero, List.set_cons_succ, List.getElem_toArray, List.getElem_cons_zero, List.getElem_cons_succ]
          refine wpAnyH_take (i := 13) (v := ?vpd14_13) rfl (by kernel_rfl) (by kernel_rfl) (by kernel_rfl) (fun _ _ _ h => h) (Or.inl ⟨by rfl, ?hypd14_13⟩) (by assumption) ?_
          case hypd14_13 =>
            intro w hSw
            try dsimp only at hSw
            go_simp
            try with_reducible rfl
          try simp only [Act.put, List.setIfInBounds_toArray, List.set_cons_zero, List.set_cons_succ, List.getElem_toArray, List.getElem_cons_zero, List.getElem_cons_succ]
          refine wpAnyH_done (by kernel_rfl) ?_ _
          go_wp2_with fail
          go_meet
          exact ⟨rfl, unhide D0, unhide D1⟩
        case rest =>
          obtain ⟨ex, hcut⟩ := hcut
          subst ex

          have H8 : Hid (Pu q s b fn t wc ∧ wc.ownsRow (q.heap.size + 1) 33 4 (.slice va5 (k + 1) vc5) (k + 1) (fgcells (F.take k ++ [(⟨s, b, fn, t⟩ : Fg)]))) := hide ⟨hcut.1, hcut.2⟩
          clear hcut H6 HU3
          have EP : Hid (PF = F.take k ++ ⟨s, b, fn, t⟩ :: F.drop k) := hide (by
            have h := unhide HSP
            have hd : F.drop k = [] := List.drop_eq_nil_of_le (by rw [unhide EK]; exact Nat.le_refl _)
            rw [hd] at h ⊢
            exact h)
          clear HSP
          obtain ⟨ys, hys1⟩ : ∃ ys : Value, ys = .slice (if cp = k then ad else (ad : Option Addr).map (·.add (k * 4))) (F.length - k) (cp - k) := ⟨_, rfl⟩
          have hs1 : ∀ z : World, (Instr.slice 25 (.slice ad F.length cp) (some (.int .i64 ((k : Int)))) none none).run Try.prog z = .ok ys z := fun z => by rw [hys1]; exact slice_gl z _ _ _ k (by omega)
          have hdl : (F.drop k).take (F.length - k) = F.drop k := List.take_of_length_le (by rw [List.length_drop]; omega)
          have HYS : Hid (∀ z, Below q.heap.size q z → HoldsF z ys (F.drop k)) := hide fun z hb => by
            have h := (unhide HF z hb).cut (lo := k) (hi := F.length) (by omega) (Nat.le_refl _) hcp
            rw [hdl] at h
            rw [hys1]
            exact h
          have hl7 : (F.take k ++ [(⟨s, b, fn, t⟩ : Fg)]).length = k + 1 := by rw [List.length_append, hn4']; rfl
          have H7 : Hid (wc.ownsRow (q.heap.size + 1) 33 4 (.slice va5 (k + 1) vc5) (F.take k ++ [(⟨s, b, fn, t⟩ : Fg)]).length (fgcells (F.take k ++ [(⟨s, b, fn, t⟩ : Fg)])) ∧ Pu q s b fn t wc ∧ q.heap.size + 1 ≤ wc.heap.size) := hide ⟨by rw [hl7]; exact (unhide H8).2, (unhide H8).1, (Array.getElem?_eq_some_iff.1 (unhide H8).1.bx).1⟩
          clear hys1 hdl H8
          go_wp2_with (first
            | (at_builtin; refine append_gs rfl _ _ rfl (q.heap.size + 1) _ ys (F.take k ++ [(⟨s, b, fn, t⟩ : Fg)]) (F.drop k) rfl rfl (unhide H7).1 (unhide HYS _ (unhide H7).2.1.lo) (by omega) (by rw [List.length_drop]; omega) (unhide H7).2.2 ?_))
          rintro v9 w9 ho9 hg9
          have hp9 := (unhide H7).2.1.grown hg9 (fun g e => ((unhide H7).1.lt g e).1)
          have HR : Hid (w9.ownsRow q.heap.size 33 4 v9 PF.length (fgcells PF) ∧ Below q.heap.size q w9) := hide ⟨own_lowB (base := q.heap.size + 1) (by
            have hl9 : PF.length = k + (F.length - k + 1) := by rw [unhide EP, List.length_append, List.length_cons, List.length_drop, hn4']
            rw [hl9, unhide EP]
            exact ho9) (Nat.le_succ _), hp9.lo⟩
          obtain ⟨va9, vc9, ev9⟩ := own_form ho9
          subst ev9
          clear ho9 hg9 hp9 H7 HYS hs1
          go_wp2
          go_ret
          exact ⟨_, rfl, (unhide HR).1, (unhide HR).2⟩
end Go.Proofs.Ytfkeokfmancgiaa
