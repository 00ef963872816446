/- The program's take: a run that is whole, its texts together; rows of numbers and of parts stand. -/
import Derived.Test.YtfkeokfmancgiaaBdO
import Derived.Test.YtfkeokfmancgiaaBld
import Derived.Test.YtfkeokfmancgiaaStrRow
namespace Go.Proofs.Ytfkeokfmancgiaa
open Go.RowKit
/-- Rows of numbers and of parts stand. -/
structure Kp (q q' : World) : Prop where
  size : q.heap.size ≤ q'.heap.size
  i : ∀ (g : Nat) (cs : Array Value), q.heap[g]? = some (.cells cs 2) → q'.heap[g]? = some (.cells cs 2)
  f : ∀ (g : Nat) (cs : Array Value), q.heap[g]? = some (.cells cs 33) → q'.heap[g]? = some (.cells cs 33)
theorem Kp.refl (q : World) : Kp q q := ⟨Nat.le_refl _, fun _ _ h => h, fun _ _ h => h⟩
theorem Kp.trans {q q' q'' : World} (h : Kp q q') (k : Kp q' q'') : Kp q q'' := ⟨Nat.le_trans h.size k.size, fun g cs e => k.i g cs (h.i g cs e), fun g cs e => k.f g cs (h.f g cs e)⟩
theorem Kp.below {q q' : World} (hb : Below q.heap.size q q') : Kp q q' := ⟨hb.size, fun g _ e => (hb.block g (Array.getElem?_eq_some_iff.1 e).1).trans e, fun g _ e => (hb.block g (Array.getElem?_eq_some_iff.1 e).1).trans e⟩
theorem Bw.nB {w q : World} {B M k : Nat} {lv gv : Value} {F : List Fg} {lost : Int} (h : Bw w B M k lv gv F lost q) {g : Nat} {cs : Array Value} {T : TypeId} (e : q.heap[g]? = some (.cells cs T)) (hT : 69 ≠ T) : g ≠ B := fun e0 => by
  subst e0
  rw [h.c] at e
  injection e with e
  injection e with _ e
  exact hT e
theorem Kp.tn {w q q' : World} {B M k : Nat} {lv gv : Value} {F : List Fg} {lost : Int} (hB : Bw w B M k lv gv F lost q) (h : Tn B M q q') : Kp q q' :=
  ⟨h.size, fun g _ e => (h.block g (Array.getElem?_eq_some_iff.1 e).1 (hB.nB e (by decide)) (hB.ne e)).trans e, fun g _ e => (h.block g (Array.getElem?_eq_some_iff.1 e).1 (hB.nB e (by decide)) (hB.ne e)).trans e⟩
theorem Kp.holds {q q' : World} {v : Value} {R : List Fg} (h : Kp q q') (hR : HoldsG q v R) : HoldsG q' v R :=
  hR.imp id fun ⟨g, cp, cur, e1, e2, e3⟩ => ⟨g, cp, cur, e1, h.f g cur e2, e3⟩
theorem Kp.own {q q' : World} {base n : Nat} {v : Value} {xs : List Value} (h : Kp q q') (ho : q.ownsRow base 2 1 v n xs) : q'.ownsRow base 2 1 v n xs :=
  ⟨ho.1, ho.2.imp id fun ⟨g, cap, cur, e1, e2, e3, e4⟩ => ⟨g, cap, cur, e1, e2, h.i g cur e3, e4⟩⟩
/-- A row of texts stands, where all blocks but two do. -/
theorem own_tn {w q q' : World} {B M k : Nat} {lv gv : Value} {F : List Fg} {lost : Int} (hB : Bw w B M k lv gv F lost q) (h : Tn B M q q') {base n : Nat} {v : Value} {xs : List Value} (ho : q.ownsRow base 9 1 v n xs) : q'.ownsRow base 9 1 v n xs :=
  ⟨ho.1, ho.2.imp id fun ⟨g, cap, cur, e1, e2, e3, e4⟩ => ⟨g, cap, cur, e1, e2, (h.block g (Array.getElem?_eq_some_iff.1 e3).1 (hB.nB e3 (by decide)) (hB.ne e3)).trans e3, e4⟩⟩
theorem Bw.stepB {w q q' : World} {B M k n : Nat} {lv gv : Value} {F : List Fg} {lost : Int} (h : Bw w B M k lv gv F lost q) (hb : Below n q q') (h1 : B < n) (h2 : M < n) : Bw w B M k lv gv F lost q' :=
  ⟨(hb.block _ h1).trans h.c, h.m.keep (hb.block _ h2), h.r, h.lB, h.lM, h.b.trans (hb.mono (by have := h.lB; omega))⟩
theorem Tn.low {B M b : Nat} {q q1 q2 : World} (h : Tn B M q q1) (hb : Below b q1 q2) (eb : b = q.heap.size) : Tn B M q q2 := by
  subst eb
  exact ⟨Nat.le_trans h.size hb.size, fun g hg n1 n2 => (hb.block g hg).trans (h.block g hg n1 n2)⟩
/-- A builder at a block, that holds these bytes. -/
abbrev Bl (b : Nat) (t : ByteArray) (q : World) : Prop := Lib.IsBuilderF 108 5 b b (Lib.byteCells t.data.toList) q
theorem Bl.grown {b M : Nat} {t : ByteArray} {q q' : World} (h : Bl b t q) (hg : q.grownBy q' (some M)) (hM : ∀ cs T fz, q.heap[M]? ≠ some (.cells cs T fz)) : Bl b t q' := by
  have key : ∀ p, Lib.BuilderAtF 108 5 b b p (Lib.byteCells t.data.toList) q → Lib.BuilderAtF 108 5 b b p (Lib.byteCells t.data.toList) q' := fun p ⟨hB, v, hb, hown, hne⟩ =>
    ⟨hB, v, (hg.block b (Array.getElem?_eq_some_iff.1 hb).1 (fun e => by cases e; exact hM _ _ _ hb)).trans hb, hown.kept hg (Or.inr fun e => by
      obtain ⟨c, fz, hc⟩ := Lib.ownsRowF_kind hown M e
      exact hM _ _ _ hc), hne⟩
  exact h.imp (key _) (key _)
theorem catP_snoc (l : List Fg) (f : Fg) : catP (l ++ [f]) = catP l ++ f.text := by
  induction l with
  | nil => show f.text ++ (⟨#[]⟩ : ByteArray) = (⟨#[]⟩ : ByteArray) ++ f.text; apply ByteArray.ext; simp
  | cons g l ih => show g.text ++ catP (l ++ [f]) = g.text ++ catP l ++ f.text; rw [ih]; apply ByteArray.ext; simp
theorem catP_size (l : List Fg) (h : ∀ g ∈ l, g.text.size ≤ 200) : (catP l).size ≤ 200 * l.length := by
  induction l with
  | nil => exact Nat.le_refl _
  | cons g l ih =>
    have := ih (fun x hx => h x (List.mem_cons_of_mem _ hx))
    have := h g List.mem_cons_self
    show (g.text ++ catP l).size ≤ _
    rw [ByteArray.size_append, List.length_cons]
    omega
theorem iWriteS (b : Nat) (t s : ByteArray) (q : World) (h : Bl b t q) (hs : t.size + s.size ≤ 1000000) (hb : b ≤ q.heap.size) :
    Calls Try.prog 73 #[.pointer (some ⟨b, 0, none⟩), .string s] q fun e q' => e = .returned (.tuple #[.int .i64 s.size, .nilIface]) ∧ Bl b (t ++ s) q' ∧ Below b q q' ∧ Lib.OthersKept 5 (some b) q q' := by
  refine (Any.Builder_WriteString_k Try.bld166 Try.bldX166 b b (Lib.byteCells t.data.toList) s q h (by rw [Lib.byteCells_length, Array.length_toList]; show t.size + _ ≤ _; omega) hb).mono ?_
  rintro e q' ⟨rfl, h1, h2, h3⟩
  refine ⟨rfl, ?_, h2, h3⟩
  have e : Lib.byteCells (t ++ s).data.toList = Lib.byteCells t.data.toList ++ Lib.strCells s := by rw [Lib.strCells_eq, ← Lib.byteCells_append]; congr 1
  unfold Bl
  rw [e]
  exact Or.inr h1
theorem iStringB (b : Nat) (t : ByteArray) (q : World) (h : Bl b t q) (hb : b ≤ q.heap.size) :
    Calls Try.prog 74 #[.pointer (some ⟨b, 0, none⟩)] q fun e q' => e = .returned (.string t) ∧ Below b q q' := by
  refine (Any.Builder_String_any_k Try.bld169 Try.bldX169 b b t.data.toList q h hb).mono ?_
  rintro e q' ⟨rfl, _, h2, _⟩
  exact ⟨rfl, h2⟩
theorem step_append_t {ops : Array Oper} {o : Oper} {a : Act} {K : Act → World → Prop} {Q : Exit → Act → World → Prop} {E : Prop} (w : World) (hgd : o.guard = none) (s x : Operand)
    (ho : o.op = .call { callee := .builtin .append, args := #[s, x], argTypes := #[31, 31] }) (base : Nat) (v : Value) (L : List ByteArray) (t : ByteArray) (A : Nat) (hs : a.eval s = v) (hx : a.eval x = .slice (some ⟨A, 0, none⟩) 1 1)
    (hown : w.ownsRow base 9 1 v L.length (scells L)) (hA : w.cell? ⟨A, 0, none⟩ = some (.string t)) (hL : L.length ≤ 1000) (hbase : base ≤ w.heap.size)
    (h : ∀ v' w', w'.ownsRow base 9 1 v' (L ++ [t]).length (scells (L ++ [t])) → w.grownBy w' v.ownBlock → K (a.put o.dst v') w') :
    if Region.wanted o (yielded ops a.tmps) = true then Oper.wp Try.prog o a w K Q else E := by
  have hw : Region.wanted o (yielded ops a.tmps) = true := by simp [Region.wanted, hgd]
  rw [if_pos hw]
  obtain ⟨i, hi, hz, hsz, hby⟩ := sinfo
  obtain ⟨v', w', hr, h2, h3, _⟩ := run_append_own (P := Try.prog) w base 31 o.type 9 i _ 1 16 Try.underlying31 hi hz hsz hby rfl (by decide) v L.length (scells L) hown ⟨A, 0, none⟩ 1 1 [.string t] rfl (fun j u hu => by
      cases j with
      | zero => simp at hu; rw [Addr.add_lit, ← hu]; exact hA
      | succ j => simp at hu) (fun u hu => by
      simp at hu
      rw [hu]
      rfl) (by unfold maxLen; omega) (by omega) hbase
  unfold Oper.wp execOp
  simp only [ho, resolve, invoke, builtin, Sem.run_bind, Sem.run_pure, Result.andThen_ok, List.map_toArray, List.map_cons, List.map_nil, hs, hx, hr]
  exact h v' w' (by rw [List.length_append, scells_append]; exact h2) h3
/-- A text put behind the others, and laid in the bundle's cell. -/
theorem Bw.putG {w q q' : World} {B M k : Nat} {lv gv gv' : Value} {F : List Fg} {lost : Int} {n n' : Nat} {xs xs' : List Value} (h : Bw w B M k lv gv F lost q) (ho : q.ownsRow w.heap.size 9 1 gv n xs) (hg : q.grownBy q' gv.ownBlock) (ho' : q'.ownsRow w.heap.size 9 1 gv' n' xs') :
    Bw w B M k lv gv' F lost (q'.setCell ⟨B, 2, none⟩ gv') ∧ (q'.setCell ⟨B, 2, none⟩ gv').ownsRow w.heap.size 9 1 gv' n' xs' ∧ Kp q (q'.setCell ⟨B, 2, none⟩ gv') := by
  have hk : ∀ g, gv.ownBlock = some g → ∃ cs, q.heap[g]? = some (.cells cs 9) := fun g e => by
    rcases ho.2 with ⟨e1, _⟩ | ⟨g', cap, cur, e1, _, e3, _⟩
    · rw [e1] at e; cases e
    · rw [e1] at e
      cases e
      exact ⟨cur, e3⟩
  have bB : q'.heap[B]? = q.heap[B]? := hg.block B (Array.getElem?_eq_some_iff.1 h.c).1 (fun e => by obtain ⟨cs, e1⟩ := hk B e.symm; exact h.nB e1 (by decide) rfl)
  have bM : q'.heap[M]? = q.heap[M]? := hg.block M h.m.lt (fun e => by obtain ⟨cs, e1⟩ := hk M e.symm; exact h.ne e1 rfl)
  have kq : ∀ (g : Nat) (cs : Array Value) (T : TypeId), q.heap[g]? = some (.cells cs T) → 9 ≠ T → 69 ≠ T → (q'.setCell ⟨B, 2, none⟩ gv').heap[g]? = some (.cells cs T) := fun g cs T e h1 h2 => by
    rw [heap_setCell_other _ _ _ _ (h.nB e h2), hg.block g (Array.getElem?_eq_some_iff.1 e).1 (fun e1 => by
      obtain ⟨cs', e2⟩ := hk g e1.symm
      rw [e] at e2
      injection e2 with e2
      injection e2 with _ e2
      exact h1 e2.symm)]
    exact e
  refine ⟨⟨heap_setCell_same _ _ 2 _ _ _ (bB.trans h.c), h.m.keep ((heap_setCell_other _ _ _ _ (fun e => h.ne h.c e.symm)).trans bM), h.r, h.lB, h.lM, (h.b.grown hg h.b.size (fun g e => (ho.lt g e).1)).setCell (p := ⟨B, 2, none⟩) h.lB _⟩, ?_, ⟨by rw [World.size_setCell]; exact hg.size, fun g cs e => kq g cs _ e (by decide) (by decide), fun g cs e => kq g cs _ e (by decide) (by decide)⟩⟩
  refine ⟨ho'.1, ho'.2.imp id fun ⟨g, cap, cur, e1, e2, e3, e4⟩ => ⟨g, cap, cur, e1, e2, ?_, e4⟩⟩
  rw [heap_setCell_other]
  · exact e3
  · intro e
    rw [e, bB, h.c] at e3
    injection e3 with e3
    injection e3 with _ e3
    exact absurd e3 (by decide)
/-- A block of cells is no map. -/
theorem Bw.mapNe {w q : World} {B M k : Nat} {lv gv : Value} {F : List Fg} {lost : Int} (h : Bw w B M k lv gv F lost q) {cs : Array Value} {T : TypeId} {fz : Nat × Nat} (e : q.heap[M]? = some (.cells cs T fz)) : False := by
  obtain ⟨es, clock, h1, _⟩ := h.m
  rw [h1] at e
  cases e
set_option linter.unusedSimpArgs false in
set_option maxHeartbeats 8000000 in
set_option maxRecDepth 100000 in
theorem iTakeB (w q : World) (B M k : Nat) (lv gv : Value) (F R : List Fg) (lost : Int) (G : List ByteArray) (ad : Option Addr) (cp : Nat) (hB : Bw w B M k lv gv F lost q) (hR : HoldsG q (.slice ad R.length cp) R) (hG : q.ownsRow w.heap.size 9 1 gv G.length (scells G)) (hok : ∀ g ∈ R, fgOk g = true) (hlen : R.length ≤ 1000) (hg0 : G.length ≤ 1000) :
    Calls Try.prog 64 #[.pointer (some ⟨B, 0, none⟩), .slice ad R.length cp] q fun e q' => e = .returned (.tuple #[]) ∧ ∃ gv', Bw w B M k lv gv' (dels R F) lost q' ∧ q'.ownsRow w.heap.size 9 1 gv' (G ++ [catP R]).length (scells (G ++ [catP R])) ∧ Kp q q' := by
  obtain ⟨ga, gc, rfl⟩ := own_form hG
  have hBb : B < q.heap.size := (Array.getElem?_eq_some_iff.1 hB.c).1
  have hMb : M < q.heap.size := hB.m.lt
  have HR := hide fun (z : World) (h : Tn B M q z) => (Kp.tn hB h).holds hR
  have HG := hide fun (z : World) (h : Tn B M q z) => own_tn hB h hG
  have HK := hide fun (z : World) (h : Tn B M q z) => Kp.tn hB h
  have hbA := (Below.refl q.heap.size q).alloc (Nat.le_refl _) (.cells #[.pointer none, .slice none 0 0] 108)
  have H0 := hide (And.intro (hB.step hbA) (And.intro (Tn.below (B := B) (M := M) hbA) (Lib.IsBuilderF.of (Lib.fresh_isBuilder 108 5 q))))
  clear hB hR hG hbA
  go_enter Try.func64, Try.ntmps64
  go_upto_region 2 with fail
  refine gen_world (fun z => Bw w B M k lv (.slice ga G.length gc) F lost z ∧ Tn B M q z ∧ Bl q.heap.size ⟨#[]⟩ z) ?_ ?_
  · obtain ⟨k1, k2, k3⟩ := unhide H0
    exact ⟨k1, k2, k3⟩
  clear H0
  intro q0 hq0
  have H0 := hide hq0
  clear hq0
  obtain ⟨b, eb⟩ : ∃ b, b = q.heap.size := ⟨_, rfl⟩
  rw [← eb] at hBb hMb H0 ⊢
  have EB := hide eb
  clear eb
  go_loopg [9] R.length (fun g y wr => ∃ i : Nat, y = .int .i64 (i : Nat) ∧ i + g = R.length ∧ Bw w B M k lv (.slice ga G.length gc) (dels (R.take i) F) lost wr ∧ Tn B M q wr ∧ Bl b (catP (R.take i)) wr)
  case atStart =>
    obtain ⟨k1, k2, k3⟩ := unhide H0
    refine ⟨0, rfl, Nat.zero_add _, ?_, k2, ?_⟩
    · rw [List.take_zero]; exact k1
    · rw [List.take_zero]; exact k3
  case round =>
    obtain ⟨i, rfl, hig, hb, htn, hbl⟩ := hrel
    by_cases hlt : i < R.length
    · have e1 : (i : Int) < (R.length : Int) := by omega
      obtain ⟨g, cp', ev, c0, c1, c2, c3⟩ := getG (unhide HR wr htn) i hlt
      cases ev
      have hfi := of_decide_eq_true (hok R[i] (List.getElem_mem hlt))
      have htk : R.take (i + 1) = R.take i ++ [R[i]] := by rw [List.take_succ_eq_append_getElem hlt]
      have hcs : (catP (R.take i)).size ≤ 200 * 1000 := by
        have h1 := catP_size (R.take i) (fun x hx => (of_decide_eq_true (hok x (List.mem_of_mem_take hx))).2)
        have h2 : (R.take i).length ≤ 1000 := by rw [List.length_take]; omega
        exact Nat.le_trans h1 (Nat.mul_le_mul_left _ h2)
      generalize R[i] = fr at c0 c1 c2 c3 hfi htk
      obtain ⟨s1, s2, s3, s4⟩ := fr
      dsimp only at c0 c1 c2 c3 hfi
      have hs1 := hfi.1
      have hs4 := hfi.2
      have hbA := (Below.refl wr.heap.size wr).alloc (Nat.le_refl _) (.cells #[.int .i64 s1, .bool s2, .bool s3, .string s4] 33)
      have hA := heap_alloc_new wr (.cells #[.int .i64 s1, .bool s2, .bool s3, .string s4] 33)
      have hbw : b < wr.heap.size := by
        rcases hbl with h | h
        · exact h.lt
        · exact h.lt
      have C := iWriteS b (catP (R.take i)) s4 (wr.alloc (.cells #[.int .i64 s1, .bool s2, .bool s3, .string s4] 33)) (hbl.alloc _) (by omega) (by have := hbA.size; omega)
      obtain ⟨n0, n1, n2, n3⟩ := row4g hA
      have H1 := hide (And.intro (hb.step hbA) (And.intro (htn.trans (Tn.below hbA)) hA))
      have hAb : wr.heap.size ≠ b := by omega
      clear hb htn hbl H0 hbA hA hfi
      go_wp2_with fail
      refine C.mono ?_
      rintro e w2 ⟨rfl, hbl2, hb2, hk2⟩
      have H6 : Hid (Bw w B M k lv (.slice ga G.length gc) (dels (R.take i) F) lost w2 ∧ Tn B M q w2 ∧ w2.heap[wr.heap.size]? = some (.cells #[.int .i64 s1, .bool s2, .bool s3, .string s4] 33) ∧ Bl b (catP (R.take i) ++ s4) w2) := hide ⟨(unhide H1).1.stepB hb2 hBb hMb, (unhide H1).2.1.low hb2 (unhide EB), hk2 _ _ (unhide H1).2.2 (fun e => hAb (Option.some.inj e)) (fun c fz e => by cases e), hbl2⟩
      generalize wr.heap.size = A at *
      clear hbl2 hb2 hk2 H1 c0 c1 c2 c3 n0 n1 n2 n3 C
      go_upto_region 5 with fail
      have HS : Hid (∀ z : World, z.heap[B]? = some (.cells #[lv, .map (some M), .slice ga G.length gc, .int .i64 lost] 69) → z.heap[A]? = some (.cells #[.int .i64 s1, .bool s2, .bool s3, .string s4] 33) → z.cell? ⟨B, 1, none⟩ = some (.map (some M)) ∧ z.cell? ⟨A, 0, none⟩ = some (.int .i64 s1)) := hide fun z h1 h2 => ⟨(row4g h1).2.1, (row4g h2).1⟩
      refine wp_region_held_drew (S := fun z => z.cell? ⟨B, 1, none⟩ = some (.map (some M)) ∧ z.cell? ⟨A, 0, none⟩ = some (.int .i64 s1)) (by kernel_rfl) (unhide HS _ (unhide H6).1.c (unhide H6).2.2.1) (fun hHeld => ?_)
      have D0 : Hid (Bw w B M k lv (.slice ga G.length gc) (dels (R.take i) F) lost w2.drew ∧ Tn B M q w2.drew ∧ w2.drew.heap[A]? = some (.cells #[.int .i64 s1, .bool s2, .bool s3, .string s4] 33) ∧ Bl b (catP (R.take i) ++ s4) w2.drew) := hide ⟨(unhide H6).1.step ((Below.refl _ _).drew), (unhide H6).2.1.trans (Tn.below ((Below.refl _ _).drew)), (unhide H6).2.2.1, (unhide H6).2.2.2⟩
      generalize w2.drew = yy at D0 hHeld ⊢
      refine wpAnyH_take (i := 0) (v := ?vtk1_0) rfl (by kernel_rfl) (by kernel_rfl) (by kernel_rfl) (fun _ _ _ h => h) (Or.inl ⟨by rfl, ?hytk1_0⟩) (by assumption) ?_
      case hytk1_0 =>
        intro w hSw
        try dsimp only at hSw
        go_simp
        try with_reducible rfl
      try simp only [Act.put, List.setIfInBounds_toArray, List.set_cons_zero, List.set_cons_succ, List.getElem_toArray, List.getElem_cons_zero]
      refine wpAnyH_take (i := 1) (v := ?vtk2_1) rfl (by kernel_rfl) (by kernel_rfl) (by kernel_rfl) (fun _ _ _ h => h) (Or.inl ⟨by rfl, ?hytk2_1⟩) (by assumption) ?_
      case hytk2_1 =>
        intro w hSw
        try dsimp only at hSw
        go_simp
        try with_reducible rfl
      try simp only [Act.put, List.setIfInBounds_toArray, List.set_cons_zero, List.set_cons_succ, List.getElem_toArray, List.getElem_cons_zero, List.getElem_cons_succ]
      refine wpAnyH_take (i := 2) (v := ?vtk3_2) rfl (by kernel_rfl) (by kernel_rfl) (by kernel_rfl) (fun _ _ _ h => h) (Or.inl ⟨by rfl, ?hytk3_2⟩) (by assumption) ?_
      case hytk3_2 =>
        intro w hSw
        try dsimp only at hSw
        go_simp
        try with_reducible rfl
      try simp only [Act.put, List.setIfInBounds_toArray, List.set_cons_zero, List.set_cons_succ, List.getElem_toArray, List.getElem_cons_zero, List.getElem_cons_succ]
      refine wpAnyH_take (i := 3) (v := ?vtk4_3) rfl (by kernel_rfl) (by kernel_rfl) (by kernel_rfl) (fun _ _ _ h => h) (Or.inl ⟨by rfl, ?hytk4_3⟩) (by assumption) ?_
      case hytk4_3 =>
        intro w hSw
        try dsimp only at hSw
        go_simp
        try with_reducible rfl
      try simp only [Act.put, List.setIfInBounds_toArray, List.set_cons_zero, List.set_cons_succ, List.getElem_toArray, List.getElem_cons_zero, List.getElem_cons_succ]
      refine wpAnyH_take (i := 4) (v := ?vtk5_4) rfl (by kernel_rfl) (by kernel_rfl) (by kernel_rfl) (fun _ _ _ h => h) (Or.inl ⟨by rfl, ?hytk5_4⟩) (by assumption) ?_
      case hytk5_4 =>
        intro w hSw
        try dsimp only at hSw
        go_simp
        try with_reducible rfl
      try simp only [Act.put, List.setIfInBounds_toArray, List.set_cons_zero, List.set_cons_succ, List.getElem_toArray, List.getElem_cons_zero, List.getElem_cons_succ]
      refine wpAnyH_take (i := 5) (v := ?vtk6_5) rfl (by kernel_rfl) (by kernel_rfl) (by kernel_rfl) (fun _ _ _ h => h) (Or.inl ⟨by rfl, ?hytk6_5⟩) (by assumption) ?_
      case hytk6_5 =>
        intro w hSw
        try dsimp only at hSw
        go_simp
        try with_reducible rfl
      try simp only [Act.put, List.setIfInBounds_toArray, List.set_cons_zero, List.set_cons_succ, List.getElem_toArray, List.getElem_cons_zero, List.getElem_cons_succ]
      refine wpAnyH_ready (rs := [6]) (by kernel_rfl) (by simp) ?_
      refine AllReadyH.cons rfl (fun K hK => ?_) (AllReadyH.nil)
      refine step_del yy (by rfl) (.tmp 19) (.tmp 21) (by rfl) M k (dels (R.take i) F) s1 (by rfl) (by rfl) (unhide D0).1.m hs1 ?_
      rintro z2 hm2 hg2
      have D2 := hide (And.intro ((unhide D0).1.turn hm2 (delP_ris _ (unhide D0).1.r) hg2) (And.intro ((unhide D0).2.1.trans (Tn.grown hg2)) (And.intro ((hg2.block _ (Array.getElem?_eq_some_iff.1 (unhide D0).2.2.1).1 (fun e0 => (unhide D0).1.ne (unhide D0).2.2.1 (Option.some.inj e0))).trans (unhide D0).2.2.1) ((unhide D0).2.2.2.grown hg2 (fun cs T fz e => (unhide D0).1.mapNe e)))))
      clear hm2 hg2
      refine hK.out _ _ (unhide HS _ (unhide D2).1.c (unhide D2).2.2.1) (fun _ => ?_)
      clear hK K
      try simp only [Act.put, List.setIfInBounds_toArray, List.set_cons_zero, List.set_cons_succ, List.getElem_toArray, List.getElem_cons_zero, List.getElem_cons_succ]
      refine wpAnyH_done (by kernel_rfl) ?_ _
      clear HS H6 D0
      go_wp2_with fail
      go_roundg (gk - 1)
      case measure => omega
      case rel => exact ⟨i + 1, by push_cast; rfl, by omega, by rw [htk, dels_snoc]; exact (unhide D2).1, (unhide D2).2.1, by rw [htk, catP_snoc]; exact (unhide D2).2.2.2⟩
    · have e1 : ¬ ((i : Int) < (R.length : Int)) := by omega
      have ei : i = R.length := by omega
      subst ei
      rw [List.take_length] at hb hbl
      have hbw : b ≤ wr.heap.size := by
        rcases hbl with h | h
        · exact Nat.le_of_lt h.lt
        · exact Nat.le_of_lt h.lt
      have D0 : Hid (Bw w B M k lv (.slice ga G.length gc) (dels R F) lost wr.drew ∧ Tn B M q wr.drew ∧ True) := hide ⟨hb.step ((Below.refl _ _).drew), htn.trans (Tn.below ((Below.refl _ _).drew)), trivial⟩
      have HB : Hid (Bl b (catP R) wr.drew ∧ b ≤ wr.drew.heap.size) := hide ⟨hbl, hbw⟩
      clear hb htn H0 hbl hbw
      go_upto_region 7 with fail
      refine wp_region_held_drew (S := fun _ => True) (by kernel_rfl) trivial (fun hHeld => ?_)
      generalize wr.drew = yy at D0 HB hHeld ⊢
      refine wpAnyH_take (i := 0) (v := ?vtz1_0) rfl (by kernel_rfl) (by kernel_rfl) (by kernel_rfl) (fun _ _ _ h => h) (Or.inl ⟨by rfl, ?hytz1_0⟩) (by assumption) ?_
      case hytz1_0 =>
        intro w hSw
        try dsimp only at hSw
        go_simp
        try with_reducible rfl
      try simp only [Act.put, List.setIfInBounds_toArray, List.set_cons_zero, List.set_cons_succ, List.getElem_toArray, List.getElem_cons_zero]
      refine wpAnyH_take (i := 1) (v := ?vtz2_1) rfl (by kernel_rfl) (by kernel_rfl) (by kernel_rfl) (fun _ _ _ h => h) (Or.inl ⟨by rfl, ?hytz2_1⟩) (by assumption) ?_
      case hytz2_1 =>
        intro w hSw
        try dsimp only at hSw
        go_simp
        try with_reducible rfl
      try simp only [Act.put, List.setIfInBounds_toArray, List.set_cons_zero, List.set_cons_succ, List.getElem_toArray, List.getElem_cons_zero, List.getElem_cons_succ]
      refine wpAnyH_take (i := 2) (v := ?vtz3_2) rfl (by kernel_rfl) (by kernel_rfl) (by kernel_rfl) (fun _ _ _ h => h) (Or.inl ⟨by rfl, ?hytz3_2⟩) (by assumption) ?_
      case hytz3_2 =>
        intro w hSw
        try dsimp only at hSw
        go_simp
        try with_reducible rfl
      try simp only [Act.put, List.setIfInBounds_toArray, List.set_cons_zero, List.set_cons_succ, List.getElem_toArray, List.getElem_cons_zero, List.getElem_cons_succ]
      refine wpAnyH_take (i := 3) (v := ?vtz4_3) rfl (by kernel_rfl) (by kernel_rfl) (by kernel_rfl) (fun _ _ _ h => h) (Or.inl ⟨by rfl, ?hytz4_3⟩) (by assumption) ?_
      case hytz4_3 =>
        intro w hSw
        try dsimp only at hSw
        go_simp
        try with_reducible rfl
      try simp only [Act.put, List.setIfInBounds_toArray, List.set_cons_zero, List.set_cons_succ, List.getElem_toArray, List.getElem_cons_zero, List.getElem_cons_succ]
      refine wpAnyH_ready (rs := [4, 5]) (by kernel_rfl) (by simp) ?_
      refine AllReadyH.cons rfl (fun K hK => ?_) (AllReadyH.cons rfl (fun K hK => ?_) (AllReadyH.nil))
      · have c2 := (row4g (unhide D0).1.c).2.2.1
        go_simp
        clear c2
        refine hK.out _ _ trivial (fun _ => ?_)
        clear hK K
        try simp only [Act.put, List.setIfInBounds_toArray, List.set_cons_zero, List.set_cons_succ, List.getElem_toArray, List.getElem_cons_zero, List.getElem_cons_succ]
        refine wpAnyH_ready (rs := [5]) (by kernel_rfl) (by simp) ?_
        refine AllReadyH.cons rfl (fun K hK => ?_) (AllReadyH.nil)
        go_simp
        refine (iStringB b (catP R) _ (unhide HB).1 (unhide HB).2).mono ?_
        rintro e z1 ⟨rfl, hb1⟩
        have E1 := hide (And.intro ((unhide D0).1.stepB hb1 hBb hMb) (And.intro ((unhide D0).2.1.low hb1 (unhide EB)) (Nat.le_trans (unhide HB).2 hb1.size)))
        clear hb1
        go_wp2_with fail
        refine hK.out _ _ trivial (fun _ => ?_)
        clear hK K
        try simp only [Act.put, List.setIfInBounds_toArray, List.set_cons_zero, List.set_cons_succ, List.getElem_toArray, List.getElem_cons_zero, List.getElem_cons_succ]
        refine wpAnyH_ready (rs := [6]) (by kernel_rfl) (by simp) ?_
        refine AllReadyH.cons rfl (fun K hK => ?_) (AllReadyH.nil)
        have hbA : Below z1.heap.size z1 (z1.alloc (.cells #[.string (catP R)] 9)) := (Below.refl _ _).alloc (Nat.le_refl _) _
        have hcA : (z1.alloc (.cells #[.string (catP R)] 9)).cell? ⟨z1.heap.size, 0, none⟩ = some (.string (catP R)) := by rw [cell_of_row _ _ _ _ _ _ (heap_alloc_new z1 _)]; rfl
        have E2 := hide (And.intro ((unhide E1).1.step hbA) (And.intro ((unhide E1).2.1.trans (Tn.below hbA)) hcA))
        clear hbA hcA
        go_simp
        refine hK.out _ _ trivial (fun _ => ?_)
        clear hK K
        try simp only [Act.put, List.setIfInBounds_toArray, List.set_cons_zero, List.set_cons_succ, List.getElem_toArray, List.getElem_cons_zero, List.getElem_cons_succ]
        refine wpAnyH_ready (rs := [7]) (by kernel_rfl) (by simp) ?_
        refine AllReadyH.cons rfl (fun K hK => ?_) (AllReadyH.nil)
        refine step_append_t (z1.alloc (.cells #[.string (catP R)] 9)) (by rfl) (.tmp 27) (.tmp 29) (by rfl) w.heap.size (.slice ga G.length gc) G (catP R) z1.heap.size (by rfl) (by rfl) (unhide HG _ (unhide E2).2.1) (unhide E2).2.2 hg0 (unhide E2).1.b.size ?_
        rintro v3 z3 ho3 hg3
        obtain ⟨ga3, gc3, ev3⟩ := own_form ho3
        subst ev3
        have kB : z3.heap[B]? = (z1.alloc (.cells #[.string (catP R)] 9)).heap[B]? := hg3.block B (Array.getElem?_eq_some_iff.1 (unhide E2).1.c).1 (fun e => by
          rcases (unhide HG _ (unhide E2).2.1).2 with ⟨e1, _⟩ | ⟨g', cap, cur, e1, _, e3, _⟩
          · rw [e1] at e; cases e
          · rw [e1] at e
            cases e
            exact (unhide E2).1.nB e3 (by decide) rfl)
        have E3 := hide (And.intro (kB.trans (unhide E2).1.c) ((unhide E2).1.putG (unhide HG _ (unhide E2).2.1) hg3 ho3))
        clear ho3 hg3 kB
        generalize hnl : (G ++ [catP R]).length = nl at *
        have HN := hide hnl
        clear hnl
        refine hK.out _ _ trivial (fun _ => ?_)
        clear hK K
        try simp only [Act.put, List.setIfInBounds_toArray, List.set_cons_zero, List.set_cons_succ, List.getElem_toArray, List.getElem_cons_zero, List.getElem_cons_succ]
        refine wpAnyH_take (i := 8) (v := ?vtz5_8) rfl (by kernel_rfl) (by kernel_rfl) (by kernel_rfl) (fun _ _ _ h => h) (Or.inl ⟨by rfl, ?hytz5_8⟩) (by assumption) ?_
        case hytz5_8 =>
          intro w hSw
          try dsimp only at hSw
          go_simp
          try with_reducible rfl
        try simp only [Act.put, List.setIfInBounds_toArray, List.set_cons_zero, List.set_cons_succ, List.getElem_toArray, List.getElem_cons_zero, List.getElem_cons_succ]
        refine wpAnyH_take (i := 9) (v := ?vtz6_9) rfl (by kernel_rfl) (by kernel_rfl) (by kernel_rfl) (fun _ _ _ h => h) (Or.inl ⟨by rfl, ?hytz6_9⟩) (by assumption) ?_
        case hytz6_9 =>
          intro w hSw
          try dsimp only at hSw
          go_simp
          try with_reducible rfl
        try simp only [Act.put, List.setIfInBounds_toArray, List.set_cons_zero, List.set_cons_succ, List.getElem_toArray, List.getElem_cons_zero, List.getElem_cons_succ]
        refine wpAnyH_ready (rs := [10]) (by kernel_rfl) (by simp) ?_
        refine AllReadyH.cons rfl (fun K hK => ?_) (AllReadyH.nil)
        have c2 := (row4g (unhide E3).1).2.2.1
        have f2 := frz (unhide E3).1 2
        go_simp
        clear c2 f2
        refine hK.out _ _ trivial (fun _ => ?_)
        clear hK K
        try simp only [Act.put, List.setIfInBounds_toArray, List.set_cons_zero, List.set_cons_succ, List.getElem_toArray, List.getElem_cons_zero, List.getElem_cons_succ]
        refine wpAnyH_done (by kernel_rfl) ?_ _
        show bodyPost _ _ _ _ _ _
        refine bodyPost_end (results_none rfl _ _ _) rfl ?_
        have hN := unhide HN
        subst hN
        exact ⟨rfl, _, (unhide E3).2.1, (unhide E3).2.2.1, (unhide HK _ (unhide E2).2.1).trans (unhide E3).2.2.2⟩
      · go_simp
        refine (iStringB b (catP R) _ (unhide HB).1 (unhide HB).2).mono ?_
        rintro e z1 ⟨rfl, hb1⟩
        have E1 := hide (And.intro ((unhide D0).1.stepB hb1 hBb hMb) (And.intro ((unhide D0).2.1.low hb1 (unhide EB)) (Nat.le_trans (unhide HB).2 hb1.size)))
        clear hb1
        go_wp2_with fail
        refine hK.out _ _ trivial (fun _ => ?_)
        clear hK K
        try simp only [Act.put, List.setIfInBounds_toArray, List.set_cons_zero, List.set_cons_succ, List.getElem_toArray, List.getElem_cons_zero, List.getElem_cons_succ]
        refine wpAnyH_ready (rs := [4, 6]) (by kernel_rfl) (by simp) ?_
        refine AllReadyH.cons rfl (fun K hK => ?_) (AllReadyH.cons rfl (fun K hK => ?_) (AllReadyH.nil))
        · have c2 := (row4g (unhide E1).1.c).2.2.1
          go_simp
          clear c2
          refine hK.out _ _ trivial (fun _ => ?_)
          clear hK K
          try simp only [Act.put, List.setIfInBounds_toArray, List.set_cons_zero, List.set_cons_succ, List.getElem_toArray, List.getElem_cons_zero, List.getElem_cons_succ]
          refine wpAnyH_ready (rs := [6]) (by kernel_rfl) (by simp) ?_
          refine AllReadyH.cons rfl (fun K hK => ?_) (AllReadyH.nil)
          have hbA : Below z1.heap.size z1 (z1.alloc (.cells #[.string (catP R)] 9)) := (Below.refl _ _).alloc (Nat.le_refl _) _
          have hcA : (z1.alloc (.cells #[.string (catP R)] 9)).cell? ⟨z1.heap.size, 0, none⟩ = some (.string (catP R)) := by rw [cell_of_row _ _ _ _ _ _ (heap_alloc_new z1 _)]; rfl
          have E2 := hide (And.intro ((unhide E1).1.step hbA) (And.intro ((unhide E1).2.1.trans (Tn.below hbA)) hcA))
          clear hbA hcA
          go_simp
          refine hK.out _ _ trivial (fun _ => ?_)
          clear hK K
          try simp only [Act.put, List.setIfInBounds_toArray, List.set_cons_zero, List.set_cons_succ, List.getElem_toArray, List.getElem_cons_zero, List.getElem_cons_succ]
          refine wpAnyH_ready (rs := [7]) (by kernel_rfl) (by simp) ?_
          refine AllReadyH.cons rfl (fun K hK => ?_) (AllReadyH.nil)
          refine step_append_t (z1.alloc (.cells #[.string (catP R)] 9)) (by rfl) (.tmp 27) (.tmp 29) (by rfl) w.heap.size (.slice ga G.length gc) G (catP R) z1.heap.size (by rfl) (by rfl) (unhide HG _ (unhide E2).2.1) (unhide E2).2.2 hg0 (unhide E2).1.b.size ?_
          rintro v3 z3 ho3 hg3
          obtain ⟨ga3, gc3, ev3⟩ := own_form ho3
          subst ev3
          have kB : z3.heap[B]? = (z1.alloc (.cells #[.string (catP R)] 9)).heap[B]? := hg3.block B (Array.getElem?_eq_some_iff.1 (unhide E2).1.c).1 (fun e => by
            rcases (unhide HG _ (unhide E2).2.1).2 with ⟨e1, _⟩ | ⟨g', cap, cur, e1, _, e3, _⟩
            · rw [e1] at e; cases e
            · rw [e1] at e
              cases e
              exact (unhide E2).1.nB e3 (by decide) rfl)
          have E3 := hide (And.intro (kB.trans (unhide E2).1.c) ((unhide E2).1.putG (unhide HG _ (unhide E2).2.1) hg3 ho3))
          clear ho3 hg3 kB
          generalize hnl : (G ++ [catP R]).length = nl at *
          have HN := hide hnl
          clear hnl
          refine hK.out _ _ trivial (fun _ => ?_)
          clear hK K
          try simp only [Act.put, List.setIfInBounds_toArray, List.set_cons_zero, List.set_cons_succ, List.getElem_toArray, List.getElem_cons_zero, List.getElem_cons_succ]
          refine wpAnyH_take (i := 8) (v := ?vtz7_8) rfl (by kernel_rfl) (by kernel_rfl) (by kernel_rfl) (fun _ _ _ h => h) (Or.inl ⟨by rfl, ?hytz7_8⟩) (by assumption) ?_
          case hytz7_8 =>
            intro w hSw
            try dsimp only at hSw
            go_simp
            try with_reducible rfl
          try simp only [Act.put, List.setIfInBounds_toArray, List.set_cons_zero, List.set_cons_succ, List.getElem_toArray, List.getElem_cons_zero, List.getElem_cons_succ]
          refine wpAnyH_take (i := 9) (v := ?vtz8_9) rfl (by kernel_rfl) (by kernel_rfl) (by kernel_rfl) (fun _ _ _ h => h) (Or.inl ⟨by rfl, ?hytz8_9⟩) (by assumption) ?_
          case hytz8_9 =>
            intro w hSw
            try dsimp only at hSw
            go_simp
            try with_reducible rfl
          try simp only [Act.put, List.setIfInBounds_toArray, List.set_cons_zero, List.set_cons_succ, List.getElem_toArray, List.getElem_cons_zero, List.getElem_cons_succ]
          refine wpAnyH_ready (rs := [10]) (by kernel_rfl) (by simp) ?_
          refine AllReadyH.cons rfl (fun K hK => ?_) (AllReadyH.nil)
          have c2 := (row4g (unhide E3).1).2.2.1
          have f2 := frz (unhide E3).1 2
          go_simp
          clear c2 f2
          refine hK.out _ _ trivial (fun _ => ?_)
          clear hK K
          try simp only [Act.put, List.setIfInBounds_toArray, List.set_cons_zero, List.set_cons_succ, List.getElem_toArray, List.getElem_cons_zero, List.getElem_cons_succ]
          refine wpAnyH_done (by kernel_rfl) ?_ _
          show bodyPost _ _ _ _ _ _
          refine bodyPost_end (results_none rfl _ _ _) rfl ?_
          have hN := unhide HN
          subst hN
          exact ⟨rfl, _, (unhide E3).2.1, (unhide E3).2.2.1, (unhide HK _ (unhide E2).2.1).trans (unhide E3).2.2.2⟩
        · have hbA : Below z1.heap.size z1 (z1.alloc (.cells #[.string (catP R)] 9)) := (Below.refl _ _).alloc (Nat.le_refl _) _
          have hcA : (z1.alloc (.cells #[.string (catP R)] 9)).cell? ⟨z1.heap.size, 0, none⟩ = some (.string (catP R)) := by rw [cell_of_row _ _ _ _ _ _ (heap_alloc_new z1 _)]; rfl
          have E2 := hide (And.intro ((unhide E1).1.step hbA) (And.intro ((unhide E1).2.1.trans (Tn.below hbA)) hcA))
          clear hbA hcA
          go_simp
          refine hK.out _ _ trivial (fun _ => ?_)
          clear hK K
          try simp only [Act.put, List.setIfInBounds_toArray, List.set_cons_zero, List.set_cons_succ, List.getElem_toArray, List.getElem_cons_zero, List.getElem_cons_succ]
          refine wpAnyH_ready (rs := [4]) (by kernel_rfl) (by simp) ?_
          refine AllReadyH.cons rfl (fun K hK => ?_) (AllReadyH.nil)
          have c2 := (row4g (unhide E2).1.c).2.2.1
          go_simp
          clear c2
          refine hK.out _ _ trivial (fun _ => ?_)
          clear hK K
          try simp only [Act.put, List.setIfInBounds_toArray, List.set_cons_zero, List.set_cons_succ, List.getElem_toArray, List.getElem_cons_zero, List.getElem_cons_succ]
          refine wpAnyH_ready (rs := [7]) (by kernel_rfl) (by simp) ?_
          refine AllReadyH.cons rfl (fun K hK => ?_) (AllReadyH.nil)
          refine step_append_t (z1.alloc (.cells #[.string (catP R)] 9)) (by rfl) (.tmp 27) (.tmp 29) (by rfl) w.heap.size (.slice ga G.length gc) G (catP R) z1.heap.size (by rfl) (by rfl) (unhide HG _ (unhide E2).2.1) (unhide E2).2.2 hg0 (unhide E2).1.b.size ?_
          rintro v3 z3 ho3 hg3
          obtain ⟨ga3, gc3, ev3⟩ := own_form ho3
          subst ev3
          have kB : z3.heap[B]? = (z1.alloc (.cells #[.string (catP R)] 9)).heap[B]? := hg3.block B (Array.getElem?_eq_some_iff.1 (unhide E2).1.c).1 (fun e => by
            rcases (unhide HG _ (unhide E2).2.1).2 with ⟨e1, _⟩ | ⟨g', cap, cur, e1, _, e3, _⟩
            · rw [e1] at e; cases e
            · rw [e1] at e
              cases e
              exact (unhide E2).1.nB e3 (by decide) rfl)
          have E3 := hide (And.intro (kB.trans (unhide E2).1.c) ((unhide E2).1.putG (unhide HG _ (unhide E2).2.1) hg3 ho3))
          clear ho3 hg3 kB
          generalize hnl : (G ++ [catP R]).length = nl at *
          have HN := hide hnl
          clear hnl
          refine hK.out _ _ trivial (fun _ => ?_)
          clear hK K
          try simp only [Act.put, List.setIfInBounds_toArray, List.set_cons_zero, List.set_cons_succ, List.getElem_toArray, List.getElem_cons_zero, List.getElem_cons_succ]
          refine wpAnyH_take (i := 8) (v := ?vtz9_8) rfl (by kernel_rfl) (by kernel_rfl) (by kernel_rfl) (fun _ _ _ h => h) (Or.inl ⟨by rfl, ?hytz9_8⟩) (by assumption) ?_
          case hytz9_8 =>
            intro w hSw
            try dsimp only at hSw
            go_simp
            try with_reducible rfl
          try simp only [Act.put, List.setIfInBounds_toArray, List.set_cons_zero, List.set_cons_succ, List.getElem_toArray, List.getElem_cons_zero, List.getElem_cons_succ]
          refine wpAnyH_take (i := 9) (v := ?vtz10_9) rfl (by kernel_rfl) (by kernel_rfl) (by kernel_rfl) (fun _ _ _ h => h) (Or.inl ⟨by rfl, ?hytz10_9⟩) (by assumption) ?_
          case hytz10_9 =>
            intro w hSw
            try dsimp only at hSw
            go_simp
            try with_reducible rfl
          try simp only [Act.put, List.setIfInBounds_toArray, List.set_cons_zero, List.set_cons_succ, List.getElem_toArray, List.getElem_cons_zero, List.getElem_cons_succ]
          refine wpAnyH_ready (rs := [10]) (by kernel_rfl) (by simp) ?_
          refine AllReadyH.cons rfl (fun K hK => ?_) (AllReadyH.nil)
          have c2 := (row4g (unhide E3).1).2.2.1
          have f2 := frz (unhide E3).1 2
          go_simp
          clear c2 f2
          refine hK.out _ _ trivial (fun _ => ?_)
          clear hK K
          try simp only [Act.put, List.setIfInBounds_toArray, List.set_cons_zero, List.set_cons_succ, List.getElem_toArray, List.getElem_cons_zero, List.getElem_cons_succ]
          refine wpAnyH_done (by kernel_rfl) ?_ _
          show bodyPost _ _ _ _ _ _
          refine bodyPost_end (results_none rfl _ _ _) rfl ?_
          have hN := unhide HN
          subst hN
          exact ⟨rfl, _, (unhide E3).2.1, (unhide E3).2.2.1, (unhide HK _ (unhide E2).2.1).trans (unhide E3).2.2.2⟩
end Go.Proofs.Ytfkeokfmancgiaa
