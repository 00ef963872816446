/- The program's runFrom: the run that begins at a part; memory that was there stands. -/
import Derived.Test.YtfkeokfmancgiaaBdL
import Derived.Deep.DeepCutAuto
import Derived.Deep.LoopGhost
namespace Go.Proofs.Ytfkeokfmancgiaa
open Go.RowKit
theorem find_self {P l : List Fg} {a : Fg} (h : Ris (P ++ a :: l)) : findP (P ++ a :: l) a.seq = a := by
  unfold Ris at h
  rw [List.pairwise_append] at h
  obtain ⟨_, _, h3⟩ := h
  unfold findP
  rw [List.find?_append]
  have e1 : P.find? (fun g => decide (g.seq = a.seq)) = none := by
    rw [List.find?_eq_none]
    intro x hx
    have := h3 x hx a List.mem_cons_self
    simp
    omega
  rw [e1, List.find?_cons_of_pos (by simp)]
  rfl
theorem hasP_find (F : List Fg) (n : Int) : hasP F n = (F.find? (fun g => decide (g.seq = n))).isSome := by
  unfold hasP
  rw [Bool.eq_iff_iff, List.find?_isSome]
  simp
/-- What is looked up behind a part. -/
theorem look_next {P l : List Fg} {z : Fg} (h : Ris (P ++ z :: l)) :
    (hasP (P ++ z :: l) (z.seq + 1) = true ∧ ∃ l', l = findP (P ++ z :: l) (z.seq + 1) :: l' ∧ (findP (P ++ z :: l) (z.seq + 1)).seq = z.seq + 1) ∨ (hasP (P ++ z :: l) (z.seq + 1) = false ∧ ∀ b l', l = b :: l' → b.seq ≠ z.seq + 1) := by
  rw [hasP_find]
  unfold findP
  rw [find_next h]
  cases l with
  | nil => exact Or.inr ⟨rfl, fun b l' e => by cases e⟩
  | cons b l =>
    by_cases e : b.seq = z.seq + 1
    · left
      simp [e]
    · right
      simp [e]
theorem last_split (a : Fg) (r : List Fg) : ∃ P, a :: r = P ++ [lastP a r] := by
  induction r generalizing a with
  | nil => exact ⟨[], rfl⟩
  | cons b r ih =>
    obtain ⟨P, hP⟩ := ih b
    exact ⟨a :: P, by show a :: b :: r = a :: P ++ [lastP b r]; rw [List.cons_append, ← hP]⟩
theorem last_get (a : Fg) (r : List Fg) : (a :: r)[r.length]? = some (lastP a r) := by
  induction r generalizing a with
  | nil => rfl
  | cons b r ih => exact ih b
/-- The run so far, and what is left. -/
structure Rn (w q : World) (B M k : Nat) (lv gv : Value) (P l : List Fg) (a : Fg) (lost : Int) (r1 l1 : List Fg) (x : Value) (wr : World) : Prop where
  o : wr.ownsRow q.heap.size 33 4 x (r1.length + 1) (fgcells (a :: r1))
  e : l = r1 ++ l1
  d : (runP a l).1 = r1 ++ (runP (lastP a r1) l1).1
  h : Bw w B M k lv gv (P ++ a :: l) lost wr
  b : Below q.heap.size q wr
theorem Rn.step {w q wr wr' : World} {B M k : Nat} {lv gv : Value} {P l : List Fg} {a : Fg} {lost : Int} {r1 l1 : List Fg} {x : Value} (h : Rn w q B M k lv gv P l a lost r1 l1 x wr) (hb : Below wr.heap.size wr wr') : Rn w q B M k lv gv P l a lost r1 l1 x wr' :=
  ⟨⟨h.o.1, h.o.2.imp id fun ⟨g, cap, cur, e1, e2, e3, e4⟩ => ⟨g, cap, cur, e1, e2, (hb.block g (Array.getElem?_eq_some_iff.1 e3).1).trans e3, e4⟩⟩, h.e, h.d, h.h.step hb, h.b.trans (hb.mono h.b.size)⟩
theorem wrapT (n : Int) (h0 : 0 ≤ n) (h : n < 4611686018427387904) : IntKind.i64.wrap n = n := by
  have e1 : (2 : Int) ^ IntKind.i64.bits = 18446744073709551616 := by decide
  have e2 : (2 : Int) ^ (IntKind.i64.bits - 1) = 9223372036854775808 := by decide
  have hm : n % 18446744073709551616 = n := Int.emod_eq_of_lt h0 (by omega)
  unfold IntKind.wrap
  simp only [e1, e2, hm]
  rw [if_neg]
  simp
  omega
theorem runP_yes {a b : Fg} (l : List Fg) (h1 : b.seq = a.seq + 1) (h2 : a.fin = false) (h3 : b.beg = false) : runP a (b :: l) = (b :: (runP b l).1, (runP b l).2) := by
  rw [runP, if_pos ⟨h1, h2, h3⟩]
theorem runP_no {a b : Fg} (l : List Fg) (h : ¬ (b.seq = a.seq + 1 ∧ a.fin = false ∧ b.beg = false)) : runP a (b :: l) = ([], b :: l) := by
  rw [runP, if_neg h]
theorem set4g {W : World} {E : Nat} {z0 z1 z2 z3 : Value} {T : TypeId} (h : W.heap[E]? = some (.cells #[z0, z1, z2, z3] T)) (x0 x1 x2 x3 : Value) : ((((W.setCell ⟨E, 0, none⟩ x0).setCell ⟨E, 1, none⟩ x1).setCell ⟨E, 2, none⟩ x2).setCell ⟨E, 3, none⟩ x3).heap[E]? = some (.cells #[x0, x1, x2, x3] T) := by
  rw [heap_setCell_same _ _ 3 _ _ x3 (heap_setCell_same _ _ 2 _ _ x2 (heap_setCell_same _ _ 1 _ _ x1 (heap_setCell_same _ _ 0 _ _ x0 h)))]
  simp only [List.setIfInBounds_toArray, List.set_cons_zero, List.set_cons_succ]
theorem Rn.last {w q wr : World} {B M k : Nat} {lv gv : Value} {P l : List Fg} {a : Fg} {lost : Int} {r1 l1 : List Fg} {x : Value} (h : Rn w q B M k lv gv P l a lost r1 l1 x wr) : ∃ g cap, x = .slice (some ⟨g, 0, none⟩) (r1.length + 1) cap ∧ g < wr.heap.size ∧ wr.cell? ⟨g, r1.length * 4, none⟩ = some (.int .i64 (lastP a r1).seq) ∧ wr.cell? ⟨g, r1.length * 4 + 1, none⟩ = some (.bool (lastP a r1).beg) ∧ wr.cell? ⟨g, r1.length * 4 + 2, none⟩ = some (.bool (lastP a r1).fin) ∧ wr.cell? ⟨g, r1.length * 4 + 3, none⟩ = some (.string (lastP a r1).text) := by
  have hk := fgcells_get (a :: r1) r1.length (lastP a r1) (last_get a r1)
  rcases HoldsG.own (F := a :: r1) (by rw [List.length_cons]; exact h.o) with ⟨_, _, _, e⟩ | ⟨g, cap, cur, e1, e2, _, e4⟩
  · cases e
  · rw [List.length_cons] at e1 e4
    exact ⟨g, cap, e1, (Array.getElem?_eq_some_iff.1 e2).1, by rw [cell_of_row _ _ _ _ _ _ e2]; exact (e4 _ (by omega)).trans hk.1, by rw [cell_of_row _ _ _ _ _ _ e2]; exact (e4 _ (by omega)).trans hk.2.1, by rw [cell_of_row _ _ _ _ _ _ e2]; exact (e4 _ (by omega)).trans hk.2.2.1, by rw [cell_of_row _ _ _ _ _ _ e2]; exact (e4 _ (by omega)).trans hk.2.2.2⟩
theorem Rn.grow {w q wc w9 : World} {B M k g cap : Nat} {lv gv : Value} {P l : List Fg} {a : Fg} {lost : Int} {r1 l1 : List Fg} (h : Rn w q B M k lv gv P l a lost r1 l1 (.slice (some ⟨g, 0, none⟩) (r1.length + 1) cap) wc) (hwq : w.heap.size ≤ q.heap.size) (o : Obj) (hg : (wc.alloc o).grownBy w9 (some g)) : Bw w B M k lv gv (P ++ a :: l) lost w9 ∧ Below q.heap.size q w9 := by
  have h1 := h.step ((Below.refl wc.heap.size wc).alloc (Nat.le_refl _) o)
  rcases h1.o.2 with ⟨e, _⟩ | ⟨g', cap', cur, e1, hlo, h3, _⟩
  · cases e
  · cases e1
    have nB : some B ≠ some g := fun e => by
      have e : B = g := Option.some.inj e
      have := h1.h.c
      rw [e, h3] at this
      cases this
    have nM : some M ≠ some g := fun e => h1.h.ne h3 (Option.some.inj e).symm
    exact ⟨⟨(hg.block B (Array.getElem?_eq_some_iff.1 h1.h.c).1 nB).trans h1.h.c, h1.h.m.keep (hg.block M h1.h.m.lt nM), h1.h.r, h1.h.lB, h1.h.lM, h1.h.b.grown hg h1.h.b.size (fun k hk => by cases hk; omega)⟩, h1.b.grown hg h1.b.size (fun k hk => by cases hk; exact hlo)⟩
set_option linter.unusedSimpArgs false in
set_option maxHeartbeats 8000000 in
set_option maxRecDepth 100000 in
theorem iRunB (w q : World) (B M k : Nat) (lv gv : Value) (P l : List Fg) (a : Fg) (lost : Int) (hB : Bw w B M k lv gv (P ++ a :: l) lost q) (hok : ∀ g ∈ P ++ a :: l, 0 ≤ g.seq ∧ g.seq ≤ 16777215) (hlen : l.length ≤ 1000) :
    Calls Try.prog 63 #[.pointer (some ⟨B, 0, none⟩), .int .i64 a.seq] q fun e q' => ∃ v, e = .returned v ∧ q'.ownsRow q.heap.size 33 4 v ((runP a l).1.length + 1) (fgcells (a :: (runP a l).1)) ∧ Bw w B M k lv gv (P ++ a :: l) lost q' ∧ Below q.heap.size q q' := by
  have hk1 := (row4g hB.c).2.1
  have hl1 := hB.m.look1 a.seq (by have := hok a (by simp); omega)
  rw [find_self hB.r] at hl1
  have HB := hide hB
  have hwq := hB.b.size
  obtain ⟨a1, a2, a3, a4⟩ := a
  unfold fgV at hl1
  dsimp only at hl1 ⊢
  clear hB
  go_enter Try.func63, Try.ntmps63
  go_wp2_with fail
  go_step3
  go_wp2_with fail
  go_step3
  go_upto_region 2 with fail
  refine gen_world (fun z => Rn w q B M k lv gv P l ⟨a1, a2, a3, a4⟩ lost [] l (.slice (some ⟨q.heap.size, 0, none⟩) 1 1) z) ?_ ?_
  · have hb := (Below.refl q.heap.size q).alloc (Nat.le_refl _) (.cells #[.int .i64 a1, .bool a2, .bool a3, .string a4] 33)
    exact ⟨World.ownsRow_lit _ _ 1 (Nat.le_refl _) (by decide) rfl, rfl, rfl, (unhide HB).step hb, hb⟩
  intro q0 hq0
  have H0 := hide hq0
  clear hq0 HB hk1 hl1
  go_loopg [5] l.length (fun g x wr => ∃ r1 l1, l1.length = g ∧ Rn w q B M k lv gv P l ⟨a1, a2, a3, a4⟩ lost r1 l1 x wr)
  case atStart => exact ⟨[], l, rfl, unhide H0⟩
  case round =>
    obtain ⟨r1, l1, hg, hr⟩ := hrel
    obtain ⟨g, cap, ex, hgl, c0, c1, c2, c3⟩ := hr.last
    subst ex
    obtain ⟨P1, hP1⟩ := last_split ⟨a1, a2, a3, a4⟩ r1
    have hF : P ++ ⟨a1, a2, a3, a4⟩ :: l = (P ++ P1) ++ lastP ⟨a1, a2, a3, a4⟩ r1 :: l1 := by
      rw [hr.e, ← List.cons_append, hP1]
      simp
    have hz := hok (lastP ⟨a1, a2, a3, a4⟩ r1) (by rw [hF]; simp)
    have hnx := look_next (P := P ++ P1) (l := l1) (z := lastP ⟨a1, a2, a3, a4⟩ r1) (by rw [← hF]; exact hr.h.r)
    have hlast := fun x => lastP_app ⟨a1, a2, a3, a4⟩ x r1
    have hd := hr.d
    have hr1 : r1.length ≤ 1000 := by have := congrArg List.length hr.e; rw [List.length_append] at this; omega
    have HL : Hid (∀ z, Rn w q B M k lv gv P l ⟨a1, a2, a3, a4⟩ lost r1 l1 (.slice (some ⟨g, 0, none⟩) (r1.length + 1) cap) z → (Instr.lookup 67 (.map (some M)) (.int .i64 ((lastP ⟨a1, a2, a3, a4⟩ r1).seq + 1)) true).run Try.prog z = .ok (.tuple #[fgV (findP (P ++ ⟨a1, a2, a3, a4⟩ :: l) ((lastP ⟨a1, a2, a3, a4⟩ r1).seq + 1)), .bool (hasP (P ++ ⟨a1, a2, a3, a4⟩ :: l) ((lastP ⟨a1, a2, a3, a4⟩ r1).seq + 1))]) z) := hide fun z h => h.h.m.look _ (by omega)
    rw [hF] at HL
    generalize findP (P ++ P1 ++ lastP ⟨a1, a2, a3, a4⟩ r1 :: l1) ((lastP ⟨a1, a2, a3, a4⟩ r1).seq + 1) = y at hnx HL
    generalize hasP (P ++ P1 ++ lastP ⟨a1, a2, a3, a4⟩ r1 :: l1) ((lastP ⟨a1, a2, a3, a4⟩ r1).seq + 1) = hb at hnx HL
    have HR := hide hr
    generalize hzz : lastP ⟨a1, a2, a3, a4⟩ r1 = zz at *
    obtain ⟨z1, z2, z3, z4⟩ := zz
    obtain ⟨y1, y2, y3, y4⟩ := y
    unfold fgV at HL
    dsimp only at HL c0 c1 c2 c3 hz
    have HM := hide (And.intro hnx (And.intro hd hF))
    clear hr H0 hnx hd hF hP1
    have hidx : ((r1.length + 1 : Nat) : Int) - 1 = (r1.length : Int) := by omega
    have hidx2 : (r1.length : Int) < ((r1.length + 1 : Nat) : Int) := by omega
    have hidx3 : r1.length < r1.length + 1 := by omega
    go_upto_region 3 with fail
    refine gen_world (fun z => Rn w q B M k lv gv P l ⟨a1, a2, a3, a4⟩ lost r1 l1 (.slice (some ⟨g, 0, none⟩) (r1.length + 1) cap) z ∧ z.heap[wr.heap.size]? = some (.cells #[.int .i64 z1, .bool z2, .bool z3, .string z4] 33)) ⟨(unhide HR).step ((Below.refl _ _).alloc (Nat.le_refl _) _), heap_alloc_new wr _⟩ ?_
    intro q6 hq6
    have H6 := hide hq6
    generalize wr.heap.size = A6 at *
    clear hq6 HR c0 c1 c2 c3 hidx hidx2 hidx3 hgl
    have hwz : IntKind.i64.wrap (z1 + 1) = z1 + 1 := wrapT _ (by omega) (by omega)
    have HS : Hid (∀ z : World, Rn w q B M k lv gv P l ⟨a1, a2, a3, a4⟩ lost r1 l1 (.slice (some ⟨g, 0, none⟩) (r1.length + 1) cap) z → z.heap[A6]? = some (.cells #[.int .i64 z1, .bool z2, .bool z3, .string z4] 33) → z.cell? ⟨B, 1, none⟩ = some (.map (some M)) ∧ z.cell? ⟨A6, 0, none⟩ = some (.int .i64 z1) ∧ (Instr.lookup 67 (.map (some M)) (.int .i64 (z1 + 1)) true).run Try.prog z = .ok (.tuple #[.agg #[.int .i64 y1, .bool y2, .bool y3, .string y4], .bool hb]) z) := hide fun z h1 h2 => ⟨(row4g h1.h.c).2.1, (row4g h2).1, unhide HL z h1⟩
    go_cut [7, 8] (fun x7 x8 wx => ∃ A7, x7 = .pointer (some ⟨A7, 0, none⟩) ∧ x8 = .bool hb ∧ Rn w q B M k lv gv P l ⟨a1, a2, a3, a4⟩ lost r1 l1 (.slice (some ⟨g, 0, none⟩) (r1.length + 1) cap) wx ∧ wx.heap[A6]? = some (.cells #[.int .i64 z1, .bool z2, .bool z3, .string z4] 33) ∧ wx.heap[A7]? = some (.cells #[.int .i64 y1, .bool y2, .bool y3, .string y4] 33))
    case first =>
      refine wp_region_held_drew (S := fun z => z.cell? ⟨B, 1, none⟩ = some (.map (some M)) ∧ z.cell? ⟨A6, 0, none⟩ = some (.int .i64 z1) ∧ (Instr.lookup 67 (.map (some M)) (.int .i64 (z1 + 1)) true).run Try.prog z = .ok (.tuple #[.agg #[.int .i64 y1, .bool y2, .bool y3, .string y4], .bool hb]) z) (by kernel_rfl) (unhide HS _ ((unhide H6).1.step ((Below.refl _ _).drew)) (unhide H6).2) (fun hHeld => ?_)
      have D0 : Hid (Rn w q B M k lv gv P l ⟨a1, a2, a3, a4⟩ lost r1 l1 (.slice (some ⟨g, 0, none⟩) (r1.length + 1) cap) q6.drew ∧ q6.drew.heap[A6]? = some (.cells #[.int .i64 z1, .bool z2, .bool z3, .string z4] 33)) := hide ⟨(unhide H6).1.step ((Below.refl _ _).drew), (unhide H6).2⟩
      generalize q6.drew = yy at D0 hHeld ⊢
      refine wpAnyH_take (i := 0) (v := ?vrf1_0) rfl (by kernel_rfl) (by kernel_rfl) (by kernel_rfl) (fun _ _ _ h => h) (Or.inl ⟨by rfl, ?hyrf1_0⟩) (by assumption) ?_
      case hyrf1_0 =>
        intro w hSw
        try dsimp only at hSw
        go_simp
        try with_reducible rfl
      try simp only [Act.put, List.setIfInBounds_toArray, List.set_cons_zero, List.set_cons_succ, List.getElem_toArray, List.getElem_cons_zero]
      refine wpAnyH_take (i := 1) (v := ?vrf2_1) rfl (by kernel_rfl) (by kernel_rfl) (by kernel_rfl) (fun _ _ _ h => h) (Or.inl ⟨by rfl, ?hyrf2_1⟩) (by assumption) ?_
      case hyrf2_1 =>
        intro w hSw
        try dsimp only at hSw
        go_simp
        try with_reducible rfl
      try simp only [Act.put, List.setIfInBounds_toArray, List.set_cons_zero, List.set_cons_succ, List.getElem_toArray, List.getElem_cons_zero, List.getElem_cons_succ]
      refine wpAnyH_take (i := 2) (v := ?vrf3_2) rfl (by kernel_rfl) (by kernel_rfl) (by kernel_rfl) (fun _ _ _ h => h) (Or.inl ⟨by rfl, ?hyrf3_2⟩) (by assumption) ?_
      case hyrf3_2 =>
        intro w hSw
        try dsimp only at hSw
        go_simp
        try with_reducible rfl
      try simp only [Act.put, List.setIfInBounds_toArray, List.set_cons_zero, List.set_cons_succ, List.getElem_toArray, List.getElem_cons_zero, List.getElem_cons_succ]
      refine wpAnyH_take (i := 3) (v := ?vrf4_3) rfl (by kernel_rfl) (by kernel_rfl) (by kernel_rfl) (fun _ _ _ h => h) (Or.inl ⟨by rfl, ?hyrf4_3⟩) (by assumption) ?_
      case hyrf4_3 =>
        intro w hSw
        try dsimp only at hSw
        go_simp
        try with_reducible rfl
      try simp only [Act.put, List.setIfInBounds_toArray, List.set_cons_zero, List.set_cons_succ, List.getElem_toArray, List.getElem_cons_zero, List.getElem_cons_succ]
      refine wpAnyH_take (i := 4) (v := ?vrf5_4) rfl (by kernel_rfl) (by kernel_rfl) (by kernel_rfl) (fun _ _ _ h => h) (Or.inl ⟨by rfl, ?hyrf5_4⟩) (by assumption) ?_
      case hyrf5_4 =>
        intro w hSw
        try dsimp only at hSw
        go_simp
        try with_reducible rfl
      try simp only [Act.put, List.setIfInBounds_toArray, List.set_cons_zero, List.set_cons_succ, List.getElem_toArray, List.getElem_cons_zero, List.getElem_cons_succ]
      refine wpAnyH_take (i := 5) (v := ?vrf6_5) rfl (by kernel_rfl) (by kernel_rfl) (by kernel_rfl) (fun _ _ _ h => h) (Or.inl ⟨by rfl, ?hyrf6_5⟩) (by assumption) ?_
      case hyrf6_5 =>
        intro w hSw
        try dsimp only at hSw
        go_simp
        try with_reducible rfl
      try simp only [Act.put, List.setIfInBounds_toArray, List.set_cons_zero, List.set_cons_succ, List.getElem_toArray, List.getElem_cons_zero, List.getElem_cons_succ]
      refine wpAnyH_take (i := 6) (v := ?vrf7_6) rfl (by kernel_rfl) (by kernel_rfl) (by kernel_rfl) (fun _ _ _ h => h) (Or.inl ⟨by rfl, ?hyrf7_6⟩) (by assumption) ?_
      case hyrf7_6 =>
        intro w hSw
        try dsimp only at hSw
        go_simp
        try with_reducible rfl
      try simp only [Act.put, List.setIfInBounds_toArray, List.set_cons_zero, List.set_cons_succ, List.getElem_toArray, List.getElem_cons_zero, List.getElem_cons_succ]
      refine wpAnyH_take (i := 7) (v := ?vrf8_7) rfl (by kernel_rfl) (by kernel_rfl) (by kernel_rfl) (fun _ _ _ h => h) (Or.inl ⟨by rfl, ?hyrf8_7⟩) (by assumption) ?_
      case hyrf8_7 =>
        intro w hSw
        try dsimp only at hSw
        go_simp
        try with_reducible rfl
      try simp only [Act.put, List.setIfInBounds_toArray, List.set_cons_zero, List.set_cons_succ, List.getElem_toArray, List.getElem_cons_zero, List.getElem_cons_succ]
      refine wpAnyH_take (i := 8) (v := ?vrf9_8) rfl (by kernel_rfl) (by kernel_rfl) (by kernel_rfl) (fun _ _ _ h => h) (Or.inl ⟨by rfl, ?hyrf9_8⟩) (by assumption) ?_
      case hyrf9_8 =>
        intro w hSw
        try dsimp only at hSw
        go_simp
        try with_reducible rfl
      try simp only [Act.put, List.setIfInBounds_toArray, List.set_cons_zero, List.set_cons_succ, List.getElem_toArray, List.getElem_cons_zero, List.getElem_cons_succ]
      refine wpAnyH_take (i := 9) (v := ?vrf10_9) rfl (by kernel_rfl) (by kernel_rfl) (by kernel_rfl) (fun _ _ _ h => h) (Or.inl ⟨by rfl, ?hyrf10_9⟩) (by assumption) ?_
      case hyrf10_9 =>
        intro w hSw
        try dsimp only at hSw
        go_simp
        try with_reducible rfl
      try simp only [Act.put, List.setIfInBounds_toArray, List.set_cons_zero, List.set_cons_succ, List.getElem_toArray, List.getElem_cons_zero, List.getElem_cons_succ]
      refine wpAnyH_take (i := 10) (v := ?vrf11_10) rfl (by kernel_rfl) (by kernel_rfl) (by kernel_rfl) (fun _ _ _ h => h) (Or.inl ⟨by rfl, ?hyrf11_10⟩) (by assumption) ?_
      case hyrf11_10 =>
        intro w hSw
        try dsimp only at hSw
        go_simp
        try with_reducible rfl
      try simp only [Act.put, List.setIfInBounds_toArray, List.set_cons_zero, List.set_cons_succ, List.getElem_toArray, List.getElem_cons_zero, List.getElem_cons_succ]
      refine wpAnyH_ready (rs := [11]) (by kernel_rfl) (by simp) ?_
      refine AllReadyH.cons rfl (fun K hK => ?_) (AllReadyH.nil)
      go_simp
      have hbA := (Below.refl yy.heap.size yy).alloc (Nat.le_refl _) (.cells #[.int .i64 0, .bool false, .bool false, .string ⟨#[]⟩] 33)
      have D1 := hide (And.intro ((unhide D0).1.step hbA) (And.intro ((hbA.block _ (Array.getElem?_eq_some_iff.1 (unhide D0).2).1).trans (unhide D0).2) (heap_alloc_new yy (.cells #[.int .i64 0, .bool false, .bool false, .string ⟨#[]⟩] 33))))
      clear hbA
      refine hK.out _ _ (unhide HS _ (unhide D1).1 (unhide D1).2.1) (fun _ => ?_)
      clear hK K
      try simp only [Act.put, List.setIfInBounds_toArray, List.set_cons_zero, List.set_cons_succ, List.getElem_toArray, List.getElem_cons_zero, List.getElem_cons_succ]
      refine wpAnyH_ready (rs := [12]) (by kernel_rfl) (by simp) ?_
      refine AllReadyH.cons rfl (fun K hK => ?_) (AllReadyH.nil)
      obtain ⟨n0, n1, n2, n3⟩ := row4g (unhide D1).2.2
      have p0 := frz (unhide D1).2.2 0
      have p1 := frz (unhide D1).2.2 1
      have p2 := frz (unhide D1).2.2 2
      have p3 := frz (unhide D1).2.2 3
      have hbB := (Below.refl yy.heap.size yy).alloc (Nat.le_refl _) (.cells #[.int .i64 y1, .bool y2, .bool y3, .string y4] 33)
      have D2 := hide (And.intro ((unhide D0).1.step hbB) (And.intro ((hbB.block _ (Array.getElem?_eq_some_iff.1 (unhide D0).2).1).trans (unhide D0).2) (heap_alloc_new yy (.cells #[.int .i64 y1, .bool y2, .bool y3, .string y4] 33))))
      clear hbB
      go_simp
      clear n0 n1 n2 n3 p0 p1 p2 p3
      refine hK.out _ _ (unhide HS _ (unhide D2).1 (unhide D2).2.1) (fun _ => ?_)
      clear hK K
      try simp only [Act.put, List.setIfInBounds_toArray, List.set_cons_zero, List.set_cons_succ, List.getElem_toArray, List.getElem_cons_zero, List.getElem_cons_succ]
      refine wpAnyH_take (i := 13) (v := ?vrf12_13) rfl (by kernel_rfl) (by kernel_rfl) (by kernel_rfl) (fun _ _ _ h => h) (Or.inl ⟨by rfl, ?hyrf12_13⟩) (by assumption) ?_
      case hyrf12_13 =>
        intro w hSw
        try dsimp only at hSw
        go_simp
        try with_reducible rfl
      try simp only [Act.put, List.setIfInBounds_toArray, List.set_cons_zero, List.set_cons_succ, List.getElem_toArray, List.getElem_cons_zero, List.getElem_cons_succ]
      refine wpAnyH_done (by kernel_rfl) ?_ _
      go_wp2_with fail
      go_meet
      exact ⟨_, rfl, rfl, unhide D2⟩
    case rest =>
      obtain ⟨A7, e7, e8, hr, h6, h7⟩ := hcut
      subst e7 e8
      clear H6 HS HL
      obtain ⟨k0, k1, k2, k3⟩ := row4g h6
      obtain ⟨m0, m1, m2, m3⟩ := row4g h7
      have H7 := hide hr
      clear hr h6 h7
      obtain ⟨hnx, hd, hF⟩ := unhide HM
      have FIN : Hid ((runP ⟨z1, z2, z3, z4⟩ l1).1 = [] → ∃ v, Ending.returned (.slice (some ⟨g, 0, none⟩) (r1.length + 1) cap) = .returned v ∧ wc.ownsRow q.heap.size 33 4 v ((runP ⟨a1, a2, a3, a4⟩ l).1.length + 1) (fgcells (⟨a1, a2, a3, a4⟩ :: (runP ⟨a1, a2, a3, a4⟩ l).1)) ∧ Bw w B M k lv gv (P ++ ⟨a1, a2, a3, a4⟩ :: l) lost wc ∧ Below q.heap.size q wc) := hide fun e => by
        rw [hd, e, List.append_nil]
        exact ⟨_, rfl, (unhide H7).o, (unhide H7).h, (unhide H7).b⟩
      rcases hnx with ⟨eh, l', el, es⟩ | ⟨eh, hno⟩
      · subst eh
        dsimp only at es
        subst es
        cases z3
        · cases y2
          · have er : (runP ⟨z1, z2, false, z4⟩ l1).1 = ⟨z1 + 1, false, y3, y4⟩ :: (runP ⟨z1 + 1, false, y3, y4⟩ l').1 := by
              rw [el, runP_yes l' rfl rfl rfl]
            clear FIN
            have hown := (unhide H7).o
            have hb7 := (unhide H7).b
            go_wp2_with (first
              | (at_builtin
                 refine append_fg rfl _ _ rfl q.heap.size _ (⟨a1, a2, a3, a4⟩ :: r1) (r1.length + 1) (by rfl) rfl hown (z1 + 1) false y3 y4 rfl (by omega) hb7.size ?_
                 rintro v9 w9 ho9 hg9
                 have H9 := hide (And.intro ho9 hg9)
                 clear ho9 hg9))
            go_roundg (gk - 1)
            case measure => rw [← hg, el, List.length_cons]; omega
            case rel =>
              obtain ⟨k1', k2'⟩ := (unhide H7).grow hwq _ (unhide H9).2
              refine ⟨r1 ++ [⟨z1 + 1, false, y3, y4⟩], l', ?_, ⟨?_, ?_, ?_, k1', k2'⟩⟩
              · rw [← hg, el, List.length_cons]; omega
              · have := (unhide H9).1
                rw [List.length_append, List.length_singleton]
                exact this
              · rw [(unhide H7).e, el]; simp
              · rw [hd, er, hlast]; simp
          · have er : (runP ⟨z1, z2, false, z4⟩ l1).1 = [] := by
              rw [el, runP_no l' (by simp)]
            go_wp2_with fail
            go_ret
            exact unhide FIN er
        · have er : (runP ⟨z1, z2, true, z4⟩ l1).1 = [] := by
            rw [el, runP_no l' (by simp)]
          go_wp2_with fail
          go_ret
          exact unhide FIN er
      · subst eh
        have er : (runP ⟨z1, z2, z3, z4⟩ l1).1 = [] := by
          cases l1 with
          | nil => rfl
          | cons b l1 => rw [runP_no l1 (fun h => hno b l1 rfl h.1)]
        go_wp2_with fail
        go_ret
        exact unhide FIN er
end Go.Proofs.Ytfkeokfmancgiaa
