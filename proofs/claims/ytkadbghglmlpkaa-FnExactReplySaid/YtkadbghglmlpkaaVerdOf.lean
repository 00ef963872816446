/- What is answered to one option that has a rule; what lay in memory stands. -/
import Derived.Test.YtkadbghglmlpkaaRuleOf
namespace Go.Proofs.Ytkadbghglmlpkaa
open Go.RowKit
/-- One kind's rule: where it lies, what it says of a number, and the bytes of the number that would be good. -/
structure JudR (m a g : Nat) (p c d : Bool) (k : Int) (s f f2 f3 f4 f5 j : Nat) (cd : Nat → Int) (bt : Nat → Nat) (tx : Nat → ByteArray) : Prop where
  fd : Instr.findNow (.int .i64) (.int .i64 k) rules.toList 0 = some (some (j, ruleV s f f2 f3 f4 f5))
  cf : ∀ args W, (callFunc f2 args).run Try.prog W = .ok (.enter f2 args) W
  jd : ∀ (n : Nat) v, n < 4294967296 → Calls Try.prog f2 #[cfgV m a g p c d, .int .i64 n] v fun e w' => e = .returned (.tuple #[.int .i64 (cd n), .int .i64 (bt n : Nat)]) ∧ Below v.heap.size v w'
  nb : ∀ (n : Nat) v, Calls Try.prog 22 #[.int .i64 (bt n : Nat), .int .i64 s] v fun e w' => e = .returned (.string (tx n)) ∧ Below v.heap.size v w'
theorem start4r (w : World) (a b c d : Obj) : ((((w.alloc a).alloc b).alloc c).alloc d).heap.size = w.heap.size + 1 + 1 + 1 + 1 ∧ ((((w.alloc a).alloc b).alloc c).alloc d).heap[w.heap.size]? = some a ∧ ((((w.alloc a).alloc b).alloc c).alloc d).heap[w.heap.size + 1]? = some b ∧
    ((((w.alloc a).alloc b).alloc c).alloc d).heap[w.heap.size + 1 + 1]? = some c ∧ ((((w.alloc a).alloc b).alloc c).alloc d).heap[w.heap.size + 1 + 1 + 1]? = some d ∧ Below w.heap.size w ((((w.alloc a).alloc b).alloc c).alloc d) := by
  have s1 : (w.alloc a).heap.size = w.heap.size + 1 := by simp
  have s2 : ((w.alloc a).alloc b).heap.size = w.heap.size + 1 + 1 := by simp
  have s3 : (((w.alloc a).alloc b).alloc c).heap.size = w.heap.size + 1 + 1 + 1 := by simp
  have e1 := heap_alloc_new w a
  have e2 := heap_alloc_new (w.alloc a) b
  have e3 := heap_alloc_new ((w.alloc a).alloc b) c
  have e4 := heap_alloc_new (((w.alloc a).alloc b).alloc c) d
  rw [s1] at e2
  rw [s2] at e3
  rw [s3] at e4
  refine ⟨by simp, ?_, ?_, ?_, e4, ((((Below.refl _ _).alloc (Nat.le_refl _) _).alloc (by omega) _).alloc (by omega) _).alloc (by omega) _⟩
  · rw [Below.heap_alloc _ _ _ (by omega), Below.heap_alloc _ _ _ (by omega), Below.heap_alloc _ _ _ (by omega)]; exact e1
  · rw [Below.heap_alloc _ _ _ (by omega), Below.heap_alloc _ _ _ (by omega)]; exact e2
  · rw [Below.heap_alloc _ _ _ (by omega)]; exact e3
/-- What stands in verdictOf: the rule, the Config, the option, and the answer's place. -/
structure VdS (w : World) (R C O V : Array Value) (q : World) : Prop where
  r : q.heap[w.heap.size]? = some (.cells R 50)
  c : q.heap[w.heap.size + 1]? = some (.cells C 26)
  o : q.heap[w.heap.size + 1 + 1]? = some (.cells O 54)
  v : q.heap[w.heap.size + 1 + 1 + 1]? = some (.cells V 73)
  b : Below w.heap.size w q
theorem VdS.lt {w : World} {R C O V : Array Value} {q : World} (h : VdS w R C O V q) : w.heap.size + 1 + 1 + 1 < q.heap.size := (Array.getElem?_eq_some_iff.1 h.v).1
theorem VdS.step {w : World} {R C O V : Array Value} {q q' : World} (h : VdS w R C O V q) (hb : Below q.heap.size q q') : VdS w R C O V q' := by
  have hl := h.lt
  exact ⟨(hb.block _ (by omega)).trans h.r, (hb.block _ (by omega)).trans h.c, (hb.block _ (by omega)).trans h.o, (hb.block _ (by omega)).trans h.v, h.b.trans (hb.mono h.b.size)⟩
theorem VdS.drew {w : World} {R C O V : Array Value} {q : World} (h : VdS w R C O V q) : VdS w R C O V q.drew := ⟨h.r, h.c, h.o, h.v, h.b.drew⟩
theorem info3 : (Try.prog.info? 73).map (·.size) = some 3 := by kernel_rfl
theorem load3 {W : World} {E : Nat} {x0 x1 x2 : Value} (h : W.heap[E]? = some (.cells #[x0, x1, x2] 73)) : (loadVar 73 ⟨E, 0, none⟩).run Try.prog W = .ok (.agg #[x0, x1, x2]) W :=
  run_loadVar_row (P := Try.prog) _ _ 73 73 #[x0, x1, x2] (0, 0) _ h Try.underlying73 rfl info3
theorem set3_at {W : World} {E : Nat} {z0 z1 z2 : Value} {T : TypeId} (h : W.heap[E]? = some (.cells #[z0, z1, z2] T)) (x0 x1 x2 : Value) :
    (((W.setCell ⟨E, 0, none⟩ x0).setCell ⟨E, 1, none⟩ x1).setCell ⟨E, 2, none⟩ x2).heap[E]? = some (.cells #[x0, x1, x2] T) :=
  heap_setCell_same _ _ 2 _ _ x2 (heap_setCell_same _ _ 1 _ _ x1 (heap_setCell_same _ _ 0 _ _ x0 h))
theorem row3x {w : World} {B : Nat} {x0 x1 x2 : Value} {T : TypeId} (h : w.heap[B]? = some (.cells #[x0, x1, x2] T)) :
    w.cell? ⟨B, 0, none⟩ = some x0 ∧ w.cell? ⟨B, 1, none⟩ = some x1 ∧ w.cell? ⟨B, 2, none⟩ = some x2 ∧ w.frozen? ⟨B, 0, none⟩ = false ∧ w.frozen? ⟨B, 1, none⟩ = false ∧ w.frozen? ⟨B, 2, none⟩ = false :=
  ⟨by rw [cell_of_row _ _ _ _ _ _ h]; rfl, by rw [cell_of_row _ _ _ _ _ _ h]; rfl, by rw [cell_of_row _ _ _ _ _ _ h]; rfl, frz h _, frz h _, frz h _⟩
set_option maxHeartbeats 4000000 in
theorem verdOf (m a g : Nat) (p c d : Bool) (k : Int) (t : ByteArray) (s f f2 f3 f4 f5 j : Nat) (cd : Nat → Int) (bt : Nat → Nat) (tx : Nat → ByteArray) (w : World) (hJ : JudR m a g p c d k s f f2 f3 f4 f5 j cd bt tx) (ht : t.size ≤ 4) :
    Calls Try.prog 47 #[ruleV s f f2 f3 f4 f5, cfgV m a g p c d, .agg #[.int .i64 k, .string t]] w fun e w' =>
      e = .returned (.agg #[.int .i64 (cd (numOf t.data.toList)), .int .i64 k, .string (if cd (numOf t.data.toList) == 3 then tx (numOf t.data.toList) else t)]) ∧ Below w.heap.size w w' := by
  have HN := hide fun v => numberOf k t v ht
  have hn := numOf_lt4 t.data.toList (by rw [len_dat]; exact ht)
  generalize numOf t.data.toList = n at *
  have HJ := hide fun v => hJ.jd n v hn
  have HB := hide fun v => hJ.nb n v
  have HC := hide fun v => sameOpt k t v (by omega)
  have hcf := hJ.cf
  clear hJ hn
  generalize cd n = x at *
  generalize bt n = y at *
  generalize tx n = z at *
  obtain ⟨hzz, q0, q1, q2, q3, hb0⟩ := start4r w (.cells #[.int .i64 s, fnV f, fnV f2, fnV f3, fnV f4, fnV f5] 50) (.cells #[.int .i64 m, .int .i64 a, .int .i64 g, .bool p, .bool c, .bool d] 26) (.cells #[.int .i64 k, .string t] 54) (.cells #[.int .i64 0, .int .i64 0, .string ⟨#[]⟩] 73)
  have HQ := hide (VdS.mk q0 q1 q2 q3 hb0)
  clear q0 q1 q2 q3 hb0 hzz
  go_enter Try.func47, Try.ntmps47
  go_wp2_with fail
  refine gen_world _ (unhide HQ) ?_
  clear HQ
  rintro q hq
  obtain ⟨r0, r1, r2, r3, r4, r5⟩ := row6 hq.r
  obtain ⟨c0, c1, c2, c3, c4, c5⟩ := row6 hq.c
  obtain ⟨o0, o1, _, _⟩ := row2x hq.o
  have HH := hide hq
  clear hq
  go_cut [7, 8] (fun u v wx => u = .int .i64 x ∧ v = .int .i64 y ∧ VdS w #[.int .i64 s, fnV f, fnV f2, fnV f3, fnV f4, fnV f5] #[.int .i64 m, .int .i64 a, .int .i64 g, .bool p, .bool c, .bool d] #[.int .i64 k, .string t] #[.int .i64 0, .int .i64 0, .string ⟨#[]⟩] wx)
  case first =>
    go_region_held3 (fun z => z.cell? ⟨w.heap.size, 2, none⟩ = some (fnV f2) ∧ z.cell? ⟨w.heap.size + 1, 0, none⟩ = some (.int .i64 m) ∧ z.cell? ⟨w.heap.size + 1, 1, none⟩ = some (.int .i64 a) ∧ z.cell? ⟨w.heap.size + 1, 2, none⟩ = some (.int .i64 g) ∧ z.cell? ⟨w.heap.size + 1, 3, none⟩ = some (.bool p) ∧ z.cell? ⟨w.heap.size + 1, 4, none⟩ = some (.bool c) ∧ z.cell? ⟨w.heap.size + 1, 5, none⟩ = some (.bool d) ∧ z.cell? ⟨w.heap.size + 1 + 1, 0, none⟩ = some (.int .i64 k) ∧ z.cell? ⟨w.heap.size + 1 + 1, 1, none⟩ = some (.string t))
      (first | (exact unhide K3) | (exact unhide K4) | go_keep)
      (first
      | (go_at_call 81; refine (unhide HN _).mono ?_; rintro e w3 ⟨rfl, hb3⟩
         have h3 := (unhide HH).drew.step hb3
         obtain ⟨_, _, r2, _, _, _⟩ := row6 h3.r
         obtain ⟨c0, c1, c2, c3, c4, c5⟩ := row6 h3.c
         obtain ⟨o0, o1, _, _⟩ := row2x h3.o
         have K3 := hide (And.intro r2 (And.intro c0 (And.intro c1 (And.intro c2 (And.intro c3 (And.intro c4 (And.intro c5 (And.intro o0 o1))))))))
         have H3 := hide h3
         clear h3 hb3 r2 c0 c1 c2 c3 c4 c5 o0 o1)
      | (refine (unhide HJ _).mono ?_; rintro e w4 ⟨rfl, hb4⟩
         have h4 := (unhide H3).step hb4
         obtain ⟨_, _, r2, _, _, _⟩ := row6 h4.r
         obtain ⟨c0, c1, c2, c3, c4, c5⟩ := row6 h4.c
         obtain ⟨o0, o1, _, _⟩ := row2x h4.o
         have K4 := hide (And.intro r2 (And.intro c0 (And.intro c1 (And.intro c2 (And.intro c3 (And.intro c4 (And.intro c5 (And.intro o0 o1))))))))
         have H4 := hide h4
         clear h4 hb4 r2 c0 c1 c2 c3 c4 c5 o0 o1))
    all_goals
      go_wp2_with fail
      go_meet
      exact ⟨rfl, rfl, unhide H4⟩
  case rest =>
    obtain ⟨hu, hv, hq⟩ := hcut
    subst hu hv
    clear HH HN HJ hcf r0 r1 r2 r3 r4 r5 c0 c1 c2 c3 c4 c5 o0 o1
    obtain ⟨r0, _, _, _, _, _⟩ := row6 hq.r
    obtain ⟨o0, o1, _, _⟩ := row2x hq.o
    obtain ⟨v0, v1, v2, _, _, _⟩ := row3x hq.v
    have HH := hide hq
    clear hq
    cases hx : (x == (3 : Int))
    · clear HB
      go_wp2_with fail
      refine (unhide HC _).mono ?_
      rintro e w3 ⟨rfl, hb3⟩
      have h3 := (unhide HH).step hb3
      obtain ⟨v0, v1, v2, f0, f1, f2⟩ := row3x h3.v
      have H3 := hide h3
      clear h3 hb3
      go_wp2
      refine bodyPost_ret (v := .agg #[.int .i64 x, .int .i64 k, .string t]) (by simp [results, Try.results47, asAddr, load3 (set3_at (unhide H3).v (.int .i64 x) (.int .i64 k) (.string t))]) rfl ⟨by first | rfl | (rw [hx]; rfl), ?_⟩
      exact (((unhide H3).b.setCell (p := ⟨w.heap.size + 1 + 1 + 1, 0, none⟩) (by simp; omega) _).setCell (p := ⟨w.heap.size + 1 + 1 + 1, 1, none⟩) (by simp; omega) _).setCell (p := ⟨w.heap.size + 1 + 1 + 1, 2, none⟩) (by simp; omega) _
    · clear HC
      have hne1 : ¬ (w.heap.size = w.heap.size + 1 + 1 + 1) := by omega
      have hne2 : ¬ (w.heap.size + 1 + 1 + 1 = w.heap.size) := by omega
      go_upto_region 3 with fail
      go_region_held3 (fun z => z.cell? ⟨w.heap.size, 0, none⟩ = some (.int .i64 s) ∧ z.cell? ⟨w.heap.size + 1 + 1, 0, none⟩ = some (.int .i64 k))
        (first | (exact unhide K3) | go_keep)
        (first
        | (go_at_call 22; refine (unhide HB _).mono ?_; rintro e w3 ⟨rfl, hb3⟩
           have h3 := (unhide HH).drew.step hb3
           obtain ⟨r0, _, _, _, _, _⟩ := row6 h3.r
           obtain ⟨o0, _, _, _⟩ := row2x h3.o
           obtain ⟨v0, v1, v2, f0, f1, f2⟩ := row3x h3.v
           have K3 := hide (And.intro r0 o0)
           have H3 := hide h3
           clear h3 hb3))
      all_goals
        go_wp2
        refine bodyPost_ret (v := .agg #[.int .i64 x, .int .i64 k, .string z]) (by simp [results, Try.results47, asAddr, load3 (set3_at (unhide H3).v (.int .i64 x) (.int .i64 k) (.string z))]) rfl ⟨by first | rfl | (rw [hx]; rfl), ?_⟩
        exact (((unhide H3).b.setCell (p := ⟨w.heap.size + 1 + 1 + 1, 0, none⟩) (by simp; omega) _).setCell (p := ⟨w.heap.size + 1 + 1 + 1, 1, none⟩) (by simp; omega) _).setCell (p := ⟨w.heap.size + 1 + 1 + 1, 2, none⟩) (by simp; omega) _
end Go.Proofs.Ytkadbghglmlpkaa
