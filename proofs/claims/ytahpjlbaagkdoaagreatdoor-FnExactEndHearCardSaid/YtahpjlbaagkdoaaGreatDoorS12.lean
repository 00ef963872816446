/- What each rule says of a number that is asked for: the code of the answer, and the number that would be good; what lay in memory stands. One option's rule, looked for in the map, and a copy of an option; what lay in memory stands. What is answered to one option that has a rule; what lay in memory stands. What is answered to options, as mathematics: kind by kind, one by one, and all; and the program's rule of each kind; no condition but those named. What is answered to each option, in a row: the program's verdictsOn; what lay in memory stands. -/
import Derived.Test.YtahpjlbaagkdoaaGreatDoorS11
import Derived.Test.YtahpjlbaagkdoaaGreatDoorS05
import Derived.Test.YtahpjlbaagkdoaaGreatDoorCln
import Derived.Test.YtahpjlbaagkdoaaGreatDoorS06
import Derived.Test.YtahpjlbaagkdoaaGreatDoorS04
import Derived.Deep.DeepCutAuto
import Derived.Test.YtahpjlbaagkdoaaGreatDoorShW
namespace Go.Proofs.YtahpjlbaagkdoaaGreatDoor
open Go.RowKit
def gc (b : Bool) (x : Int) : Int := if b then 2 else x
set_option maxHeartbeats 400000 in
theorem goodOr (b : Bool) (x : Int) (w : World) : Calls Tryz.prog 165 #[.bool b, .int .i64 x] w fun e w' => e = .returned (.int .i64 (gc b x)) ∧ w' = w := by
 cases b
 ·go_enter Tryz.func165, Tryz.ntmps165
  go_wp2
  go_ret
  exact ⟨rfl, rfl⟩
 ·go_enter Tryz.func165, Tryz.ntmps165
  go_wp2
  go_ret
  exact ⟨rfl, rfl⟩
def magic (g : Nat) : Nat := max 1 ((g + 77) % 4294967296)
theorem and32 (g : Nat) (h : g < 4294967296) : bits .and .i64 ((g : Int) + 77) 4294967295 = (((g + 77) % 4294967296 : Nat) : Int) := by
 show IntKind.i64.wrap ((BitVec.ofInt 64 ((g : Int) + 77) &&& BitVec.ofInt 64 4294967295).toNat : Int) = _
 rw [show (g : Int) + 77 = ((g + 77 : Nat) : Int) by omega, BitVec.toNat_and, ofInt_u64 (g + 77) (by omega), show (BitVec.ofInt 64 4294967295).toNat = 2 ^ 32 - 1 by decide, Nat.and_two_pow_sub_one_eq_mod, IntKind.wrap_i64]
 omega
set_option maxHeartbeats 400000 in
theorem otherMagic (g : Nat) (w : World) (h : g < 4294967296) : Calls Tryz.prog 176 #[.int .i64 g] w fun e w' => e = .returned (.int .i64 (magic g : Nat)) ∧ w' = w := by
 have ha := and32 g h
 have HM : Hid (((magic g : Nat) : Int) = max 1 (((g + 77) % 4294967296 : Nat) : Int)) := hide (by unfold magic; omega)
 generalize (g + 77) % 4294967296 = r at *
 rw [unhide HM]
 clear HM
 go_enter Tryz.func176, Tryz.ntmps176
 go_wp2
 all_goals
  go_ret
  exact ⟨ret_int (by omega), rfl⟩
set_option maxHeartbeats 1000000 in
theorem judge1 (m a g : Int) (p c d : Bool) (n : Int) (w : World) : Calls Tryz.prog 164 #[cfgV m a g p c d, .int .i64 n] w fun e w' => e = .returned (.tuple #[.int .i64 (gc (within 64 300 n) 3), .int .i64 m]) ∧ Below w.heap.size w w' := by
 have C1 := hide fun v => mruRight n v
 generalize within 64 300 n = ok at *
 have C2 := hide fun v => goodOr ok 3 v
 go_enter Tryz.func164, Tryz.ntmps164
 go_wp2_with fail
 go_quiet ((first
  | (go_at_call 109; exact Calls.quiet_of_same (unhide C1 _))
  | (go_at_call 165; exact Calls.quiet_of_same (unhide C2 _))))
 go_wp2
 go_ret2
 exact ⟨rfl, below_drewN ((Below.refl _ _).alloc (Nat.le_refl _) _) _⟩
set_option maxHeartbeats 1000000 in
theorem judge2 (m a g : Nat) (p c d : Bool) (n : Nat) (w : World) (ha : a < 4294967296) (hn : n < 4294967296) : Calls Tryz.prog 170 #[cfgV m a g p c d, .int .i64 n] w fun e w' => e = .returned (.tuple #[.int .i64 (gc (((n ||| a : Nat) : Int) == (n : Int)) 3), .int .i64 (n ||| a : Nat)]) ∧ Below w.heap.size w w' := by
 have ho := i64_or_nat n a hn ha
 have C2 := hide fun v => goodOr (((n ||| a : Nat) : Int) == (n : Int)) 3 v
 generalize n ||| a = x at *
 go_enter Tryz.func170, Tryz.ntmps170
 go_wp2_with fail
 go_quiet ((first
  | (go_at_call 165; exact Calls.quiet_of_same (unhide C2 _))))
 go_wp2
 go_ret2
 exact ⟨rfl, below_drewN ((Below.refl _ _).alloc (Nat.le_refl _) _) _⟩
set_option maxHeartbeats 1000000 in
theorem judge5 (m a g : Nat) (p c d : Bool) (n : Nat) (w : World) (hg : g < 4294967296) : Calls Tryz.prog 175 #[cfgV m a g p c d, .int .i64 n] w fun e w' => e = .returned (.tuple #[.int .i64 (gc ((n : Int) != 0 && (n : Int) != (g : Int)) 3), .int .i64 (magic g : Nat)]) ∧ Below w.heap.size w w' := by
 have C1 := hide fun v => otherMagic g v hg
 generalize magic g = x at *
 cases hq : ((n : Int) != 0)
 ·have C2 := hide fun v => goodOr false 3 v
  rw [Bool.false_and]
  go_enter Tryz.func175, Tryz.ntmps175
  go_wp2_with fail
  go_quiet ((first
   | (go_at_call 176; exact Calls.quiet_of_same (unhide C1 _))
   | (go_at_call 165; exact Calls.quiet_of_same (unhide C2 _))))
  go_wp2
  go_ret2
  exact ⟨rfl, below_drewN ((Below.refl _ _).alloc (Nat.le_refl _) _) _⟩
 ·have C2 := hide fun v => goodOr ((n : Int) != (g : Int)) 3 v
  rw [Bool.true_and]
  go_enter Tryz.func175, Tryz.ntmps175
  go_wp2_with fail
  go_quiet ((first
   | (go_at_call 176; exact Calls.quiet_of_same (unhide C1 _))
   | (go_at_call 165; exact Calls.quiet_of_same (unhide C2 _))))
  go_wp2
  go_ret2
  exact ⟨rfl, below_drewN ((Below.refl _ _).alloc (Nat.le_refl _) _) _⟩
set_option maxHeartbeats 400000 in
theorem judge7 (m a g : Int) (p c d : Bool) (n : Int) (w : World) : Calls Tryz.prog 181 #[cfgV m a g p c d, .int .i64 n] w fun e w' => e = .returned (.tuple #[.int .i64 (gc p 4), .int .i64 0]) ∧ Below w.heap.size w w' := by
 have C2 := hide fun v => goodOr p 4 v
 go_enter Tryz.func181, Tryz.ntmps181
 go_wp2_with (first | (go_at_call 165; refine (unhide C2 _).mono ?_; rintro e w1 ⟨rfl, rfl⟩))
 go_ret2
 exact ⟨rfl, (Below.refl _ _).alloc (Nat.le_refl _) _⟩
set_option maxHeartbeats 400000 in
theorem judge8 (m a g : Int) (p c d : Bool) (n : Int) (w : World) : Calls Tryz.prog 186 #[cfgV m a g p c d, .int .i64 n] w fun e w' => e = .returned (.tuple #[.int .i64 (gc c 4), .int .i64 0]) ∧ Below w.heap.size w w' := by
 have C2 := hide fun v => goodOr c 4 v
 go_enter Tryz.func186, Tryz.ntmps186
 go_wp2_with (first | (go_at_call 165; refine (unhide C2 _).mono ?_; rintro e w1 ⟨rfl, rfl⟩))
 go_ret2
 exact ⟨rfl, (Below.refl _ _).alloc (Nat.le_refl _) _⟩
set_option maxHeartbeats 1000000 in
theorem judge9 (m a g : Int) (p c d : Bool) (n : Int) (w : World) : Calls Tryz.prog 191 #[cfgV m a g p c d, .int .i64 n] w fun e w' => e = .returned (.tuple #[.int .i64 (gc (n == 2 || (n == 4 && d)) 3), .int .i64 2]) ∧ Below w.heap.size w w' := by
 have C2 := hide fun b v => goodOr b 3 v
 cases hq : (n == 2)
 ·cases hr : (n == 4)
  ·rw [Bool.false_and, Bool.false_or]
   go_enter Tryz.func191, Tryz.ntmps191
   go_wp2_with (first | (go_at_call 165; refine (unhide C2 _ _).mono ?_; rintro e w1 ⟨rfl, rfl⟩))
   go_ret2
   exact ⟨rfl, (Below.refl _ _).alloc (Nat.le_refl _) _⟩
  ·rw [Bool.true_and, Bool.false_or]
   go_enter Tryz.func191, Tryz.ntmps191
   go_wp2_with (first | (go_at_call 165; refine (unhide C2 _ _).mono ?_; rintro e w1 ⟨rfl, rfl⟩))
   go_ret2
   exact ⟨rfl, (Below.refl _ _).alloc (Nat.le_refl _) _⟩
 ·rw [Bool.true_or]
  go_enter Tryz.func191, Tryz.ntmps191
  go_wp2_with (first | (go_at_call 165; refine (unhide C2 _ _).mono ?_; rintro e w1 ⟨rfl, rfl⟩))
  go_ret2
  exact ⟨rfl, (Below.refl _ _).alloc (Nat.le_refl _) _⟩
set_option maxHeartbeats 400000 in
theorem strClone (t : ByteArray) (w : World) (ht : t.size ≤ 20) : Calls Tryz.prog 136 #[.string t] w fun e w' => e = .returned (.string t) ∧ Below w.heap.size w w' := by
  have C := hide (Any.stringslite_Clone Tryz.laysCln t w (by omega))
  go_enter Tryz.func136, Tryz.ntmps136
  go_wp2_with fail
  refine (unhide C).mono ?_
  rintro e w1 ⟨rfl, hb⟩
  go_wp2
  go_ret
  exact ⟨rfl, hb⟩
set_option maxHeartbeats 1000000 in
theorem sameOpt (k : Int) (t : ByteArray) (w : World) (ht : t.size ≤ 20) : Calls Tryz.prog 115 #[.agg #[.int .i64 k, .string t]] w fun e w' => e = .returned (.agg #[.int .i64 k, .string t]) ∧ Below w.heap.size w w' := by
  obtain ⟨hs, q0, q1, hb0⟩ := start2r w (.cells #[.int .i64 k, .string t] 116) (.cells #[.int .i64 0, .string ⟨#[]⟩] 116)
  have HQ := hide (And.intro hs (And.intro q0 (And.intro q1 hb0)))
  have C := hide fun v => strClone t v ht
  clear hs q0 q1 hb0
  go_enter Tryz.func115, Tryz.ntmps115
  go_wp2_with fail
  refine gen_world (fun q => q.heap.size = w.heap.size + 1 + 1 ∧ q.heap[w.heap.size]? = some (.cells #[.int .i64 k, .string t] 116) ∧ q.heap[w.heap.size + 1]? = some (.cells #[.int .i64 0, .string ⟨#[]⟩] 116) ∧ Below w.heap.size w q) (unhide HQ) ?_
  rintro q ⟨hs, h0, h1, hb⟩
  obtain ⟨c0, c1, _, _⟩ := row2x h0
  have HH := hide (And.intro hs (And.intro h0 (And.intro h1 hb)))
  clear hs h0 h1 hb HQ
  go_region_with (first
    | (go_at_call 136; refine (unhide C _).mono ?_; rintro e w3 ⟨rfl, hb3⟩
       have hz : q.heap.size = w.heap.size + 1 + 1 := (unhide HH).1
       have hr3 := (hb3.block w.heap.size (by show w.heap.size < q.heap.size; omega)).trans (unhide HH).2.1
       have ho3 := (hb3.block (w.heap.size + 1) (by show w.heap.size + 1 < q.heap.size; omega)).trans (unhide HH).2.2.1
       obtain ⟨k0, k1, _, _⟩ := row2x hr3
       obtain ⟨o0, o1, p0, p1⟩ := row2x ho3
       have hbb : Below w.heap.size w w3 := (unhide HH).2.2.2.trans ((show Below q.heap.size q w3 from ⟨hb3.os, hb3.tape, hb3.output, hb3.size, hb3.block⟩).mono (by omega))
       have HX := hide (And.intro ho3 hbb)
       clear hr3 ho3 hb3 hbb hz))
  all_goals
    go_wp2
    refine bodyPost_ret (v := .agg #[.int .i64 k, .string t]) (by simp [results, Tryz.results115, asAddr, load2 (set2_at (unhide HX).1 (.int .i64 k) (.string t))]) rfl ⟨rfl, ?_⟩
    exact ((unhide HX).2.setCell (p := ⟨w.heap.size + 1, 0, none⟩) (Nat.le_succ _) _).setCell (p := ⟨w.heap.size + 1, 1, none⟩) (Nat.le_succ _) _
structure JudR (m a g : Nat) (p c d : Bool) (k : Int) (s f f2 f3 f4 f5 j : Nat) (cd : Nat → Int) (bt : Nat → Nat) (tx : Nat → ByteArray) : Prop where
  fd : Instr.findNow (.int .i64) (.int .i64 k) rules.toList 0 = some (some (j, ruleV s f f2 f3 f4 f5))
  cf : ∀ args W, (callFunc f2 args).run Tryz.prog W = .ok (.enter f2 args) W
  jd : ∀ (n : Nat) v, n < 4294967296 → Calls Tryz.prog f2 #[cfgV m a g p c d, .int .i64 n] v fun e w' => e = .returned (.tuple #[.int .i64 (cd n), .int .i64 (bt n : Nat)]) ∧ Below v.heap.size v w'
  nb : ∀ (n : Nat) v, Calls Tryz.prog 211 #[.int .i64 (bt n : Nat), .int .i64 s] v fun e w' => e = .returned (.string (tx n)) ∧ Below v.heap.size v w'
theorem start4r (w : World) (a b c d : Obj) : ((((w.alloc a).alloc b).alloc c).alloc d).heap.size = w.heap.size + 1 + 1 + 1 + 1 ∧ ((((w.alloc a).alloc b).alloc c).alloc d).heap[w.heap.size]? = some a ∧ ((((w.alloc a).alloc b).alloc c).alloc d).heap[w.heap.size + 1]? = some b ∧
    ((((w.alloc a).alloc b).alloc c).alloc d).heap[w.heap.size + 1 + 1]? = some c ∧ ((((w.alloc a).alloc b).alloc c).alloc d).heap[w.heap.size + 1 + 1 + 1]? = some d ∧ Below w.heap.size w ((((w.alloc a).alloc b).alloc c).alloc d) := by
  have s1 : (w.alloc a).heap.size = w.heap.size + 1 := by simp
  have s2 : ((w.alloc a).alloc b).heap.size = w.heap.size + 1 + 1 := by simp
  have s3 : (((w.alloc a).alloc b).alloc c).heap.size = w.heap.size + 1 + 1 + 1 := by simp
  have e1 := heap_alloc_new w a
  have e2 := heap_alloc_new (w.alloc a) b
  have e3 := heap_alloc_new ((w.alloc a).alloc b) c
  have e4 := heap_alloc_new (((w.alloc a).alloc b).alloc c) d
  rw [s1] at e2
  rw [s2] at e3
  rw [s3] at e4
  refine ⟨by simp, ?_, ?_, ?_, e4, ((((Below.refl _ _).alloc (Nat.le_refl _) _).alloc (by omega) _).alloc (by omega) _).alloc (by omega) _⟩
  · rw [Below.heap_alloc _ _ _ (by omega), Below.heap_alloc _ _ _ (by omega), Below.heap_alloc _ _ _ (by omega)]; exact e1
  · rw [Below.heap_alloc _ _ _ (by omega), Below.heap_alloc _ _ _ (by omega)]; exact e2
  · rw [Below.heap_alloc _ _ _ (by omega)]; exact e3
structure VdS (w : World) (R C O V : Array Value) (q : World) : Prop where
  r : q.heap[w.heap.size]? = some (.cells R 185)
  c : q.heap[w.heap.size + 1]? = some (.cells C 24)
  o : q.heap[w.heap.size + 1 + 1]? = some (.cells O 116)
  v : q.heap[w.heap.size + 1 + 1 + 1]? = some (.cells V 258)
  b : Below w.heap.size w q
theorem VdS.lt {w : World} {R C O V : Array Value} {q : World} (h : VdS w R C O V q) : w.heap.size + 1 + 1 + 1 < q.heap.size := (Array.getElem?_eq_some_iff.1 h.v).1
theorem VdS.step {w : World} {R C O V : Array Value} {q q' : World} (h : VdS w R C O V q) (hb : Below q.heap.size q q') : VdS w R C O V q' := by
  have hl := h.lt
  exact ⟨(hb.block _ (by omega)).trans h.r, (hb.block _ (by omega)).trans h.c, (hb.block _ (by omega)).trans h.o, (hb.block _ (by omega)).trans h.v, h.b.trans (hb.mono h.b.size)⟩
theorem VdS.drew {w : World} {R C O V : Array Value} {q : World} (h : VdS w R C O V q) : VdS w R C O V q.drew := ⟨h.r, h.c, h.o, h.v, h.b.drew⟩
theorem info3 : (Tryz.prog.info? 258).map (·.size) = some 3 := by kernel_rfl
theorem load3vd {W : World} {E : Nat} {x0 x1 x2 : Value} (h : W.heap[E]? = some (.cells #[x0, x1, x2] 258)) : (loadVar 258 ⟨E, 0, none⟩).run Tryz.prog W = .ok (.agg #[x0, x1, x2]) W :=
  run_loadVar_row (P := Tryz.prog) _ _ 258 258 #[x0, x1, x2] (0, 0) _ h Tryz.underlying258 rfl info3
theorem set3_vd {W : World} {E : Nat} {z0 z1 z2 : Value} {T : TypeId} (h : W.heap[E]? = some (.cells #[z0, z1, z2] T)) (x0 x1 x2 : Value) :
    (((W.setCell ⟨E, 0, none⟩ x0).setCell ⟨E, 1, none⟩ x1).setCell ⟨E, 2, none⟩ x2).heap[E]? = some (.cells #[x0, x1, x2] T) :=
  heap_setCell_same _ _ 2 _ _ x2 (heap_setCell_same _ _ 1 _ _ x1 (heap_setCell_same _ _ 0 _ _ x0 h))
theorem row3vd {w : World} {B : Nat} {x0 x1 x2 : Value} {T : TypeId} (h : w.heap[B]? = some (.cells #[x0, x1, x2] T)) :
    w.cell? ⟨B, 0, none⟩ = some x0 ∧ w.cell? ⟨B, 1, none⟩ = some x1 ∧ w.cell? ⟨B, 2, none⟩ = some x2 ∧ w.frozen? ⟨B, 0, none⟩ = false ∧ w.frozen? ⟨B, 1, none⟩ = false ∧ w.frozen? ⟨B, 2, none⟩ = false :=
  ⟨by rw [cell_of_row _ _ _ _ _ _ h]; rfl, by rw [cell_of_row _ _ _ _ _ _ h]; rfl, by rw [cell_of_row _ _ _ _ _ _ h]; rfl, frz h _, frz h _, frz h _⟩
set_option maxRecDepth 100000 in
set_option maxHeartbeats 4000000 in
theorem verdOf (m a g : Nat) (p c d : Bool) (k : Int) (t : ByteArray) (s f f2 f3 f4 f5 j : Nat) (cd : Nat → Int) (bt : Nat → Nat) (tx : Nat → ByteArray) (w : World) (hJ : JudR m a g p c d k s f f2 f3 f4 f5 j cd bt tx) (ht : t.size ≤ 4) :
    Calls Tryz.prog 202 #[ruleV s f f2 f3 f4 f5, cfgV m a g p c d, .agg #[.int .i64 k, .string t]] w fun e w' =>
      e = .returned (.agg #[.int .i64 (cd (numOf t.data.toList)), .int .i64 k, .string (if cd (numOf t.data.toList) == 3 then tx (numOf t.data.toList) else t)]) ∧ Below w.heap.size w w' := by
  have HN := hide fun v => numberOf k t v ht
  have hn := numOf_lt4 t.data.toList (by rw [len_dat]; exact ht)
  generalize numOf t.data.toList = n at *
  have HJ := hide fun v => hJ.jd n v hn
  have HB := hide fun v => hJ.nb n v
  have HC := hide fun v => sameOpt k t v (by omega)
  have hcf := hJ.cf
  clear hJ hn
  generalize cd n = x at *
  generalize bt n = y at *
  generalize tx n = z at *
  obtain ⟨hzz, q0, q1, q2, q3, hb0⟩ := start4r w (.cells #[.int .i64 s, fnV f, fnV f2, fnV f3, fnV f4, fnV f5] 185) (.cells #[.int .i64 m, .int .i64 a, .int .i64 g, .bool p, .bool c, .bool d] 24) (.cells #[.int .i64 k, .string t] 116) (.cells #[.int .i64 0, .int .i64 0, .string ⟨#[]⟩] 258)
  have HQ := hide (VdS.mk q0 q1 q2 q3 hb0)
  clear q0 q1 q2 q3 hb0 hzz
  go_enter Tryz.func202, Tryz.ntmps202
  go_wp2_with fail
  refine gen_world _ (unhide HQ) ?_
  clear HQ
  rintro q hq
  obtain ⟨r0, r1, r2, r3, r4, r5⟩ := row6 hq.r
  obtain ⟨c0, c1, c2, c3, c4, c5⟩ := row6 hq.c
  obtain ⟨o0, o1, _, _⟩ := row2x hq.o
  have HH := hide hq
  clear hq
  go_cut [7, 8] (fun u v wx => u = .int .i64 x ∧ v = .int .i64 y ∧ VdS w #[.int .i64 s, fnV f, fnV f2, fnV f3, fnV f4, fnV f5] #[.int .i64 m, .int .i64 a, .int .i64 g, .bool p, .bool c, .bool d] #[.int .i64 k, .string t] #[.int .i64 0, .int .i64 0, .string ⟨#[]⟩] wx)
  case first =>
    go_region_held3 (fun z => z.cell? ⟨w.heap.size, 2, none⟩ = some (fnV f2) ∧ z.cell? ⟨w.heap.size + 1, 0, none⟩ = some (.int .i64 m) ∧ z.cell? ⟨w.heap.size + 1, 1, none⟩ = some (.int .i64 a) ∧ z.cell? ⟨w.heap.size + 1, 2, none⟩ = some (.int .i64 g) ∧ z.cell? ⟨w.heap.size + 1, 3, none⟩ = some (.bool p) ∧ z.cell? ⟨w.heap.size + 1, 4, none⟩ = some (.bool c) ∧ z.cell? ⟨w.heap.size + 1, 5, none⟩ = some (.bool d) ∧ z.cell? ⟨w.heap.size + 1 + 1, 0, none⟩ = some (.int .i64 k) ∧ z.cell? ⟨w.heap.size + 1 + 1, 1, none⟩ = some (.string t))
      (first | (exact unhide K3) | (exact unhide K4) | go_keep)
      (first
      | (go_at_call 135; refine (unhide HN _).mono ?_; rintro e w3 ⟨rfl, hb3⟩
         have h3 := (unhide HH).drew.step hb3
         obtain ⟨_, _, r2, _, _, _⟩ := row6 h3.r
         obtain ⟨c0, c1, c2, c3, c4, c5⟩ := row6 h3.c
         obtain ⟨o0, o1, _, _⟩ := row2x h3.o
         have K3 := hide (And.intro r2 (And.intro c0 (And.intro c1 (And.intro c2 (And.intro c3 (And.intro c4 (And.intro c5 (And.intro o0 o1))))))))
         have H3 := hide h3
         clear h3 hb3 r2 c0 c1 c2 c3 c4 c5 o0 o1)
      | (refine (unhide HJ _).mono ?_; rintro e w4 ⟨rfl, hb4⟩
         have h4 := (unhide H3).step hb4
         obtain ⟨_, _, r2, _, _, _⟩ := row6 h4.r
         obtain ⟨c0, c1, c2, c3, c4, c5⟩ := row6 h4.c
         obtain ⟨o0, o1, _, _⟩ := row2x h4.o
         have K4 := hide (And.intro r2 (And.intro c0 (And.intro c1 (And.intro c2 (And.intro c3 (And.intro c4 (And.intro c5 (And.intro o0 o1))))))))
         have H4 := hide h4
         clear h4 hb4 r2 c0 c1 c2 c3 c4 c5 o0 o1))
    all_goals
      go_wp2_with fail
      go_meet
      exact ⟨rfl, rfl, unhide H4⟩
  case rest =>
    obtain ⟨hu, hv, hq⟩ := hcut
    subst hu hv
    clear HH HN HJ hcf r0 r1 r2 r3 r4 r5 c0 c1 c2 c3 c4 c5 o0 o1
    obtain ⟨r0, _, _, _, _, _⟩ := row6 hq.r
    obtain ⟨o0, o1, _, _⟩ := row2x hq.o
    obtain ⟨v0, v1, v2, _, _, _⟩ := row3vd hq.v
    have HH := hide hq
    clear hq
    cases hx : (x == (3 : Int))
    · clear HB
      go_wp2_with fail
      refine (unhide HC _).mono ?_
      rintro e w3 ⟨rfl, hb3⟩
      have h3 := (unhide HH).step hb3
      obtain ⟨v0, v1, v2, f0, f1, f2⟩ := row3vd h3.v
      have H3 := hide h3
      clear h3 hb3
      go_wp2
      refine bodyPost_ret (v := .agg #[.int .i64 x, .int .i64 k, .string t]) (by simp [results, Tryz.results202, asAddr, load3vd (set3_vd (unhide H3).v (.int .i64 x) (.int .i64 k) (.string t))]) rfl ⟨by first | rfl | (rw [hx]; rfl), ?_⟩
      exact (((unhide H3).b.setCell (p := ⟨w.heap.size + 1 + 1 + 1, 0, none⟩) (by simp; omega) _).setCell (p := ⟨w.heap.size + 1 + 1 + 1, 1, none⟩) (by simp; omega) _).setCell (p := ⟨w.heap.size + 1 + 1 + 1, 2, none⟩) (by simp; omega) _
    · clear HC
      have hne1 : ¬ (w.heap.size = w.heap.size + 1 + 1 + 1) := by omega
      have hne2 : ¬ (w.heap.size + 1 + 1 + 1 = w.heap.size) := by omega
      go_upto_region 3 with fail
      go_region_held3 (fun z => z.cell? ⟨w.heap.size, 0, none⟩ = some (.int .i64 s) ∧ z.cell? ⟨w.heap.size + 1 + 1, 0, none⟩ = some (.int .i64 k))
        (first | (exact unhide K3) | go_keep)
        (first
        | (go_at_call 211; refine (unhide HB _).mono ?_; rintro e w3 ⟨rfl, hb3⟩
           have h3 := (unhide HH).drew.step hb3
           obtain ⟨r0, _, _, _, _, _⟩ := row6 h3.r
           obtain ⟨o0, _, _, _⟩ := row2x h3.o
           obtain ⟨v0, v1, v2, f0, f1, f2⟩ := row3vd h3.v
           have K3 := hide (And.intro r0 o0)
           have H3 := hide h3
           clear h3 hb3))
      all_goals
        go_wp2
        refine bodyPost_ret (v := .agg #[.int .i64 x, .int .i64 k, .string z]) (by simp [results, Tryz.results202, asAddr, load3vd (set3_vd (unhide H3).v (.int .i64 x) (.int .i64 k) (.string z))]) rfl ⟨by first | rfl | (rw [hx]; rfl), ?_⟩
        exact (((unhide H3).b.setCell (p := ⟨w.heap.size + 1 + 1 + 1, 0, none⟩) (by simp; omega) _).setCell (p := ⟨w.heap.size + 1 + 1 + 1, 1, none⟩) (by simp; omega) _).setCell (p := ⟨w.heap.size + 1 + 1 + 1, 2, none⟩) (by simp; omega) _
def codeK (a g : Nat) (p c d : Bool) (k : Int) (n : Nat) : Int :=
 if k = 1 then gc (within 64 300 n) 3 else if k = 2 then gc (((n ||| a : Nat) : Int) == (n : Int)) 3 else if k = 5 then gc ((n : Int) != 0 && (n : Int) != (g : Int)) 3 else if k = 7 then gc p 4 else if k = 8 then gc c 4 else gc ((n : Int) == 2 || ((n : Int) == 4 && d)) 3
def textK (m a g : Nat) (k : Int) (n : Nat) : ByteArray :=
 if k = 1 then put2 m else if k = 2 then put4 (n ||| a) else if k = 5 then put4 (magic g) else if k = 7 then ⟨#[]⟩ else if k = 8 then ⟨#[]⟩ else put1 2
def one (m a g : Nat) (p c d : Bool) (o : Op.Opt) : Int × Op.Opt :=
 if sizeK o.kind = some o.data.size then (codeK a g p c d o.kind (numOf o.data.data.toList), ⟨o.kind, if codeK a g p c d o.kind (numOf o.data.data.toList) == 3 then textK m a g o.kind (numOf o.data.data.toList) else o.data⟩) else (4, o)
def wasIn (k : Int) (l : List Op.Opt) : Bool := l.any fun x => x.kind == k
def verd (m a g : Nat) (p c d : Bool) (l : List Op.Opt) (o : Op.Opt) : Int × Op.Opt := if wasIn o.kind l = true then (4, o) else one m a g p c d o
def vdAt (m a g : Nat) (p c d : Bool) (l : List Op.Opt) (i : Nat) : Int × Op.Opt := match l[i]? with
 | some o => verd m a g p c d (l.take i) o
 | none => (4, ⟨0, ⟨#[]⟩⟩)
def vdl (m a g : Nat) (p c d : Bool) (l : List Op.Opt) (n : Nat) : List (Int × Op.Opt) := (List.range n).map (vdAt m a g p c d l)
theorem vdl_succ (m a g : Nat) (p c d : Bool) (l : List Op.Opt) (n : Nat) : vdl m a g p c d l (n + 1) = vdl m a g p c d l n ++ [vdAt m a g p c d l n] := by
 unfold vdl
 rw [List.range_succ, List.map_append]
 rfl
theorem vdl_len (m a g : Nat) (p c d : Bool) (l : List Op.Opt) (n : Nat) : (vdl m a g p c d l n).length = n := by simp [vdl]
theorem vdAt_lt (m a g : Nat) (p c d : Bool) (l : List Op.Opt) (i : Nat) (h : i < l.length) : vdAt m a g p c d l i = verd m a g p c d (l.take i) l[i] := by
 unfold vdAt
 rw [List.getElem?_eq_getElem h]
def vcells (l : List (Int × Op.Opt)) : List Value := l.flatMap fun v => [.int .i64 v.1, .int .i64 v.2.kind, .string v.2.data]
theorem vcells_len (l : List (Int × Op.Opt)) : (vcells l).length = l.length * 3 := by
 induction l with
 | nil => rfl
 | cons f fs ih => simp [vcells] at ih ⊢; omega
theorem vcells_append (l r : List (Int × Op.Opt)) : vcells (l ++ r) = vcells l ++ vcells r := by simp [vcells]
theorem vcells_get (l : List (Int × Op.Opt)) (i : Nat) (v : Int × Op.Opt) (h : l[i]? = some v) : (vcells l)[i * 3]? = some (.int .i64 v.1) ∧ (vcells l)[i * 3 + 1]? = some (.int .i64 v.2.kind) ∧ (vcells l)[i * 3 + 2]? = some (.string v.2.data) := by
 induction l generalizing i with
 | nil => simp at h
 | cons d fs ih =>
  cases i with
  | zero =>
   simp at h
   subst h
   exact ⟨rfl, rfl, rfl⟩
  | succ i =>
   have := ih i (by simpa using h)
   have e : vcells (d :: fs) = .int .i64 d.1 :: .int .i64 d.2.kind :: .string d.2.data :: vcells fs := rfl
   rw [e, show (i + 1) * 3 = i * 3 + 3 by omega]
   exact this
theorem gc_cases (b : Bool) (x : Int) : gc b x = 2 ∨ gc b x = x := by cases b <;> simp [gc]
theorem codeK_cases (a g : Nat) (p c d : Bool) (k : Int) (n : Nat) : codeK a g p c d k n = 2 ∨ codeK a g p c d k n = 3 ∨ codeK a g p c d k n = 4 := by
 have h := fun b x => gc_cases b x
 unfold codeK
 split
 ·rcases h (within 64 300 n) 3 with h | h <;> simp [h]
 split
 ·rcases h (((n ||| a : Nat) : Int) == (n : Int)) 3 with h | h <;> simp [h]
 split
 ·rcases h ((n : Int) != 0 && (n : Int) != (g : Int)) 3 with h | h <;> simp [h]
 split
 ·rcases h p 4 with h | h <;> simp [h]
 split
 ·rcases h c 4 with h | h <;> simp [h]
 ·rcases h ((n : Int) == 2 || ((n : Int) == 4 && d)) 3 with h | h <;> simp [h]
set_option maxRecDepth 100000 in
theorem jud_row (m a g : Nat) (p c d : Bool) (ha : a < 4294967296) (hg : g < 4294967296) (k : Int) :
  (∃ s f f2 f3 f4 f5 j bt, sizeK k = some s ∧ JudR m a g p c d k s f f2 f3 f4 f5 j (codeK a g p c d k) bt (textK m a g k)) ∨ (sizeK k = none ∧ Instr.findNow (.int .i64) (.int .i64 k) rules.toList 0 = some none) := by
 by_cases h1 : k = 1
 ·subst h1
  exact Or.inl ⟨2, _, _, _, _, _, _, fun _ => m, rfl, ⟨rfl, cf_of (by kernel_rfl), fun n v _ => judge1 m a g p c d n v, fun n v => num2 m v⟩⟩
 by_cases h2 : k = 2
 ·subst h2
  exact Or.inl ⟨4, _, _, _, _, _, _, fun n => n ||| a, rfl, ⟨rfl, cf_of (by kernel_rfl), fun n v hn => judge2 m a g p c d n v ha hn, fun n v => num4 (n ||| a) v⟩⟩
 by_cases h5 : k = 5
 ·subst h5
  exact Or.inl ⟨4, _, _, _, _, _, _, fun _ => magic g, rfl, ⟨rfl, cf_of (by kernel_rfl), fun n v _ => judge5 m a g p c d n v hg, fun n v => num4 (magic g) v⟩⟩
 by_cases h7 : k = 7
 ·subst h7
  exact Or.inl ⟨0, _, _, _, _, _, _, fun _ => 0, rfl, ⟨rfl, cf_of (by kernel_rfl), fun n v _ => judge7 m a g p c d n v, fun n v => num0 0 v⟩⟩
 by_cases h8 : k = 8
 ·subst h8
  exact Or.inl ⟨0, _, _, _, _, _, _, fun _ => 0, rfl, ⟨rfl, cf_of (by kernel_rfl), fun n v _ => judge8 m a g p c d n v, fun n v => num0 0 v⟩⟩
 by_cases h9 : k = 9
 ·subst h9
  exact Or.inl ⟨1, _, _, _, _, _, _, fun _ => 2, rfl, ⟨rfl, cf_of (by kernel_rfl), fun n v _ => judge9 m a g p c d n v, fun n v => num1 2 v⟩⟩
 ·refine Or.inr ⟨by simp [sizeK, h1, h2, h5, h7, h8, h9], ?_⟩
  have e1 : (k == 1) = false := beq_eq_false_iff_ne.2 h1
  have e2 : (k == 2) = false := beq_eq_false_iff_ne.2 h2
  have e5 : (k == 5) = false := beq_eq_false_iff_ne.2 h5
  have e7 : (k == 7) = false := beq_eq_false_iff_ne.2 h7
  have e8 : (k == 8) = false := beq_eq_false_iff_ne.2 h8
  have e9 : (k == 9) = false := beq_eq_false_iff_ne.2 h9
  simp [Instr.findNow, rules, Instr.sameNow, e1, e2, e5, e7, e8, e9]
structure VoS (w : World) (cB M A G : Nat) (C ws cur : Array Value) (q : World) : Prop where
 c : q.heap[cB]? = some (.cells C 24)
 m : q.heap[M]? = some (.map rules 6)
 a : q.heap[A]? = some (.cells ws 259)
 g : q.heap[G]? = some (.cells cur 258)
 b : Below w.heap.size w q
theorem VoS.step {w : World} {cB M A G : Nat} {C ws cur : Array Value} {q q' : World} (h : VoS w cB M A G C ws cur q) (hb : Below q.heap.size q q') : VoS w cB M A G C ws cur q' :=
 ⟨(hb.block _ (Array.getElem?_eq_some_iff.1 h.c).1).trans h.c, (hb.block _ (Array.getElem?_eq_some_iff.1 h.m).1).trans h.m, (hb.block _ (Array.getElem?_eq_some_iff.1 h.a).1).trans h.a, (hb.block _ (Array.getElem?_eq_some_iff.1 h.g).1).trans h.g, h.b.trans (hb.mono h.b.size)⟩
theorem VoS.putG {w : World} {cB M A G : Nat} {C ws cur : Array Value} {q : World} (h : VoS w cB M A G C ws cur q) (n1 : cB ≠ G) (n2 : M ≠ G) (n3 : A ≠ G) (n4 : w.heap.size ≤ G) (i0 i1 i2 : Nat) (x0 x1 x2 : Value) :
  VoS w cB M A G C ws (((cur.setIfInBounds i0 x0).setIfInBounds i1 x1).setIfInBounds i2 x2) (((q.setCell ⟨G, i0, none⟩ x0).setCell ⟨G, i1, none⟩ x1).setCell ⟨G, i2, none⟩ x2) := by
 refine ⟨?_, ?_, ?_, heap_setCell_same _ _ _ _ _ _ (heap_setCell_same _ _ _ _ _ _ (heap_setCell_same _ _ _ _ _ _ h.g)), ((h.b.setCell (p := ⟨G, i0, none⟩) n4 _).setCell (p := ⟨G, i1, none⟩) n4 _).setCell (p := ⟨G, i2, none⟩) n4 _⟩
 ·rw [Below.heap_setCell _ _ _ _ n1, Below.heap_setCell _ _ _ _ n1, Below.heap_setCell _ _ _ _ n1]; exact h.c
 ·rw [Below.heap_setCell _ _ _ _ n2, Below.heap_setCell _ _ _ _ n2, Below.heap_setCell _ _ _ _ n2]; exact h.m
 ·rw [Below.heap_setCell _ _ _ _ n3, Below.heap_setCell _ _ _ _ n3, Below.heap_setCell _ _ _ _ n3]; exact h.a
theorem VoS.putA {w : World} {cB M A G : Nat} {C ws cur : Array Value} {q : World} (h : VoS w cB M A G C ws cur q) (n1 : cB ≠ A) (n2 : M ≠ A) (n3 : G ≠ A) (n4 : w.heap.size ≤ A) (i : Nat) (x : Value) :
  VoS w cB M A G C (ws.setIfInBounds i x) cur (q.setCell ⟨A, i, none⟩ x) := by
 refine ⟨?_, ?_, heap_setCell_same _ _ _ _ _ _ h.a, ?_, h.b.setCell (p := ⟨A, i, none⟩) n4 _⟩
 ·rw [Below.heap_setCell _ _ _ _ n1]; exact h.c
 ·rw [Below.heap_setCell _ _ _ _ n2]; exact h.m
 ·rw [Below.heap_setCell _ _ _ _ n3]; exact h.g
def Laid (m a g : Nat) (p c d : Bool) (L : List Op.Opt) (i : Nat) (cur : Array Value) : Prop := cur.size = L.length * 3 ∧ ∀ j, j < i * 3 → cur[j]? = (vcells (vdl m a g p c d L i))[j]?
def Was (L : List Op.Opt) (i : Nat) (ws : Array Value) : Prop := ws.size = 256 ∧ ∀ k : Nat, k < 256 → ws[k]? = some (.bool (wasIn k (L.take i)))
theorem Laid.put {m a g : Nat} {p c d : Bool} {L : List Op.Opt} {i : Nat} {cur : Array Value} (h : Laid m a g p c d L i cur) (hi : i < L.length) (x : Int) (k : Int) (t : ByteArray) (hv : vdAt m a g p c d L i = (x, ⟨k, t⟩)) :
  Laid m a g p c d L (i + 1) (((cur.setIfInBounds (i * 3) (.int .i64 x)).setIfInBounds (i * 3 + 1) (.int .i64 k)).setIfInBounds (i * 3 + 2) (.string t)) := by
 obtain ⟨h1, h2⟩ := h
 refine ⟨by simp [h1], fun j hj => ?_⟩
 have hs := vcells_len (vdl m a g p c d L i)
 rw [vdl_len] at hs
 rw [vdl_succ, hv, vcells_append, Array.getElem?_setIfInBounds, Array.getElem?_setIfInBounds, Array.getElem?_setIfInBounds]
 by_cases j2 : i * 3 + 2 = j
 ·subst j2
  rw [if_pos rfl, if_pos (by simp [h1]; omega), List.getElem?_append_right (by omega), hs, show i * 3 + 2 - i * 3 = 2 by omega]
  rfl
 ·rw [if_neg j2]
  by_cases j1 : i * 3 + 1 = j
  ·subst j1
   rw [if_pos rfl, if_pos (by simp [h1]; omega), List.getElem?_append_right (by omega), hs, show i * 3 + 1 - i * 3 = 1 by omega]
   rfl
  ·rw [if_neg j1]
   by_cases j0 : i * 3 = j
   ·subst j0
    rw [if_pos rfl, if_pos (by simp [h1]; omega), List.getElem?_append_right (by omega), hs, Nat.sub_self]
    rfl
   ·rw [if_neg j0, List.getElem?_append_left (by omega)]
    exact h2 j (by omega)
theorem Was.put {L : List Op.Opt} {i : Nat} {ws : Array Value} (h : Was L i ws) (hi : i < L.length) (k : Nat) (hk : k < 256) (hL : L[i].kind = (k : Int)) : Was L (i + 1) (ws.setIfInBounds k (.bool true)) := by
 obtain ⟨h1, h2⟩ := h
 refine ⟨by simp [h1], fun j hj => ?_⟩
 rw [Array.getElem?_setIfInBounds, List.take_succ_eq_append_getElem hi]
 unfold wasIn
 rw [List.any_append]
 by_cases e : k = j
 ·subst e
  rw [if_pos rfl, if_pos (by omega)]
  simp [hL]
 ·rw [if_neg e, h2 j hj]
  have : ((k : Int) == (j : Int)) = false := beq_eq_false_iff_ne.2 (by omega)
  simp [wasIn, hL, this]
theorem zero256 : Tryz.zeroCells259 = (List.replicate 256 (Value.bool false)).toArray := by kernel_rfl
theorem was_zero (L : List Op.Opt) : Was L 0 Tryz.zeroCells259 := by
 rw [zero256]
 refine ⟨by rw [List.size_toArray, List.length_replicate], fun k hk => ?_⟩
 rw [List.getElem?_toArray, List.getElem?_replicate, if_pos hk]
 rfl
theorem make_v (n : Nat) (hn : n ≤ 20) : ∃ Mk : Array Value, Mk.size = n * 3 ∧ ∀ W, (Instr.makeSlice 222 (.int .i64 n) (.int .i64 n)).run Tryz.prog W = .ok (.slice (some ⟨W.heap.size, 0, none⟩) n n) (W.alloc (.cells Mk 258)) := by
 have h : (Tryz.prog.info? 258).map (fun i => (i.zero, i.size, i.bytes)) = some (some (.agg #[.int .i64 0, .int .i64 0, .string ⟨#[]⟩]), 3, 32) := by kernel_rfl
 obtain ⟨i, hi, hzz⟩ := Option.map_eq_some_iff.1 h
 simp only [Prod.mk.injEq] at hzz
 refine ⟨madeCells (Value.agg #[.int .i64 0, .int .i64 0, .string ⟨#[]⟩]).cells (n * 3), by rw [size_madeCells], fun W => ?_⟩
 have := run_make (P := Tryz.prog) W 222 258 i _ Tryz.underlying222 hi hzz.1 .i64 .i64 (n : Int) (n : Int) (by omega) (by omega) (by rw [hzz.2.2]; omega) (by omega)
 rw [hzz.2.1] at this
 simpa using this
def VRow (base : Nat) (l : List (Int × Op.Opt)) (v : Value) (q : World) : Prop := ∃ G cur, v = .slice (some ⟨G, 0, none⟩) l.length l.length ∧ base ≤ G ∧ q.heap[G]? = some (.cells cur 258) ∧ cur.size = l.length * 3 ∧ ∀ j, j < l.length * 3 → cur[j]? = (vcells l)[j]?
theorem round_fact (m a g : Nat) (p c d : Bool) (ha : a < 4294967296) (hg : g < 4294967296) (k : Nat) (dt : ByteArray) (L : List Op.Opt) (i : Nat) (hv : vdAt m a g p c d L i = verd m a g p c d (L.take i) ⟨(k : Int), dt⟩) :
  ∃ (x0 x1 x2 x3 x4 x5 : Value) (bl : Bool), ((∃ s f f2 f3 f4 f5 : Nat, x0 = .int .i64 s ∧ x1 = fnV f ∧ x2 = fnV f2 ∧ x3 = fnV f3 ∧ x4 = fnV f4 ∧ x5 = fnV f5) ∨ (x0 = .int .i64 0 ∧ x1 = .nilFunc ∧ x2 = .nilFunc ∧ x3 = .nilFunc ∧ x4 = .nilFunc ∧ x5 = .nilFunc)) ∧ (∀ (v : World) (M : Nat), v.heap[M]? = some (.map rules 6) → Calls Tryz.prog 134 #[.map (some M), .agg #[.int .i64 k, .string dt]] v fun e w' => e = .returned (.tuple #[.agg #[x0, x1, x2, x3, x4, x5], .bool bl]) ∧ Below v.heap.size v w') ∧
   (bl = false → vdAt m a g p c d L i = (4, ⟨(k : Int), dt⟩)) ∧ (wasIn k (L.take i) = true → vdAt m a g p c d L i = (4, ⟨(k : Int), dt⟩)) ∧
   (bl = true → wasIn k (L.take i) = false → ∃ (x : Int) (t : ByteArray), vdAt m a g p c d L i = (x, ⟨(k : Int), t⟩) ∧ ∀ v, Calls Tryz.prog 202 #[.agg #[x0, x1, x2, x3, x4, x5], cfgV m a g p c d, .agg #[.int .i64 k, .string dt]] v fun e w' => e = .returned (.agg #[.int .i64 x, .int .i64 k, .string t]) ∧ Below v.heap.size v w') := by
 rw [hv]
 rcases jud_row m a g p c d ha hg (k : Int) with ⟨s, f, f2, f3, f4, f5, j, bt, hs, hJ⟩ | ⟨hs, hf⟩
 ·refine ⟨_, _, _, _, _, _, ((dt.size : Int) == (s : Int)), Or.inl ⟨s, f, f2, f3, f4, f5, rfl, rfl, rfl, rfl, rfl, rfl⟩, fun v M hM => ruleOf_yes M k dt s f f2 f3 f4 f5 j v hM hJ.fd, ?_, ?_, ?_⟩
  ·intro hb
   have hne := beq_eq_false_iff_ne.1 hb
   unfold verd one
   split
   ·rfl
   ·rw [if_neg]
    dsimp only
    rw [hs]
    intro e
    cases e
    exact hne rfl
  ·intro hw
   unfold verd
   rw [if_pos hw]
  ·intro hb hw
   have he : dt.size = s := by have := eq_of_beq hb; omega
   have h4 := sizeK_le hs
   refine ⟨_, _, ?_, fun v => verdOf m a g p c d k dt s f f2 f3 f4 f5 j _ bt _ v hJ (by omega)⟩
   unfold verd one
   rw [if_neg (by rw [hw]; decide), if_pos (by dsimp only; rw [hs, he])]
 ·refine ⟨_, _, _, _, _, _, false, Or.inr ⟨rfl, rfl, rfl, rfl, rfl, rfl⟩, fun v M hM => ruleOf_no M k dt v hM hf, ?_, ?_, fun hb => by cases hb⟩
  ·intro _
   unfold verd one
   split
   ·rfl
   ·rw [if_neg]
    dsimp only
    rw [hs]
    intro e
    cases e
  ·intro hw
   unfold verd
   rw [if_pos hw]
end Go.Proofs.YtahpjlbaagkdoaaGreatDoor
