/- The model's Less and Without, of a right Config and right options; what lay in memory stands. -/
import Derived.Test.YtahpjlbaagkdoaaGreatDoorS36
import Derived.Test.YtahpjlbaagkdoaaGreatDoorS09
import Derived.Test.YtahpjlbaagkdoaaGreatDoorShW
namespace Go.Proofs.YtahpjlbaagkdoaaGreatDoor
open Go.RowKit
structure CfQ (w : World) (x : Cf) (q : World) : Prop where
 x : q.heap[w.heap.size]? = some (.cells (cfC x) 24)
 r : q.heap[w.heap.size + 1]? = some (.cells #[.int .i64 0, .int .i64 0, .int .i64 0, .bool false, .bool false, .bool false] 24)
 b : Below w.heap.size w q
theorem CfQ.step {w : World} {x : Cf} {q q' : World} (h : CfQ w x q) (hb : Below q.heap.size q q') : CfQ w x q' :=
 ⟨(hb.block _ (Array.getElem?_eq_some_iff.1 h.x).1).trans h.x, (hb.block _ (Array.getElem?_eq_some_iff.1 h.r).1).trans h.r, h.b.trans (hb.mono h.b.size)⟩
theorem CfQ.put {w : World} {x y : Cf} {q : World} (h : CfQ w x q) (i : Nat) (v : Value) (hy : (cfC x).setIfInBounds i v = cfC y) : CfQ w y (q.setCell ⟨w.heap.size, i, none⟩ v) :=
 ⟨by rw [← hy]; exact heap_setCell_same _ _ i _ _ v h.x, (Below.heap_setCell _ _ _ _ (by simp)).trans h.r, h.b.setCell (p := ⟨w.heap.size, i, none⟩) (Nat.le_refl _) _⟩
theorem lessK_7 (x : Cf) (n : Nat) : lessK 7 x n = x := by unfold lessK; rw [if_neg (by decide), if_neg (by decide), if_neg (by decide), if_neg (by decide)]
theorem lessK_8 (x : Cf) (n : Nat) : lessK 8 x n = x := by unfold lessK; rw [if_neg (by decide), if_neg (by decide), if_neg (by decide), if_neg (by decide)]
theorem lessK_9 (x : Cf) (n : Nat) : lessK 9 x n = { x with d := x.d && ((n : Int) != 2) } := by unfold lessK; rw [if_neg (by decide), if_neg (by decide), if_neg (by decide), if_pos rfl]
theorem lessK_no {k : Int} (h1 : k ≠ 1) (h2 : k ≠ 2) (h5 : k ≠ 5) (h9 : k ≠ 9) (x : Cf) (n : Nat) : lessK k x n = x := by unfold lessK; rw [if_neg h1, if_neg h2, if_neg h5, if_neg h9]
theorem rightOrF_self (x : Cf) : rightOrF x x = x := ite_self _
theorem lessOne_ok {x : Cf} {o : Op.Opt} (h : okC x = true) : okC (lessOne x o) = true := by
 unfold lessOne rightOrF
 split
 ·split
  ·next h2 => exact h2
  ·exact h
 ·exact h
theorem lessF_ok {x : Cf} (h : okC x = true) (F : List Op.Opt) : okC (lessF x F) = true := by
 unfold lessF
 induction F generalizing x with
 | nil => exact h
 | cons o F ih => exact ih (lessOne_ok h)
theorem okC_get {x : Cf} (h : okC x = true) : within 64 300 (x.m : Int) = true ∧ within 0 4294967295 (x.a : Int) = true ∧ within 0 4294967295 (x.g : Int) = true := by
 unfold okC cfgOk at h
 rw [Bool.and_eq_true, Bool.and_eq_true] at h
 exact ⟨h.1, h.2.1, h.2.2⟩
theorem within_nat {n : Nat} (h : n < 4294967296) : within 0 4294967295 (n : Int) = true := by
 unfold within
 rw [Bool.and_eq_true]
 exact ⟨decide_eq_true (by omega), decide_eq_true (by omega)⟩
theorem num_two (t : ByteArray) (h : t.size = 1) : (((numOf t.data.toList : Nat) : Int) == 2) = (t.toList == [2]) := by
 obtain ⟨c, hc⟩ : ∃ c, t.data.toList = [c] := by
  have : t.data.toList.length = 1 := by rw [Array.length_toList]; exact h
  exact List.length_eq_one_iff.1 this
 rw [ByteArray.toList_eq, hc]
 have h4 : numOf [c] = c.toNat := by simp [numOf]
 rw [h4]
 cases hq : ((c.toNat : Int) == 2)
 ·symm
  rw [beq_eq_false_iff_ne]
  intro e
  cases e
  cases hq
 ·have : c.toNat = 2 := by have := eq_of_beq hq; omega
  have : c = 2 := by
   apply UInt8.toNat_inj.1
   exact this
  subst this
  rfl
set_option maxHeartbeats 8000000 in
set_option maxRecDepth 100000 in
theorem specLess (x : Cf) (v : Value) (F : List Op.Opt) (w : World) (hx : okC x = true) (hr : Op.right F = true) (h : HoldsO w v F) :
  Calls Tryz.prog 97 #[.agg (cfC x), v] w fun e w' => e = .returned (.agg (cfC (lessF x F))) ∧ Below w.heap.size w w' := by
 have hFl := Op.right_len hr
 have C0 := hide fun W => specCfg (x.m : Int) x.a x.g x.p x.c x.d W
 have C1 := hide fun W (hb : Below w.heap.size w W) => specRightAll v F W (by unfold maxLen; omega) (h.below hb rfl)
 rw [show cfgOk (x.m : Int) x.a x.g = true from hx] at C0
 rw [hr] at C1
 have HFO := hide (Op.right_all hr)
 have HAT := hide fun i hi => h.at i hi
 have HOK := hide hx
 obtain ⟨ad, cp, rfl⟩ := h.form
 obtain ⟨n, hn⟩ : ∃ n, F.length = n := ⟨_, rfl⟩
 obtain ⟨_, hA, hR, hb⟩ := start2r w (.cells (cfC x) 24) (.cells #[.int .i64 0, .int .i64 0, .int .i64 0, .bool false, .bool false, .bool false] 24)
 have H0 := hide (And.intro hA (And.intro hR hb))
 clear h hr hA hR hb hx
 have HTL : Hid (F.take n = F) := hide (List.take_of_length_le (by omega))
 obtain ⟨R, hR⟩ : ∃ R, lessF x F = R := ⟨_, rfl⟩
 rw [hR]
 have HR := hide hR
 clear hR
 have hx0 : lessF x (F.take 0) = x := rfl
 rw [hn] at C1 ⊢
 go_enter Tryz.func97, Tryz.ntmps97
 go_wp2_with fail
 refine (unhide C0 _).mono ?_
 rintro e w1 ⟨rfl, hb1⟩
 have hA1 := (hb1.block w.heap.size (by simp; omega)).trans (unhide H0).1
 have hR1 := (hb1.block (w.heap.size + 1) (by simp)).trans (unhide H0).2.1
 have hB1 := (unhide H0).2.2.trans (hb1.mono (unhide H0).2.2.size)
 have H1 := hide (And.intro hA1 (And.intro hR1 hB1))
 clear hA1 hR1 hB1 hb1 H0 C0
 go_wp2_with fail
 refine (unhide C1 _ (unhide H1).2.2).mono ?_
 rintro e w2 ⟨rfl, hb2⟩
 have hI : CfQ w (lessF x (F.take 0)) w2 := by
  rw [hx0]
  exact ⟨(hb2.block w.heap.size (Array.getElem?_eq_some_iff.1 (unhide H1).1).1).trans (unhide H1).1, (hb2.block (w.heap.size + 1) (Array.getElem?_eq_some_iff.1 (unhide H1).2.1).1).trans (unhide H1).2.1, (unhide H1).2.2.trans (hb2.mono (unhide H1).2.2.size)⟩
 have HI := hide hI
 clear hI hb2 H1 C1 hx0
 go_wp2_with fail
 go_loopw [5] (fun y wr => ∃ i : Nat, i ≤ n ∧ y = .int .i64 i ∧ CfQ w (lessF x (F.take i)) wr) (fun y _ => n - (intOf y).toNat)
 case atStart => exact ⟨0, Nat.zero_le _, rfl, unhide HI⟩
 case round =>
  obtain ⟨i, hi, rfl, hS⟩ := hrel
  clear HI
  by_cases hlt : i < n
  ·have d1 : (i : Int) < (n : Int) := by omega
   have d0 : (0 : Int) ≤ (i : Int) := by omega
   obtain ⟨g, ⟨cp2, e2⟩, hgl, k0, k1⟩ := unhide HAT i (by omega)
   cases e2
   replace k0 := (hS.b.cell (p := ⟨g, i * 2, none⟩) hgl).trans k0
   replace k1 := (hS.b.cell (p := ⟨g, i * 2 + 1, none⟩) hgl).trans k1
   have HSN := hide (lessF_snoc x F i (by omega))
   have hok := unhide HFO _ (List.getElem_mem (show i < F.length by omega))
   have hyok := lessF_ok (unhide HOK) (F.take i)
   generalize F[i]'(by omega) = o at *
   obtain ⟨kd, dt⟩ := o
   dsimp only at k0 k1
   generalize lessF x (F.take i) = y at *
   have hds : dt.size ≤ 20 := by unfold Op.ok at hok; have := of_decide_eq_true hok; exact this.2.2
   have HS := hide hS
   clear hS HAT HFO hok HOK
   go_upto_region 7 with fail
   refine gen_world (fun q => CfQ w y q ∧ q.heap[wr.heap.size]? = some (.cells #[.int .i64 kd, .string dt] 116))
    ⟨(unhide HS).step ((Below.refl _ _).alloc (Nat.le_refl _) _), heap_alloc_new wr _⟩ ?_
   rintro q1 ⟨hS1, hO1⟩
   generalize wr.heap.size = N1 at *
   obtain ⟨c0, c1, _, _⟩ := row2x hO1
   obtain ⟨m0, m1, m2, m3, m4, m5⟩ := row6 hS1.x
   obtain ⟨f0, f1, f2, f3, f4, f5⟩ := row6g hS1.x
   have HV1 := hide hS1
   clear hO1 HS k0 k1 hS1
   have C2 := hide fun W => specGet dt 2 W hds (by decide)
   have C4 := hide fun W => specGet dt 4 W hds (by decide)
   have CI := hide fun y W => specIs y 64 300 W
   go_wp2_with fail
   refine (unhide C2 _).mono ?_
   rintro e w2' ⟨rfl, hw2⟩
   replace hw2 := hw2.symm
   subst hw2
   go_wp2_with fail
   refine (unhide C4 _).mono ?_
   rintro e w3 ⟨rfl, hw3⟩
   replace hw3 := hw3.symm
   subst hw3
   clear C2 C4
   unfold lessOne at HSN
   dsimp only at HSN
   obtain ⟨y1, y2, y3⟩ := okC_get hyok
   by_cases hk1 : kd = 1
   ·subst hk1
    by_cases hs : dt.size = 2
    ·rw [if_pos (by rw [hs]; rfl)] at HSN
     have g2 : getN dt 2 = numOf dt.data.toList := if_pos hs
     rw [g2, decide_eq_true hs]
     unfold lessK at HSN
     rw [if_pos rfl] at HSN
     generalize numOf dt.data.toList = nx at *
     have CI2 := hide fun W => specIs (nx : Int) 64 300 W
     clear CI
     unfold rightOrF at HSN
     cases hw : within 64 300 (nx : Int)
     ·rw [if_neg (by unfold okC cfgOk; rw [hw, Bool.false_and]; decide)] at HSN
      rw [hw] at CI2
      go_wp2_with (first | (go_at_call 72; refine (unhide CI2 _).mono ?_; rintro e w4 ⟨rfl, hw4⟩; replace hw4 := hw4.symm; subst hw4))
      go_roundw
      case rel => exact ⟨i + 1, by omega, by go_num, by rw [unhide HSN]; exact unhide HV1⟩
      case measure => simp [intOf]; omega
     ·rw [if_pos (by unfold okC cfgOk; rw [hw, y2, y3]; rfl)] at HSN
      rw [hw] at CI2
      go_wp2_with (first | (go_at_call 72; refine (unhide CI2 _).mono ?_; rintro e w4 ⟨rfl, hw4⟩; replace hw4 := hw4.symm; subst hw4))
      go_roundw
      case rel => exact ⟨i + 1, by omega, by go_num, by rw [unhide HSN]; exact (unhide HV1).put 0 (.int .i64 nx) rfl⟩
      case measure => simp [intOf]; omega
    ·rw [if_neg (by intro e; have e2 := Option.some.inj (show some 2 = some dt.size from e); omega)] at HSN
     rw [decide_eq_false hs]
     go_wp2_with (first | (go_at_call 72; refine (unhide CI _ _).mono ?_; rintro e w4 ⟨rfl, hw4⟩; replace hw4 := hw4.symm; subst hw4))
     go_roundw
     case rel => exact ⟨i + 1, by omega, by go_num, by rw [unhide HSN]; exact unhide HV1⟩
     case measure => simp [intOf]; omega
   by_cases hk2 : kd = 2
   ·subst hk2
    by_cases hs : dt.size = 4
    ·have hlt4 := numOf_lt4 dt.data.toList (by rw [len_dat]; omega)
     rw [if_pos (by rw [hs]; rfl)] at HSN
     have g4 : getN dt 4 = numOf dt.data.toList := if_pos hs
     rw [g4, decide_eq_true hs]
     unfold lessK at HSN
     rw [if_neg (by decide), if_pos rfl] at HSN
     unfold rightOrF at HSN
     rw [if_pos (by unfold okC cfgOk; dsimp only; rw [y1, within_nat hlt4, y3]; rfl)] at HSN
     go_wp2_with (first | (go_at_call 72; refine (unhide CI _ _).mono ?_; rintro e w4 ⟨rfl, hw4⟩; replace hw4 := hw4.symm; subst hw4))
     go_roundw
     case rel => exact ⟨i + 1, by omega, by go_num, by rw [unhide HSN]; exact (unhide HV1).put 1 (.int .i64 (numOf dt.data.toList : Nat)) rfl⟩
     case measure => simp [intOf]; omega
    ·rw [if_neg (by intro e; have e2 := Option.some.inj (show some 4 = some dt.size from e); omega)] at HSN
     rw [decide_eq_false hs]
     go_wp2_with (first | (go_at_call 72; refine (unhide CI _ _).mono ?_; rintro e w4 ⟨rfl, hw4⟩; replace hw4 := hw4.symm; subst hw4))
     go_roundw
     case rel => exact ⟨i + 1, by omega, by go_num, by rw [unhide HSN]; exact unhide HV1⟩
     case measure => simp [intOf]; omega
   by_cases hk5 : kd = 5
   ·subst hk5
    by_cases hs : dt.size = 4
    ·have hlt4 := numOf_lt4 dt.data.toList (by rw [len_dat]; omega)
     rw [if_pos (by rw [hs]; rfl)] at HSN
     have g4 : getN dt 4 = numOf dt.data.toList := if_pos hs
     rw [g4, decide_eq_true hs]
     unfold lessK at HSN
     rw [if_neg (by decide), if_neg (by decide), if_pos rfl] at HSN
     unfold rightOrF at HSN
     rw [if_pos (by unfold okC cfgOk; dsimp only; rw [y1, y2, within_nat hlt4]; rfl)] at HSN
     go_wp2_with (first | (go_at_call 72; refine (unhide CI _ _).mono ?_; rintro e w4 ⟨rfl, hw4⟩; replace hw4 := hw4.symm; subst hw4))
     go_roundw
     case rel => exact ⟨i + 1, by omega, by go_num, by rw [unhide HSN]; exact (unhide HV1).put 2 (.int .i64 (numOf dt.data.toList : Nat)) rfl⟩
     case measure => simp [intOf]; omega
    ·rw [if_neg (by intro e; have e2 := Option.some.inj (show some 4 = some dt.size from e); omega)] at HSN
     rw [decide_eq_false hs]
     go_wp2_with (first | (go_at_call 72; refine (unhide CI _ _).mono ?_; rintro e w4 ⟨rfl, hw4⟩; replace hw4 := hw4.symm; subst hw4))
     go_roundw
     case rel => exact ⟨i + 1, by omega, by go_num, by rw [unhide HSN]; exact unhide HV1⟩
     case measure => simp [intOf]; omega
   by_cases hk7 : kd = 7
   ·subst hk7
    have HSN2 : Hid (lessF x (F.take (i + 1)) = y) := by
     refine hide ((unhide HSN).trans ?_)
     rw [lessK_7, rightOrF_self, ite_self]
    go_wp2_with (first | (go_at_call 72; refine (unhide CI _ _).mono ?_; rintro e w4 ⟨rfl, hw4⟩; replace hw4 := hw4.symm; subst hw4))
    go_roundw
    case rel => exact ⟨i + 1, by omega, by go_num, by rw [unhide HSN2]; exact unhide HV1⟩
    case measure => simp [intOf]; omega
   by_cases hk8 : kd = 8
   ·subst hk8
    have HSN2 : Hid (lessF x (F.take (i + 1)) = y) := by
     refine hide ((unhide HSN).trans ?_)
     rw [lessK_8, rightOrF_self, ite_self]
    go_wp2_with (first | (go_at_call 72; refine (unhide CI _ _).mono ?_; rintro e w4 ⟨rfl, hw4⟩; replace hw4 := hw4.symm; subst hw4))
    go_roundw
    case rel => exact ⟨i + 1, by omega, by go_num, by rw [unhide HSN2]; exact unhide HV1⟩
    case measure => simp [intOf]; omega
   by_cases hk9 : kd = 9
   ·subst hk9
    cases h4 : (dt.toList == [2])
    ·have HSN2 : Hid (lessF x (F.take (i + 1)) = y) := by
      refine hide ((unhide HSN).trans ?_)
      by_cases hs : dt.size = 1
      ·rw [if_pos (by rw [hs]; rfl)]
       have hb : (((numOf dt.data.toList : Nat) : Int) != 2) = true := by unfold bne; rw [num_two dt hs, h4]; rfl
       rw [lessK_9, hb, Bool.and_true]
       exact rightOrF_self y
      ·rw [if_neg (by intro e; have e2 := Option.some.inj (show some 1 = some dt.size from e); omega)]
     go_wp2_with (first | (go_at_call 72; refine (unhide CI _ _).mono ?_; rintro e w4 ⟨rfl, hw4⟩; replace hw4 := hw4.symm; subst hw4))
     go_roundw
     case rel => exact ⟨i + 1, by omega, by go_num, by rw [unhide HSN2]; exact unhide HV1⟩
     case measure => simp [intOf]; omega
    ·have hs : dt.size = 1 := by
      have := eq_of_beq h4
      rw [ByteArray.toList_eq] at this
      have h5 := congrArg List.length this
      rw [Array.length_toList] at h5
      exact h5
     rw [if_pos (by rw [hs]; rfl)] at HSN
     have hb : (((numOf dt.data.toList : Nat) : Int) != 2) = false := by unfold bne; rw [num_two dt hs, h4]; rfl
     rw [lessK_9, hb, Bool.and_false] at HSN
     unfold rightOrF at HSN
     rw [if_pos (by unfold okC cfgOk; dsimp only; rw [y1, y2, y3]; rfl)] at HSN
     go_wp2_with (first | (go_at_call 72; refine (unhide CI _ _).mono ?_; rintro e w4 ⟨rfl, hw4⟩; replace hw4 := hw4.symm; subst hw4))
     go_roundw
     case rel => exact ⟨i + 1, by omega, by go_num, by rw [unhide HSN]; exact (unhide HV1).put 5 (.bool false) rfl⟩
     case measure => simp [intOf]; omega
   have e1 : (kd == 1) = false := beq_eq_false_iff_ne.2 hk1
   have e2 : (kd == 2) = false := beq_eq_false_iff_ne.2 hk2
   have e5 : (kd == 5) = false := beq_eq_false_iff_ne.2 hk5
   have e9 : (kd == 9) = false := beq_eq_false_iff_ne.2 hk9
   have HSN2 : Hid (lessF x (F.take (i + 1)) = y) := by
    refine hide ((unhide HSN).trans ?_)
    rw [lessK_no hk1 hk2 hk5 hk9, rightOrF_self, ite_self]
   go_wp2_with (first | (go_at_call 72; refine (unhide CI _ _).mono ?_; rintro e w4 ⟨rfl, hw4⟩; replace hw4 := hw4.symm; subst hw4))
   go_roundw
   case rel => exact ⟨i + 1, by omega, by go_num, by rw [unhide HSN2]; exact unhide HV1⟩
   case measure => simp [intOf]; omega
  ·have e : i = n := by omega
   subst e
   have d1 : ¬ ((i : Int) < (i : Int)) := by omega
   rw [unhide HTL, unhide HR] at hS
   obtain ⟨m0, m1, m2, m3, m4, m5⟩ := row6 hS.x
   obtain ⟨r0, r1, r2, r3, r4, r5⟩ := row6 hS.r
   obtain ⟨f0, f1, f2, f3, f4, f5⟩ := row6g hS.r
   have HS := hide hS
   clear hS HAT HFO HTL HR HOK
   go_wp2
   exact bodyPost_ret (v := .agg (cfC R)) (by simp [results, Tryz.results97, asAddr, loadC (set6_at (unhide HS).r (.int .i64 R.m) (.int .i64 R.a) (.int .i64 R.g) (.bool R.p) (.bool R.c) (.bool R.d))]) rfl ⟨rfl, set6_below (unhide HS).b (by omega) _ _ _ _ _ _⟩
set_option maxHeartbeats 8000000 in
set_option maxRecDepth 100000 in
theorem specWithout (x : Cf) (v : Value) (F : List Op.Opt) (w : World) (hx : okC x = true) (hr : Op.right F = true) (h : HoldsO w v F) :
  Calls Tryz.prog 98 #[.agg (cfC x), v] w fun e w' => e = .returned (.agg (cfC (woF x F))) ∧ Below w.heap.size w w' := by
 have hFl := Op.right_len hr
 have C0 := hide fun W => specCfg (x.m : Int) x.a x.g x.p x.c x.d W
 have C1 := hide fun W (hb : Below w.heap.size w W) => specRightAll v F W (by unfold maxLen; omega) (h.below hb rfl)
 rw [show cfgOk (x.m : Int) x.a x.g = true from hx] at C0
 rw [hr] at C1
 have HFO := hide (Op.right_all hr)
 have HAT := hide fun i hi => h.at i hi
 have HOK := hide hx
 obtain ⟨ad, cp, rfl⟩ := h.form
 obtain ⟨n, hn⟩ : ∃ n, F.length = n := ⟨_, rfl⟩
 obtain ⟨_, hA, hR, hb⟩ := start2r w (.cells (cfC x) 24) (.cells #[.int .i64 0, .int .i64 0, .int .i64 0, .bool false, .bool false, .bool false] 24)
 have H0 := hide (And.intro hA (And.intro hR hb))
 clear h hr hA hR hb hx
 have HTL : Hid (F.take n = F) := hide (List.take_of_length_le (by omega))
 obtain ⟨R, hR⟩ : ∃ R, woF x F = R := ⟨_, rfl⟩
 rw [hR]
 have HR := hide hR
 clear hR
 have hx0 : woF x (F.take 0) = x := rfl
 rw [hn] at C1 ⊢
 go_enter Tryz.func98, Tryz.ntmps98
 go_wp2_with fail
 refine (unhide C0 _).mono ?_
 rintro e w1 ⟨rfl, hb1⟩
 have hA1 := (hb1.block w.heap.size (by simp; omega)).trans (unhide H0).1
 have hR1 := (hb1.block (w.heap.size + 1) (by simp)).trans (unhide H0).2.1
 have hB1 := (unhide H0).2.2.trans (hb1.mono (unhide H0).2.2.size)
 have H1 := hide (And.intro hA1 (And.intro hR1 hB1))
 clear hA1 hR1 hB1 hb1 H0 C0
 go_wp2_with fail
 refine (unhide C1 _ (unhide H1).2.2).mono ?_
 rintro e w2 ⟨rfl, hb2⟩
 have hI : CfQ w (woF x (F.take 0)) w2 := by
  rw [hx0]
  exact ⟨(hb2.block w.heap.size (Array.getElem?_eq_some_iff.1 (unhide H1).1).1).trans (unhide H1).1, (hb2.block (w.heap.size + 1) (Array.getElem?_eq_some_iff.1 (unhide H1).2.1).1).trans (unhide H1).2.1, (unhide H1).2.2.trans (hb2.mono (unhide H1).2.2.size)⟩
 have HI := hide hI
 clear hI hb2 H1 C1 hx0
 go_wp2_with fail
 go_loopw [5] (fun y wr => ∃ i : Nat, i ≤ n ∧ y = .int .i64 i ∧ CfQ w (woF x (F.take i)) wr) (fun y _ => n - (intOf y).toNat)
 case atStart => exact ⟨0, Nat.zero_le _, rfl, unhide HI⟩
 case round =>
  obtain ⟨i, hi, rfl, hS⟩ := hrel
  clear HI
  by_cases hlt : i < n
  ·have d1 : (i : Int) < (n : Int) := by omega
   have d0 : (0 : Int) ≤ (i : Int) := by omega
   obtain ⟨g, ⟨cp2, e2⟩, hgl, k0, k1⟩ := unhide HAT i (by omega)
   cases e2
   replace k0 := (hS.b.cell (p := ⟨g, i * 2, none⟩) hgl).trans k0
   replace k1 := (hS.b.cell (p := ⟨g, i * 2 + 1, none⟩) hgl).trans k1
   have HSN := hide (woF_snoc x F i (by omega))
   have hok := unhide HFO _ (List.getElem_mem (show i < F.length by omega))
   generalize F[i]'(by omega) = o at *
   obtain ⟨kd, dt⟩ := o
   dsimp only at k0 k1
   generalize woF x (F.take i) = y at *
   have hds : dt.size ≤ 20 := by unfold Op.ok at hok; have := of_decide_eq_true hok; exact this.2.2
   have HS := hide hS
   clear hS HAT HFO hok HOK
   rw [show woK (Op.Opt.mk kd dt).kind y = woK kd y from rfl] at HSN
   obtain ⟨m0, m1, m2, m3, m4, m5⟩ := row6 (unhide HS).x
   obtain ⟨f0, f1, f2, f3, f4, f5⟩ := row6g (unhide HS).x
   have HV1 := HS
   by_cases hk1 : kd = 1
   ·subst hk1
    go_wp2_with fail
    go_roundw
    case rel => exact ⟨i + 1, by omega, by go_num, by rw [unhide HSN]; exact (unhide HV1).put 0 (.int .i64 300) rfl⟩
    case measure => simp [intOf]; omega
   by_cases hk2 : kd = 2
   ·subst hk2
    go_wp2_with fail
    go_roundw
    case rel => exact ⟨i + 1, by omega, by go_num, by rw [unhide HSN]; exact (unhide HV1).put 1 (.int .i64 4294967295) rfl⟩
    case measure => simp [intOf]; omega
   by_cases hk5 : kd = 5
   ·subst hk5
    go_wp2_with fail
    go_roundw
    case rel => exact ⟨i + 1, by omega, by go_num, by rw [unhide HSN]; exact (unhide HV1).put 2 (.int .i64 0) rfl⟩
    case measure => simp [intOf]; omega
   by_cases hk7 : kd = 7
   ·subst hk7
    go_wp2_with fail
    go_roundw
    case rel => exact ⟨i + 1, by omega, by go_num, by rw [unhide HSN]; exact (unhide HV1).put 3 (.bool false) rfl⟩
    case measure => simp [intOf]; omega
   by_cases hk8 : kd = 8
   ·subst hk8
    go_wp2_with fail
    go_roundw
    case rel => exact ⟨i + 1, by omega, by go_num, by rw [unhide HSN]; exact (unhide HV1).put 4 (.bool false) rfl⟩
    case measure => simp [intOf]; omega
   by_cases hk9 : kd = 9
   ·subst hk9
    go_wp2_with fail
    go_roundw
    case rel => exact ⟨i + 1, by omega, by go_num, by rw [unhide HSN]; exact (unhide HV1).put 5 (.bool false) rfl⟩
    case measure => simp [intOf]; omega
   have e1 : (kd == 1) = false := beq_eq_false_iff_ne.2 hk1
   have e2 : (kd == 2) = false := beq_eq_false_iff_ne.2 hk2
   have e5 : (kd == 5) = false := beq_eq_false_iff_ne.2 hk5
   have e7 : (kd == 7) = false := beq_eq_false_iff_ne.2 hk7
   have e8 : (kd == 8) = false := beq_eq_false_iff_ne.2 hk8
   have e9 : (kd == 9) = false := beq_eq_false_iff_ne.2 hk9
   have HSN2 : Hid (woF x (F.take (i + 1)) = y) := by
    refine hide ((unhide HSN).trans ?_)
    unfold woK
    rw [if_neg hk1, if_neg hk2, if_neg hk5, if_neg hk7, if_neg hk8, if_neg hk9]
   go_wp2_with fail
   go_roundw
   case rel => exact ⟨i + 1, by omega, by go_num, by rw [unhide HSN2]; exact unhide HV1⟩
   case measure => simp [intOf]; omega
  ·have e : i = n := by omega
   subst e
   have d1 : ¬ ((i : Int) < (i : Int)) := by omega
   rw [unhide HTL, unhide HR] at hS
   obtain ⟨m0, m1, m2, m3, m4, m5⟩ := row6 hS.x
   obtain ⟨r0, r1, r2, r3, r4, r5⟩ := row6 hS.r
   obtain ⟨f0, f1, f2, f3, f4, f5⟩ := row6g hS.r
   have HS := hide hS
   clear hS HAT HFO HTL HR HOK
   go_wp2
   exact bodyPost_ret (v := .agg (cfC R)) (by simp [results, Tryz.results98, asAddr, loadC (set6_at (unhide HS).r (.int .i64 R.m) (.int .i64 R.a) (.int .i64 R.g) (.bool R.p) (.bool R.c) (.bool R.d))]) rfl ⟨rfl, set6_below (unhide HS).b (by omega) _ _ _ _ _ _⟩
end Go.Proofs.YtahpjlbaagkdoaaGreatDoor
