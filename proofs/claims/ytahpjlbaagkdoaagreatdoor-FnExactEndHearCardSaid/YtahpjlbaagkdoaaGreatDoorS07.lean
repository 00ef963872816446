/- The program's LineOf; what lay in memory stands. An End as a value, and its cells; are two Ends the same, by the law's eqEnd; what lay in memory stands. -/
import Derived.Test.YtahpjlbaagkdoaaGreatDoorS06
import Derived.Test.YtahpjlbaagkdoaaGreatDoorS04
import Derived.Deep.DeepCutAuto
import Derived.Test.YtahpjlbaagkdoaaGreatDoorShW
namespace Go.Proofs.YtahpjlbaagkdoaaGreatDoor
open Go.RowKit
structure LnS (w : World) (X M : Nat) (x : Ln) (q : World) : Prop where
 r : q.heap[w.heap.size]? = some (.cells #[.int .i64 0, .int .i64 0, .bool false, .bool false, .bool false] 27)
 x : q.heap[X]? = some (.cells (lnC x) 27)
 m : q.heap[M]? = some (.map rules 6)
 b : Below w.heap.size w q
theorem LnS.step {w : World} {X M : Nat} {x : Ln} {q q' : World} (h : LnS w X M x q) (hb : Below q.heap.size q q') : LnS w X M x q' :=
 ⟨(hb.block _ (Array.getElem?_eq_some_iff.1 h.r).1).trans h.r, (hb.block _ (Array.getElem?_eq_some_iff.1 h.x).1).trans h.x, (hb.block _ (Array.getElem?_eq_some_iff.1 h.m).1).trans h.m, h.b.trans (hb.mono h.b.size)⟩
theorem row5x {w : World} {B : Nat} {x0 x1 x2 x3 x4 : Value} {T : TypeId} (h : w.heap[B]? = some (.cells #[x0, x1, x2, x3, x4] T)) :
  w.cell? ⟨B, 0, none⟩ = some x0 ∧ w.cell? ⟨B, 1, none⟩ = some x1 ∧ w.cell? ⟨B, 2, none⟩ = some x2 ∧ w.cell? ⟨B, 3, none⟩ = some x3 ∧ w.cell? ⟨B, 4, none⟩ = some x4 ∧ w.frozen? ⟨B, 0, none⟩ = false ∧ w.frozen? ⟨B, 1, none⟩ = false ∧ w.frozen? ⟨B, 2, none⟩ = false ∧ w.frozen? ⟨B, 3, none⟩ = false ∧ w.frozen? ⟨B, 4, none⟩ = false :=
 ⟨by rw [cell_of_row _ _ _ _ _ _ h]; rfl, by rw [cell_of_row _ _ _ _ _ _ h]; rfl, by rw [cell_of_row _ _ _ _ _ _ h]; rfl, by rw [cell_of_row _ _ _ _ _ _ h]; rfl, by rw [cell_of_row _ _ _ _ _ _ h]; rfl, frz h _, frz h _, frz h _, frz h _, frz h _⟩
theorem infoL : (Tryz.prog.info? 27).map (·.size) = some 5 := by kernel_rfl
theorem loadL {W : World} {E : Nat} {x0 x1 x2 x3 x4 : Value} (h : W.heap[E]? = some (.cells #[x0, x1, x2, x3, x4] 27)) : (loadVar 27 ⟨E, 0, none⟩).run Tryz.prog W = .ok (.agg #[x0, x1, x2, x3, x4]) W :=
 run_loadVar_row (P := Tryz.prog) _ _ 27 27 #[x0, x1, x2, x3, x4] (0, 0) _ h Tryz.underlying27 rfl infoL
theorem set5_at {W : World} {E : Nat} {z0 z1 z2 z3 z4 : Value} {T : TypeId} (h : W.heap[E]? = some (.cells #[z0, z1, z2, z3, z4] T)) (x0 x1 x2 x3 x4 : Value) :
  (((((W.setCell ⟨E, 0, none⟩ x0).setCell ⟨E, 1, none⟩ x1).setCell ⟨E, 2, none⟩ x2).setCell ⟨E, 3, none⟩ x3).setCell ⟨E, 4, none⟩ x4).heap[E]? = some (.cells #[x0, x1, x2, x3, x4] T) :=
 heap_setCell_same _ _ 4 _ _ x4 (heap_setCell_same _ _ 3 _ _ x3 (heap_setCell_same _ _ 2 _ _ x2 (heap_setCell_same _ _ 1 _ _ x1 (heap_setCell_same _ _ 0 _ _ x0 h))))
theorem set5_below {n : Nat} {w W : World} {E : Nat} (h : Below n w W) (hE : n ≤ E) (x0 x1 x2 x3 x4 : Value) : Below n w (((((W.setCell ⟨E, 0, none⟩ x0).setCell ⟨E, 1, none⟩ x1).setCell ⟨E, 2, none⟩ x2).setCell ⟨E, 3, none⟩ x3).setCell ⟨E, 4, none⟩ x4) :=
 ((((h.setCell (p := ⟨E, 0, none⟩) hE _).setCell (p := ⟨E, 1, none⟩) hE _).setCell (p := ⟨E, 2, none⟩) hE _).setCell (p := ⟨E, 3, none⟩) hE _).setCell (p := ⟨E, 4, none⟩) hE _
theorem set5_other {W : World} {E g : Nat} (hg : g ≠ E) (x0 x1 x2 x3 x4 : Value) : (((((W.setCell ⟨E, 0, none⟩ x0).setCell ⟨E, 1, none⟩ x1).setCell ⟨E, 2, none⟩ x2).setCell ⟨E, 3, none⟩ x3).setCell ⟨E, 4, none⟩ x4).heap[g]? = W.heap[g]? := by
 rw [Below.heap_setCell _ _ _ _ hg, Below.heap_setCell _ _ _ _ hg, Below.heap_setCell _ _ _ _ hg, Below.heap_setCell _ _ _ _ hg, Below.heap_setCell _ _ _ _ hg]
theorem set5_cell {W : World} {E : Nat} (p : Addr) (hp : p.block ≠ E) (x0 x1 x2 x3 x4 : Value) : (((((W.setCell ⟨E, 0, none⟩ x0).setCell ⟨E, 1, none⟩ x1).setCell ⟨E, 2, none⟩ x2).setCell ⟨E, 3, none⟩ x3).setCell ⟨E, 4, none⟩ x4).cell? p = W.cell? p := by
 unfold World.cell?
 rw [set5_other hp]
theorem LnS.put {w : World} {X M : Nat} {x : Ln} {q : World} (h : LnS w X M x q) (h1 : w.heap.size < X) (h2 : M < X) (y : Ln) :
  LnS w X M y (((((q.setCell ⟨X, 0, none⟩ (.int .i64 y.m)).setCell ⟨X, 1, none⟩ (.int .i64 y.a)).setCell ⟨X, 2, none⟩ (.bool y.p)).setCell ⟨X, 3, none⟩ (.bool y.c)).setCell ⟨X, 4, none⟩ (.bool y.d)) :=
 ⟨(set5_other (by omega) _ _ _ _ _).trans h.r, set5_at h.x _ _ _ _ _, (set5_other (by omega) _ _ _ _ _).trans h.m, set5_below h.b (by omega) _ _ _ _ _⟩
theorem HoldsO.at {w : World} {v : Value} {F : List Op.Opt} (h : HoldsO w v F) (i : Nat) (hi : i < F.length) : ∃ g, (∃ cp, v = .slice (some ⟨g, 0, none⟩) F.length cp) ∧ g < w.heap.size ∧ w.cell? ⟨g, i * 2, none⟩ = some (.int .i64 F[i].kind) ∧ w.cell? ⟨g, i * 2 + 1, none⟩ = some (.string F[i].data) := by
 rcases h with ⟨_, _, _, e⟩ | ⟨g, cp, cur, e, q1, q2, q3⟩
 ·rw [e] at hi; exact absurd hi (Nat.not_lt_zero _)
 ·have hg := ocells_get F i _ (List.getElem?_eq_getElem hi)
  exact ⟨g, ⟨cp, e⟩, (Array.getElem?_eq_some_iff.1 q1).1, by rw [cell_of_row _ _ _ _ _ _ q1, q3 _ (by omega)]; exact hg.1, by rw [cell_of_row _ _ _ _ _ _ q1, q3 _ (by omega)]; exact hg.2⟩
set_option maxHeartbeats 4000000 in
set_option maxRecDepth 100000 in
theorem implLine (v : Value) (F : List Op.Opt) (w : World) (hm : F.length ≤ maxLen) (h : HoldsO w v F) :
  Calls Tryz.prog 114 #[v] w fun e w' => e = .returned (.agg (lnC (lineOf F))) ∧ Below w.heap.size w w' := by
 have C1 := hide fun W (hb : Below w.heap.size w W) => implRightAll v F W hm (h.below hb rfl)
 unfold lineOf
 cases hr : Op.right F
 ·rw [if_neg (by decide)]
  rw [hr] at C1
  obtain ⟨ad, cp, rfl⟩ := h.form
  have hb0 : Below w.heap.size w (w.alloc (.cells #[.int .i64 0, .int .i64 0, .bool false, .bool false, .bool false] 27)) := (Below.refl _ _).alloc (Nat.le_refl _) _
  have hr0 := heap_alloc_new w (.cells #[.int .i64 0, .int .i64 0, .bool false, .bool false, .bool false] 27)
  have H0 := hide (And.intro hr0 hb0)
  clear hr0 hb0 h
  go_enter Tryz.func114, Tryz.ntmps114
  go_wp2_with fail
  refine (unhide C1 _ (unhide H0).2).mono ?_
  rintro e w1 ⟨rfl, hb1⟩
  have hr1 := (hb1.block w.heap.size (by simp)).trans (unhide H0).1
  have hB1 := (unhide H0).2.trans (hb1.mono (unhide H0).2.size)
  obtain ⟨r0, r1, r2, r3, r4, f0, f1, f2, f3, f4⟩ := row5x hr1
  have H1 := hide (And.intro hr1 hB1)
  clear hr1 hB1 hb1 H0 C1
  go_wp2
  refine bodyPost_ret (v := .agg #[.int .i64 0, .int .i64 0, .bool false, .bool false, .bool false]) (by simp [results, Tryz.results114, asAddr, loadL (set5_at (unhide H1).1 (.int .i64 0) (.int .i64 0) (.bool false) (.bool false) (.bool false))]) rfl ⟨rfl, set5_below (unhide H1).2 (Nat.le_refl _) _ _ _ _ _⟩
 ·rw [if_pos rfl]
  rw [hr] at C1
  have hFl := Op.right_len hr
  have HFO := hide (Op.right_all hr)
  have HAT := hide fun i hi => h.at i hi
  obtain ⟨ad, cp, rfl⟩ := h.form
  obtain ⟨n, hn⟩ : ∃ n, F.length = n := ⟨_, rfl⟩
  have hb0 : Below w.heap.size w (w.alloc (.cells #[.int .i64 0, .int .i64 0, .bool false, .bool false, .bool false] 27)) := (Below.refl _ _).alloc (Nat.le_refl _) _
  have hr0 := heap_alloc_new w (.cells #[.int .i64 0, .int .i64 0, .bool false, .bool false, .bool false] 27)
  have H0 := hide (And.intro hr0 hb0)
  clear hr0 hb0 h hr
  have HTL : Hid (F.take n = F) := hide (List.take_of_length_le (by omega))
  obtain ⟨R, hR⟩ : ∃ R, lineF F = R := ⟨_, rfl⟩
  rw [hR]
  have HR := hide hR
  clear hR
  rw [hn] at C1 ⊢
  go_enter Tryz.func114, Tryz.ntmps114
  go_wp2_with fail
  refine (unhide C1 _ (unhide H0).2).mono ?_
  rintro e w1 ⟨rfl, hb1⟩
  have hr1 := (hb1.block w.heap.size (by simp)).trans (unhide H0).1
  have hB1 := (unhide H0).2.trans (hb1.mono (unhide H0).2.size)
  have H1 := hide (And.intro hr1 hB1)
  clear hr1 hB1 hb1 H0 C1
  go_wp2_with fail
  refine (optionRules _).mono ?_
  rintro e w2 ⟨rfl, hm2, hb2⟩
  have hI : LnS w w2.heap.size w1.heap.size (lineF (F.take 0)) (w2.alloc (.cells #[.int .i64 300, .int .i64 4294967295, .bool false, .bool false, .bool false] 27)) := by
   have hl1 := (Array.getElem?_eq_some_iff.1 (unhide H1).1).1
   have hl2 := (Array.getElem?_eq_some_iff.1 hm2).1
   have hr2 := (hb2.block w.heap.size hl1).trans (unhide H1).1
   have hB2 := (unhide H1).2.trans (hb2.mono (unhide H1).2.size)
   have hs2 := hb2.size
   exact ⟨(Below.heap_alloc _ _ _ (by omega)).trans hr2, heap_alloc_new w2 _, (Below.heap_alloc _ _ _ hl2).trans hm2, hB2.alloc hB2.size _⟩
  have hX : w.heap.size < w2.heap.size ∧ w1.heap.size < w2.heap.size := ⟨Nat.lt_of_lt_of_le (Array.getElem?_eq_some_iff.1 (unhide H1).1).1 hb2.size, (Array.getElem?_eq_some_iff.1 hm2).1⟩
  have HI := hide hI
  clear hI hm2 hb2 H1
  obtain ⟨hX1, hX2⟩ := hX
  go_wp2_with fail
  generalize w1.heap.size = M at *
  generalize w2.heap.size = X at *
  go_loopw [17] (fun y wr => ∃ i : Nat, i ≤ n ∧ y = .int .i64 i ∧ LnS w X M (lineF (F.take i)) wr) (fun y _ => n - (intOf y).toNat)
  case atStart => exact ⟨0, Nat.zero_le _, rfl, unhide HI⟩
  case round =>
   obtain ⟨i, hi, rfl, hS⟩ := hrel
   clear HI
   by_cases hlt : i < n
   ·have d1 : (i : Int) < (n : Int) := by omega
    have d0 : (0 : Int) ≤ (i : Int) := by omega
    obtain ⟨g, ⟨cp2, e2⟩, hgl, k0, k1⟩ := unhide HAT i (by omega)
    cases e2
    replace k0 := (hS.b.cell (p := ⟨g, i * 2, none⟩) hgl).trans k0
    replace k1 := (hS.b.cell (p := ⟨g, i * 2 + 1, none⟩) hgl).trans k1
    have HSN := hide (lineF_snoc F i (by omega))
    have hok := unhide HFO _ (List.getElem_mem (show i < F.length by omega))
    generalize F[i]'(by omega) = o at *
    obtain ⟨kd, dt⟩ := o
    dsimp only at k0 k1
    generalize lineF (F.take i) = x at *
    have hds : dt.size ≤ 20 := by unfold Op.ok at hok; have := of_decide_eq_true hok; exact this.2.2
    have HS := hide hS
    clear hS HAT HFO hok
    go_upto_region 8 with fail
    refine gen_world (fun q => LnS w X M x q ∧ q.heap[wr.heap.size]? = some (.cells #[.int .i64 kd, .string dt] 116))
     ⟨(unhide HS).step ((Below.refl _ _).alloc (Nat.le_refl _) _), heap_alloc_new wr _⟩ ?_
    rintro q1 ⟨hS1, hO1⟩
    have hN1 : X < wr.heap.size := (Array.getElem?_eq_some_iff.1 (unhide HS).x).1
    generalize wr.heap.size = N1 at *
    have hl1 : N1 < q1.heap.size := (Array.getElem?_eq_some_iff.1 hO1).1
    obtain ⟨c0, c1, _, _⟩ := row2x hO1
    have HV1 := hide (And.intro hS1 hO1)
    clear hO1 HS k0 k1
    unfold lnOne at HSN
    dsimp only at HSN
    rcases ln_row kd with ⟨s, f, f2, f3, f4, f5, j, hs, hJ⟩ | ⟨hs, hf⟩
    ·have CR := hide (ruleOf_yes M kd dt s f f2 f3 f4 f5 j q1 hS1.m hJ.fd)
     have hcf := hJ.cf
     have HJL := hide hJ.ln
     have h4 := sizeK_le hs
     clear hS1 hJ
     go_wp2_with fail
     refine (unhide CR).mono ?_
     rintro e w3 ⟨rfl, hb3⟩
     have HV3 := hide (And.intro ((unhide HV1).1.step hb3) ((hb3.block N1 hl1).trans (unhide HV1).2))
     have hl3 : N1 < w3.heap.size := Nat.lt_of_lt_of_le hl1 hb3.size
     clear hb3 HV1 hl1 c0 c1 CR
     cases hq : ((dt.size : Int) == (s : Int))
     ·have hne : ¬ (sizeK kd = some dt.size) := fun e => by
       rw [hs] at e
       cases e
       rw [beq_self_eq_true] at hq
       cases hq
      rw [if_neg hne] at HSN
      go_wp2_with fail
      go_roundw
      case rel => exact ⟨i + 1, by omega, by go_num, by rw [unhide HSN]; exact (unhide HV3).1.step ((Below.refl _ _).alloc (Nat.le_refl _) _)⟩
      case measure => simp [intOf]; omega
     ·have hes : dt.size = s := by have := eq_of_beq hq; omega
      rw [if_pos (by rw [hs, hes])] at HSN
      have CN := hide fun v => numberOf kd dt v (by omega)
      have hnx := numOf_lt4 dt.data.toList (by rw [len_dat]; omega)
      have HJ2 := hide fun v => unhide HJL x (numOf dt.data.toList) v
      generalize numOf dt.data.toList = nx at *
      clear HJL
      go_upto_region 10 with fail
      refine gen_world (fun q => LnS w X M x q ∧ q.heap[N1]? = some (.cells #[.int .i64 kd, .string dt] 116) ∧ q.heap[w3.heap.size]? = some (.cells #[.int .i64 s, fnV f, fnV f2, fnV f3, fnV f4, fnV f5] 185))
       ⟨(unhide HV3).1.step ((Below.refl _ _).alloc (Nat.le_refl _) _), (Below.heap_alloc _ _ _ hl3).trans (unhide HV3).2, heap_alloc_new w3 _⟩ ?_
      rintro q4 ⟨hS4, hO4, hR4⟩
      have hN2 : X < w3.heap.size := by omega
      generalize w3.heap.size = N2 at *
      obtain ⟨c0, c1, _, _⟩ := row2x hO4
      obtain ⟨_, _, _, _, _, r5⟩ := row6 hR4
      have HV4 := hide (And.intro hS4 (And.intro hO4 hR4))
      clear hS4 hO4 hR4 HV3
      refine wp_region_held_drew (S := fun z => z.cell? ⟨N1, 0, none⟩ = some (.int .i64 kd) ∧ z.cell? ⟨N1, 1, none⟩ = some (.string dt) ∧ z.cell? ⟨N2, 5, none⟩ = some (fnV f5)) (by kernel_rfl) ?_ (fun hHeld => ?_)
      ·exact ⟨c0, c1, r5⟩
      refine tk 0 (v := ?va0) rfl ?hya0 ?_
      case hya0 => intro w hSw; (try dsimp only at hSw); go_simp; try with_reducible rfl
      try simp only [Act.put, sA, sZ, sS, gA, gZ]
      refine tk 1 (v := ?va1) rfl ?hya1 ?_
      case hya1 => intro w hSw; (try dsimp only at hSw); go_simp; try with_reducible rfl
      try simp only [Act.put, sA, sZ, sS, gA, gZ, gS]
      refine tk 3 (v := ?va3) rfl ?hya3 ?_
      case hya3 => intro w hSw; (try dsimp only at hSw); go_simp; try with_reducible rfl
      try simp only [Act.put, sA, sZ, sS, gA, gZ, gS]
      refine wpAnyH_ready (rs := [2, 4]) (by kernel_rfl) (by simp) ?_
      have hn1 : N1 < q4.heap.size := (Array.getElem?_eq_some_iff.1 (unhide HV4).2.1).1
      have hn2 : N2 < q4.heap.size := (Array.getElem?_eq_some_iff.1 (unhide HV4).2.2).1
      refine AllReadyH.cons rfl (fun K hK => ?_) (AllReadyH.cons rfl (fun K hK => ?_) AllReadyH.nil)
      ·obtain ⟨m0, m1, m2, m3, m4, _, _, _, _, _⟩ := row5x (unhide HV4).1.x
       go_simp
       refine hK.out _ _ ?_ (fun hHeld2 => ?_)
       ·exact ⟨c0, c1, r5⟩
       clear hK K m0 m1 m2 m3 m4
       try simp only [Act.put, sA, sZ, sS, gA, gZ, gS]
       refine r1 4 rfl (fun K hK => ?_)
       go_simp
       refine (unhide CN _).mono ?_
       rintro e w5 ⟨rfl, hb5⟩
       have B5 : Below q4.heap.size q4 w5 := (Below.refl _ _).drew.trans hb5
       go_wp2_with fail
       refine hK.out _ _ ?_ (fun hHeld3 => ?_)
       ·exact ⟨(B5.cell (p := ⟨N1, 0, none⟩) hn1).trans c0, (B5.cell (p := ⟨N1, 1, none⟩) hn1).trans c1, (B5.cell (p := ⟨N2, 5, none⟩) hn2).trans r5⟩
       clear hK K
       try simp only [Act.put, sA, sZ, sS, gA, gZ, gS]
       refine r1 5 rfl (fun K hK => ?_)
       go_simp
       refine (unhide HJ2 _).mono ?_
       rintro e w6 ⟨rfl, hb6⟩
       have B6 : Below q4.heap.size q4 w6 := B5.trans (hb6.mono B5.size)
       have h6 := (unhide HV4).1.step B6
       go_wp2_with fail
       refine hK.out _ _ ?_ (fun hHeld4 => ?_)
       ·exact ⟨(B6.cell (p := ⟨N1, 0, none⟩) hn1).trans c0, (B6.cell (p := ⟨N1, 1, none⟩) hn1).trans c1, (B6.cell (p := ⟨N2, 5, none⟩) hn2).trans r5⟩
       clear hK K
       try simp only [Act.put, sA, sZ, sS, gA, gZ, gS]
       refine r1 6 rfl (fun K hK => ?_)
       obtain ⟨m0, m1, m2, m3, m4, f0, f1', f2', f3', f4'⟩ := row5x h6.x
       have HL := hide (h6.put hX1 hX2 (lnK kd x nx))
       have n1X : N1 ≠ X := by omega
       have n2X : N2 ≠ X := by omega
       go_simp
       refine hK.out _ _ ?_ (fun hHeld5 => ?_)
       ·have T := fun p (hp : p.block ≠ X) => set5_cell (W := w6) (E := X) p hp (.int .i64 (lnK kd x nx).m) (.int .i64 (lnK kd x nx).a) (.bool (lnK kd x nx).p) (.bool (lnK kd x nx).c) (.bool (lnK kd x nx).d)
        exact ⟨(T ⟨N1, 0, none⟩ n1X).trans ((B6.cell (p := ⟨N1, 0, none⟩) hn1).trans c0), (T ⟨N1, 1, none⟩ n1X).trans ((B6.cell (p := ⟨N1, 1, none⟩) hn1).trans c1), (T ⟨N2, 5, none⟩ n2X).trans ((B6.cell (p := ⟨N2, 5, none⟩) hn2).trans r5)⟩
       clear hK K
       try simp only [Act.put, sA, sZ, sS, gA, gZ, gS]
       refine wpAnyH_done (by kernel_rfl) ?_ _
       go_wp2_with fail
       go_roundw
       case rel => exact ⟨i + 1, by omega, by go_num, by rw [unhide HSN]; exact unhide HL⟩
       case measure => simp [intOf]; omega
      ·go_simp
       refine (unhide CN _).mono ?_
       rintro e w5 ⟨rfl, hb5⟩
       have B5 : Below q4.heap.size q4 w5 := (Below.refl _ _).drew.trans hb5
       go_wp2_with fail
       refine hK.out _ _ ?_ (fun hHeld2 => ?_)
       ·exact ⟨(B5.cell (p := ⟨N1, 0, none⟩) hn1).trans c0, (B5.cell (p := ⟨N1, 1, none⟩) hn1).trans c1, (B5.cell (p := ⟨N2, 5, none⟩) hn2).trans r5⟩
       clear hK K
       try simp only [Act.put, sA, sZ, sS, gA, gZ, gS]
       refine r1 2 rfl (fun K hK => ?_)
       obtain ⟨m0, m1, m2, m3, m4, _, _, _, _, _⟩ := row5x ((unhide HV4).1.step B5).x
       go_simp
       refine hK.out _ _ ?_ (fun hHeld3 => ?_)
       ·exact ⟨(B5.cell (p := ⟨N1, 0, none⟩) hn1).trans c0, (B5.cell (p := ⟨N1, 1, none⟩) hn1).trans c1, (B5.cell (p := ⟨N2, 5, none⟩) hn2).trans r5⟩
       clear hK K m0 m1 m2 m3 m4
       try simp only [Act.put, sA, sZ, sS, gA, gZ, gS]
       refine r1 5 rfl (fun K hK => ?_)
       go_simp
       refine (unhide HJ2 _).mono ?_
       rintro e w6 ⟨rfl, hb6⟩
       have B6 : Below q4.heap.size q4 w6 := B5.trans (hb6.mono B5.size)
       have h6 := (unhide HV4).1.step B6
       go_wp2_with fail
       refine hK.out _ _ ?_ (fun hHeld4 => ?_)
       ·exact ⟨(B6.cell (p := ⟨N1, 0, none⟩) hn1).trans c0, (B6.cell (p := ⟨N1, 1, none⟩) hn1).trans c1, (B6.cell (p := ⟨N2, 5, none⟩) hn2).trans r5⟩
       clear hK K
       try simp only [Act.put, sA, sZ, sS, gA, gZ, gS]
       refine r1 6 rfl (fun K hK => ?_)
       obtain ⟨m0, m1, m2, m3, m4, f0, f1', f2', f3', f4'⟩ := row5x h6.x
       have HL := hide (h6.put hX1 hX2 (lnK kd x nx))
       have n1X : N1 ≠ X := by omega
       have n2X : N2 ≠ X := by omega
       go_simp
       refine hK.out _ _ ?_ (fun hHeld5 => ?_)
       ·have T := fun p (hp : p.block ≠ X) => set5_cell (W := w6) (E := X) p hp (.int .i64 (lnK kd x nx).m) (.int .i64 (lnK kd x nx).a) (.bool (lnK kd x nx).p) (.bool (lnK kd x nx).c) (.bool (lnK kd x nx).d)
        exact ⟨(T ⟨N1, 0, none⟩ n1X).trans ((B6.cell (p := ⟨N1, 0, none⟩) hn1).trans c0), (T ⟨N1, 1, none⟩ n1X).trans ((B6.cell (p := ⟨N1, 1, none⟩) hn1).trans c1), (T ⟨N2, 5, none⟩ n2X).trans ((B6.cell (p := ⟨N2, 5, none⟩) hn2).trans r5)⟩
       clear hK K
       try simp only [Act.put, sA, sZ, sS, gA, gZ, gS]
       refine wpAnyH_done (by kernel_rfl) ?_ _
       go_wp2_with fail
       go_roundw
       case rel => exact ⟨i + 1, by omega, by go_num, by rw [unhide HSN]; exact unhide HL⟩
       case measure => simp [intOf]; omega
    ·have CR := hide (ruleOf_no M kd dt q1 hS1.m hf)
     rw [if_neg (by rw [hs]; intro e; cases e)] at HSN
     clear hS1 hf
     go_wp2_with fail
     refine (unhide CR).mono ?_
     rintro e w3 ⟨rfl, hb3⟩
     have HV3 := hide ((unhide HV1).1.step hb3)
     clear hb3 HV1 hl1 c0 c1 CR
     go_wp2_with fail
     go_roundw
     case rel => exact ⟨i + 1, by omega, by go_num, by rw [unhide HSN]; exact (unhide HV3).step ((Below.refl _ _).alloc (Nat.le_refl _) _)⟩
     case measure => simp [intOf]; omega
   ·have e : i = n := by omega
    subst e
    have d1 : ¬ ((i : Int) < (i : Int)) := by omega
    rw [unhide HTL, unhide HR] at hS
    obtain ⟨m0, m1, m2, m3, m4, _, _, _, _, _⟩ := row5x hS.x
    obtain ⟨r0, r1, r2, r3, r4, f0, f1, f2, f3, f4⟩ := row5x hS.r
    have HS := hide hS
    clear hS HAT HFO HTL HR
    go_wp2
    exact bodyPost_ret (v := .agg (lnC R)) (by simp [results, Tryz.results114, asAddr, loadL (set5_at (unhide HS).r (.int .i64 R.m) (.int .i64 R.a) (.bool R.p) (.bool R.c) (.bool R.d))]) rfl ⟨rfl, set5_below (unhide HS).b (Nat.le_refl _) _ _ _ _ _⟩
structure En where
 m1 : Int
 a1 : Int
 g1 : Int
 p1 : Bool
 c1 : Bool
 d1 : Bool
 m2 : Int
 a2 : Int
 g2 : Int
 p2 : Bool
 c2 : Bool
 d2 : Bool
 st : Int
 tr : Int
 du : Int
 id : Int
 fl : Int
 up : Bool
 i1 : Int
 i2 : Int
 i3 : Bool
 i4 : Bool
 i5 : Bool
 o1 : Int
 o2 : Int
 o3 : Bool
 o4 : Bool
 o5 : Bool
abbrev enC (e : En) (v1 v2 : Value) : Array Value := #[.int .i64 e.m1, .int .i64 e.a1, .int .i64 e.g1, .bool e.p1, .bool e.c1, .bool e.d1, .int .i64 e.m2, .int .i64 e.a2, .int .i64 e.g2, .bool e.p2, .bool e.c2, .bool e.d2, .int .i64 e.st, .int .i64 e.tr, .int .i64 e.du, .int .i64 e.id, .int .i64 e.fl, v1, v2, .bool e.up, .int .i64 e.i1, .int .i64 e.i2, .bool e.i3, .bool e.i4, .bool e.i5, .int .i64 e.o1, .int .i64 e.o2, .bool e.o3, .bool e.o4, .bool e.o5]
set_option maxHeartbeats 400000 in
theorem eqCfgE (m a g : Int) (p c d : Bool) (w : World) : Calls Tryz.prog 56 #[.agg #[.int .i64 m, .int .i64 a, .int .i64 g, .bool p, .bool c, .bool d], .agg #[.int .i64 m, .int .i64 a, .int .i64 g, .bool p, .bool c, .bool d]] w fun e w' => e = .returned (.bool true) ∧ Below w.heap.size w w' := by
 go_enter Tryz.func56, Tryz.ntmps56
 go_wp2
 go_ret
 exact ⟨rfl, ((Below.refl _ _).alloc (Nat.le_refl _) _).alloc (by simp) _⟩
set_option maxHeartbeats 400000 in
theorem eqLineE (m a : Int) (p c d : Bool) (w : World) : Calls Tryz.prog 58 #[.agg #[.int .i64 m, .int .i64 a, .bool p, .bool c, .bool d], .agg #[.int .i64 m, .int .i64 a, .bool p, .bool c, .bool d]] w fun e w' => e = .returned (.bool true) ∧ Below w.heap.size w w' := by
 go_enter Tryz.func58, Tryz.ntmps58
 go_wp2
 go_ret
 exact ⟨rfl, ((Below.refl _ _).alloc (Nat.le_refl _) _).alloc (by simp) _⟩
structure EqE (w : World) (cs ds : Array Value) (q : World) : Prop where
 a : q.heap[w.heap.size]? = some (.cells cs 29)
 b : q.heap[w.heap.size + 1]? = some (.cells ds 29)
 l : Below w.heap.size w q
theorem EqE.step {w : World} {cs ds : Array Value} {q q' : World} (h : EqE w cs ds q) (hb : Below q.heap.size q q') : EqE w cs ds q' :=
 ⟨(hb.block _ (Array.getElem?_eq_some_iff.1 h.a).1).trans h.a, (hb.block _ (Array.getElem?_eq_some_iff.1 h.b).1).trans h.b, h.l.trans (hb.mono h.l.size)⟩
set_option maxHeartbeats 4000000 in
set_option maxRecDepth 100000 in
theorem eqEndE (e : En) (x1 x2 x3 x4 : Option Addr) (y1 y2 y3 y4 : Nat) (F1 F2 : List Op.Opt) (w : World) (l1 : F1.length ≤ 2000000) (l2 : F2.length ≤ 2000000)
  (h1 : HoldsO w (.slice x1 F1.length y1) F1) (h2 : HoldsO w (.slice x2 F2.length y2) F2) (h3 : HoldsO w (.slice x3 F1.length y3) F1) (h4 : HoldsO w (.slice x4 F2.length y4) F2) :
  Calls Tryz.prog 20 #[.agg (enC e (.slice x1 F1.length y1) (.slice x2 F2.length y2)), .agg (enC e (.slice x3 F1.length y3) (.slice x4 F2.length y4))] w fun r w' => r = .returned (.bool true) ∧ Below w.heap.size w w' := by
 have C1 := hide fun W (hb : Below w.heap.size w W) => eqS _ _ F1 W l1 (h1.below hb rfl) (h3.below hb rfl)
 have C2 := hide fun W (hb : Below w.heap.size w W) => eqS _ _ F2 W l2 (h2.below hb rfl) (h4.below hb rfl)
 obtain ⟨m1, a1, g1, p1, c1, d1, m2, a2, g2, p2, c2, d2, st, tr, du, id, fl, up, i1, i2, i3, i4, i5, o1, o2, o3, o4, o5⟩ := e
 have hI : EqE w (enC ⟨m1, a1, g1, p1, c1, d1, m2, a2, g2, p2, c2, d2, st, tr, du, id, fl, up, i1, i2, i3, i4, i5, o1, o2, o3, o4, o5⟩ (.slice x1 F1.length y1) (.slice x2 F2.length y2)) (enC ⟨m1, a1, g1, p1, c1, d1, m2, a2, g2, p2, c2, d2, st, tr, du, id, fl, up, i1, i2, i3, i4, i5, o1, o2, o3, o4, o5⟩ (.slice x3 F1.length y3) (.slice x4 F2.length y4)) ((w.alloc (.cells (enC ⟨m1, a1, g1, p1, c1, d1, m2, a2, g2, p2, c2, d2, st, tr, du, id, fl, up, i1, i2, i3, i4, i5, o1, o2, o3, o4, o5⟩ (.slice x1 F1.length y1) (.slice x2 F2.length y2)) 29)).alloc (.cells (enC ⟨m1, a1, g1, p1, c1, d1, m2, a2, g2, p2, c2, d2, st, tr, du, id, fl, up, i1, i2, i3, i4, i5, o1, o2, o3, o4, o5⟩ (.slice x3 F1.length y3) (.slice x4 F2.length y4)) 29)) := by
  obtain ⟨_, b, c, d⟩ := start2r w (.cells (enC ⟨m1, a1, g1, p1, c1, d1, m2, a2, g2, p2, c2, d2, st, tr, du, id, fl, up, i1, i2, i3, i4, i5, o1, o2, o3, o4, o5⟩ (.slice x1 F1.length y1) (.slice x2 F2.length y2)) 29) (.cells (enC ⟨m1, a1, g1, p1, c1, d1, m2, a2, g2, p2, c2, d2, st, tr, du, id, fl, up, i1, i2, i3, i4, i5, o1, o2, o3, o4, o5⟩ (.slice x3 F1.length y3) (.slice x4 F2.length y4)) 29)
  exact ⟨b, c, d⟩
 unfold enC at hI ⊢
 dsimp only at hI ⊢
 clear h1 h2 h3 h4
 generalize F1.length = n1 at *
 generalize F2.length = n2 at *
 have HI := hide hI
 clear hI
 go_enter Tryz.func20, Tryz.ntmps20
 go_wp2_with fail
 refine (eqCfgE m1 a1 g1 p1 c1 d1 _).mono ?_
 rintro r w1 ⟨rfl, hb1⟩
 have hI1 := (unhide HI).step hb1
 have c6 : w1.cell? ⟨w.heap.size, 6, none⟩ = some (.int .i64 m2) := by rw [cell_of_row _ _ _ _ _ _ hI1.a]; rfl
 have c7 : w1.cell? ⟨w.heap.size, 7, none⟩ = some (.int .i64 a2) := by rw [cell_of_row _ _ _ _ _ _ hI1.a]; rfl
 have c8 : w1.cell? ⟨w.heap.size, 8, none⟩ = some (.int .i64 g2) := by rw [cell_of_row _ _ _ _ _ _ hI1.a]; rfl
 have c9 : w1.cell? ⟨w.heap.size, 9, none⟩ = some (.bool p2) := by rw [cell_of_row _ _ _ _ _ _ hI1.a]; rfl
 have c10 : w1.cell? ⟨w.heap.size, 10, none⟩ = some (.bool c2) := by rw [cell_of_row _ _ _ _ _ _ hI1.a]; rfl
 have c11 : w1.cell? ⟨w.heap.size, 11, none⟩ = some (.bool d2) := by rw [cell_of_row _ _ _ _ _ _ hI1.a]; rfl
 have e6 : w1.cell? ⟨w.heap.size + 1, 6, none⟩ = some (.int .i64 m2) := by rw [cell_of_row _ _ _ _ _ _ hI1.b]; rfl
 have e7 : w1.cell? ⟨w.heap.size + 1, 7, none⟩ = some (.int .i64 a2) := by rw [cell_of_row _ _ _ _ _ _ hI1.b]; rfl
 have e8 : w1.cell? ⟨w.heap.size + 1, 8, none⟩ = some (.int .i64 g2) := by rw [cell_of_row _ _ _ _ _ _ hI1.b]; rfl
 have e9 : w1.cell? ⟨w.heap.size + 1, 9, none⟩ = some (.bool p2) := by rw [cell_of_row _ _ _ _ _ _ hI1.b]; rfl
 have e10 : w1.cell? ⟨w.heap.size + 1, 10, none⟩ = some (.bool c2) := by rw [cell_of_row _ _ _ _ _ _ hI1.b]; rfl
 have e11 : w1.cell? ⟨w.heap.size + 1, 11, none⟩ = some (.bool d2) := by rw [cell_of_row _ _ _ _ _ _ hI1.b]; rfl
 have HI1 := hide hI1
 clear hI1 hb1 HI
 go_wp2_with fail
 refine (eqCfgE m2 a2 g2 p2 c2 d2 _).mono ?_
 clear c6 e6 c7 e7 c8 e8 c9 e9 c10 e10 c11 e11
 rintro r w2 ⟨rfl, hb2⟩
 have hI2 := (unhide HI1).step hb2
 have c12 : w2.cell? ⟨w.heap.size, 12, none⟩ = some (.int .i64 st) := by rw [cell_of_row _ _ _ _ _ _ hI2.a]; rfl
 have c13 : w2.cell? ⟨w.heap.size, 13, none⟩ = some (.int .i64 tr) := by rw [cell_of_row _ _ _ _ _ _ hI2.a]; rfl
 have c14 : w2.cell? ⟨w.heap.size, 14, none⟩ = some (.int .i64 du) := by rw [cell_of_row _ _ _ _ _ _ hI2.a]; rfl
 have c15 : w2.cell? ⟨w.heap.size, 15, none⟩ = some (.int .i64 id) := by rw [cell_of_row _ _ _ _ _ _ hI2.a]; rfl
 have c16 : w2.cell? ⟨w.heap.size, 16, none⟩ = some (.int .i64 fl) := by rw [cell_of_row _ _ _ _ _ _ hI2.a]; rfl
 have c17 : w2.cell? ⟨w.heap.size, 17, none⟩ = some (.slice x1 n1 y1) := by rw [cell_of_row _ _ _ _ _ _ hI2.a]; rfl
 have e12 : w2.cell? ⟨w.heap.size + 1, 12, none⟩ = some (.int .i64 st) := by rw [cell_of_row _ _ _ _ _ _ hI2.b]; rfl
 have e13 : w2.cell? ⟨w.heap.size + 1, 13, none⟩ = some (.int .i64 tr) := by rw [cell_of_row _ _ _ _ _ _ hI2.b]; rfl
 have e14 : w2.cell? ⟨w.heap.size + 1, 14, none⟩ = some (.int .i64 du) := by rw [cell_of_row _ _ _ _ _ _ hI2.b]; rfl
 have e15 : w2.cell? ⟨w.heap.size + 1, 15, none⟩ = some (.int .i64 id) := by rw [cell_of_row _ _ _ _ _ _ hI2.b]; rfl
 have e16 : w2.cell? ⟨w.heap.size + 1, 16, none⟩ = some (.int .i64 fl) := by rw [cell_of_row _ _ _ _ _ _ hI2.b]; rfl
 have e17 : w2.cell? ⟨w.heap.size + 1, 17, none⟩ = some (.slice x3 n1 y3) := by rw [cell_of_row _ _ _ _ _ _ hI2.b]; rfl
 have HI2 := hide hI2
 clear hI2 hb2 HI1
 go_wp2_with fail
 refine (unhide C1 _ (unhide HI2).l).mono ?_
 clear c12 e12 c13 e13 c14 e14 c15 e15 c16 e16 c17 e17
 rintro r w3 ⟨rfl, hb3⟩
 have hI3 := (unhide HI2).step hb3
 have c18 : w3.cell? ⟨w.heap.size, 18, none⟩ = some (.slice x2 n2 y2) := by rw [cell_of_row _ _ _ _ _ _ hI3.a]; rfl
 have e18 : w3.cell? ⟨w.heap.size + 1, 18, none⟩ = some (.slice x4 n2 y4) := by rw [cell_of_row _ _ _ _ _ _ hI3.b]; rfl
 have HI3 := hide hI3
 clear hI3 hb3 HI2
 go_wp2_with fail
 refine (unhide C2 _ (unhide HI3).l).mono ?_
 clear c18 e18
 rintro r w4 ⟨rfl, hb4⟩
 have hI4 := (unhide HI3).step hb4
 have c19 : w4.cell? ⟨w.heap.size, 19, none⟩ = some (.bool up) := by rw [cell_of_row _ _ _ _ _ _ hI4.a]; rfl
 have c20 : w4.cell? ⟨w.heap.size, 20, none⟩ = some (.int .i64 i1) := by rw [cell_of_row _ _ _ _ _ _ hI4.a]; rfl
 have c21 : w4.cell? ⟨w.heap.size, 21, none⟩ = some (.int .i64 i2) := by rw [cell_of_row _ _ _ _ _ _ hI4.a]; rfl
 have c22 : w4.cell? ⟨w.heap.size, 22, none⟩ = some (.bool i3) := by rw [cell_of_row _ _ _ _ _ _ hI4.a]; rfl
 have c23 : w4.cell? ⟨w.heap.size, 23, none⟩ = some (.bool i4) := by rw [cell_of_row _ _ _ _ _ _ hI4.a]; rfl
 have c24 : w4.cell? ⟨w.heap.size, 24, none⟩ = some (.bool i5) := by rw [cell_of_row _ _ _ _ _ _ hI4.a]; rfl
 have e19 : w4.cell? ⟨w.heap.size + 1, 19, none⟩ = some (.bool up) := by rw [cell_of_row _ _ _ _ _ _ hI4.b]; rfl
 have e20 : w4.cell? ⟨w.heap.size + 1, 20, none⟩ = some (.int .i64 i1) := by rw [cell_of_row _ _ _ _ _ _ hI4.b]; rfl
 have e21 : w4.cell? ⟨w.heap.size + 1, 21, none⟩ = some (.int .i64 i2) := by rw [cell_of_row _ _ _ _ _ _ hI4.b]; rfl
 have e22 : w4.cell? ⟨w.heap.size + 1, 22, none⟩ = some (.bool i3) := by rw [cell_of_row _ _ _ _ _ _ hI4.b]; rfl
 have e23 : w4.cell? ⟨w.heap.size + 1, 23, none⟩ = some (.bool i4) := by rw [cell_of_row _ _ _ _ _ _ hI4.b]; rfl
 have e24 : w4.cell? ⟨w.heap.size + 1, 24, none⟩ = some (.bool i5) := by rw [cell_of_row _ _ _ _ _ _ hI4.b]; rfl
 have HI4 := hide hI4
 clear hI4 hb4 HI3
 go_wp2_with fail
 refine (eqLineE i1 i2 i3 i4 i5 _).mono ?_
 clear c19 e19 c20 e20 c21 e21 c22 e22 c23 e23 c24 e24
 rintro r w5 ⟨rfl, hb5⟩
 have hI5 := (unhide HI4).step hb5
 have c25 : w5.cell? ⟨w.heap.size, 25, none⟩ = some (.int .i64 o1) := by rw [cell_of_row _ _ _ _ _ _ hI5.a]; rfl
 have c26 : w5.cell? ⟨w.heap.size, 26, none⟩ = some (.int .i64 o2) := by rw [cell_of_row _ _ _ _ _ _ hI5.a]; rfl
 have c27 : w5.cell? ⟨w.heap.size, 27, none⟩ = some (.bool o3) := by rw [cell_of_row _ _ _ _ _ _ hI5.a]; rfl
 have c28 : w5.cell? ⟨w.heap.size, 28, none⟩ = some (.bool o4) := by rw [cell_of_row _ _ _ _ _ _ hI5.a]; rfl
 have c29 : w5.cell? ⟨w.heap.size, 29, none⟩ = some (.bool o5) := by rw [cell_of_row _ _ _ _ _ _ hI5.a]; rfl
 have e25 : w5.cell? ⟨w.heap.size + 1, 25, none⟩ = some (.int .i64 o1) := by rw [cell_of_row _ _ _ _ _ _ hI5.b]; rfl
 have e26 : w5.cell? ⟨w.heap.size + 1, 26, none⟩ = some (.int .i64 o2) := by rw [cell_of_row _ _ _ _ _ _ hI5.b]; rfl
 have e27 : w5.cell? ⟨w.heap.size + 1, 27, none⟩ = some (.bool o3) := by rw [cell_of_row _ _ _ _ _ _ hI5.b]; rfl
 have e28 : w5.cell? ⟨w.heap.size + 1, 28, none⟩ = some (.bool o4) := by rw [cell_of_row _ _ _ _ _ _ hI5.b]; rfl
 have e29 : w5.cell? ⟨w.heap.size + 1, 29, none⟩ = some (.bool o5) := by rw [cell_of_row _ _ _ _ _ _ hI5.b]; rfl
 have HI5 := hide hI5
 clear hI5 hb5 HI4
 go_wp2_with fail
 refine (eqLineE o1 o2 o3 o4 o5 _).mono ?_
 clear c25 e25 c26 e26 c27 e27 c28 e28 c29 e29
 rintro r w6 ⟨rfl, hb6⟩
 have HI6 := hide ((unhide HI5).step hb6).l
 clear hb6 HI5
 go_wp2
 go_ret
 exact ⟨rfl, unhide HI6⟩
end Go.Proofs.YtahpjlbaagkdoaaGreatDoor
