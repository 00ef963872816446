/- The program's LineOf; what lay in memory stands. -/
import Derived.Test.YtghopihgnmnlcaaGreatDoorS05
import Derived.Test.YtghopihgnmnlcaaGreatDoorS06
import Derived.Test.YtghopihgnmnlcaaGreatDoorS03
import Derived.Deep.DeepCutAuto
namespace Go.Proofs.YtghopihgnmnlcaaGreatDoor
open Go.RowKit
/-- What stands in LineOf: the answer's place, the line so far, the rules. -/
structure LnS (w : World) (X M : Nat) (x : Ln) (q : World) : Prop where
  r : q.heap[w.heap.size]? = some (.cells #[.int .i64 0, .int .i64 0, .bool false, .bool false, .bool false] 27)
  x : q.heap[X]? = some (.cells (lnC x) 27)
  m : q.heap[M]? = some (.map rules 6)
  b : Below w.heap.size w q
theorem LnS.step {w : World} {X M : Nat} {x : Ln} {q q' : World} (h : LnS w X M x q) (hb : Below q.heap.size q q') : LnS w X M x q' :=
  ⟨(hb.block _ (Array.getElem?_eq_some_iff.1 h.r).1).trans h.r, (hb.block _ (Array.getElem?_eq_some_iff.1 h.x).1).trans h.x, (hb.block _ (Array.getElem?_eq_some_iff.1 h.m).1).trans h.m, h.b.trans (hb.mono h.b.size)⟩
theorem row5x {w : World} {B : Nat} {x0 x1 x2 x3 x4 : Value} {T : TypeId} (h : w.heap[B]? = some (.cells #[x0, x1, x2, x3, x4] T)) :
    w.cell? ⟨B, 0, none⟩ = some x0 ∧ w.cell? ⟨B, 1, none⟩ = some x1 ∧ w.cell? ⟨B, 2, none⟩ = some x2 ∧ w.cell? ⟨B, 3, none⟩ = some x3 ∧ w.cell? ⟨B, 4, none⟩ = some x4 ∧ w.frozen? ⟨B, 0, none⟩ = false ∧ w.frozen? ⟨B, 1, none⟩ = false ∧ w.frozen? ⟨B, 2, none⟩ = false ∧ w.frozen? ⟨B, 3, none⟩ = false ∧ w.frozen? ⟨B, 4, none⟩ = false :=
  ⟨by rw [cell_of_row _ _ _ _ _ _ h]; rfl, by rw [cell_of_row _ _ _ _ _ _ h]; rfl, by rw [cell_of_row _ _ _ _ _ _ h]; rfl, by rw [cell_of_row _ _ _ _ _ _ h]; rfl, by rw [cell_of_row _ _ _ _ _ _ h]; rfl, frz h _, frz h _, frz h _, frz h _, frz h _⟩
theorem infoL : (Tryz.prog.info? 27).map (·.size) = some 5 := by kernel_rfl
theorem loadL {W : World} {E : Nat} {x0 x1 x2 x3 x4 : Value} (h : W.heap[E]? = some (.cells #[x0, x1, x2, x3, x4] 27)) : (loadVar 27 ⟨E, 0, none⟩).run Tryz.prog W = .ok (.agg #[x0, x1, x2, x3, x4]) W :=
  run_loadVar_row (P := Tryz.prog) _ _ 27 27 #[x0, x1, x2, x3, x4] (0, 0) _ h Tryz.underlying27 rfl infoL
theorem set5_at {W : World} {E : Nat} {z0 z1 z2 z3 z4 : Value} {T : TypeId} (h : W.heap[E]? = some (.cells #[z0, z1, z2, z3, z4] T)) (x0 x1 x2 x3 x4 : Value) :
    (((((W.setCell ⟨E, 0, none⟩ x0).setCell ⟨E, 1, none⟩ x1).setCell ⟨E, 2, none⟩ x2).setCell ⟨E, 3, none⟩ x3).setCell ⟨E, 4, none⟩ x4).heap[E]? = some (.cells #[x0, x1, x2, x3, x4] T) :=
  heap_setCell_same _ _ 4 _ _ x4 (heap_setCell_same _ _ 3 _ _ x3 (heap_setCell_same _ _ 2 _ _ x2 (heap_setCell_same _ _ 1 _ _ x1 (heap_setCell_same _ _ 0 _ _ x0 h))))
theorem set5_below {n : Nat} {w W : World} {E : Nat} (h : Below n w W) (hE : n ≤ E) (x0 x1 x2 x3 x4 : Value) : Below n w (((((W.setCell ⟨E, 0, none⟩ x0).setCell ⟨E, 1, none⟩ x1).setCell ⟨E, 2, none⟩ x2).setCell ⟨E, 3, none⟩ x3).setCell ⟨E, 4, none⟩ x4) :=
  ((((h.setCell (p := ⟨E, 0, none⟩) hE _).setCell (p := ⟨E, 1, none⟩) hE _).setCell (p := ⟨E, 2, none⟩) hE _).setCell (p := ⟨E, 3, none⟩) hE _).setCell (p := ⟨E, 4, none⟩) hE _
theorem set5_other {W : World} {E g : Nat} (hg : g ≠ E) (x0 x1 x2 x3 x4 : Value) : (((((W.setCell ⟨E, 0, none⟩ x0).setCell ⟨E, 1, none⟩ x1).setCell ⟨E, 2, none⟩ x2).setCell ⟨E, 3, none⟩ x3).setCell ⟨E, 4, none⟩ x4).heap[g]? = W.heap[g]? := by
  rw [Below.heap_setCell _ _ _ _ hg, Below.heap_setCell _ _ _ _ hg, Below.heap_setCell _ _ _ _ hg, Below.heap_setCell _ _ _ _ hg, Below.heap_setCell _ _ _ _ hg]
theorem set5_cell {W : World} {E : Nat} (p : Addr) (hp : p.block ≠ E) (x0 x1 x2 x3 x4 : Value) : (((((W.setCell ⟨E, 0, none⟩ x0).setCell ⟨E, 1, none⟩ x1).setCell ⟨E, 2, none⟩ x2).setCell ⟨E, 3, none⟩ x3).setCell ⟨E, 4, none⟩ x4).cell? p = W.cell? p := by
  unfold World.cell?
  rw [set5_other hp]
theorem LnS.put {w : World} {X M : Nat} {x : Ln} {q : World} (h : LnS w X M x q) (h1 : w.heap.size < X) (h2 : M < X) (y : Ln) :
    LnS w X M y (((((q.setCell ⟨X, 0, none⟩ (.int .i64 y.m)).setCell ⟨X, 1, none⟩ (.int .i64 y.a)).setCell ⟨X, 2, none⟩ (.bool y.p)).setCell ⟨X, 3, none⟩ (.bool y.c)).setCell ⟨X, 4, none⟩ (.bool y.d)) :=
  ⟨(set5_other (by omega) _ _ _ _ _).trans h.r, set5_at h.x _ _ _ _ _, (set5_other (by omega) _ _ _ _ _).trans h.m, set5_below h.b (by omega) _ _ _ _ _⟩
theorem HoldsO.at {w : World} {v : Value} {F : List Op.Opt} (h : HoldsO w v F) (i : Nat) (hi : i < F.length) : ∃ g, (∃ cp, v = .slice (some ⟨g, 0, none⟩) F.length cp) ∧ g < w.heap.size ∧ w.cell? ⟨g, i * 2, none⟩ = some (.int .i64 F[i].kind) ∧ w.cell? ⟨g, i * 2 + 1, none⟩ = some (.string F[i].data) := by
  rcases h with ⟨_, _, _, e⟩ | ⟨g, cp, cur, e, q1, q2, q3⟩
  · rw [e] at hi; exact absurd hi (Nat.not_lt_zero _)
  · have hg := ocells_get F i _ (List.getElem?_eq_getElem hi)
    exact ⟨g, ⟨cp, e⟩, (Array.getElem?_eq_some_iff.1 q1).1, by rw [cell_of_row _ _ _ _ _ _ q1, q3 _ (by omega)]; exact hg.1, by rw [cell_of_row _ _ _ _ _ _ q1, q3 _ (by omega)]; exact hg.2⟩
set_option maxHeartbeats 4000000 in
set_option maxRecDepth 100000 in
theorem implLine (v : Value) (F : List Op.Opt) (w : World) (hm : F.length ≤ maxLen) (h : HoldsO w v F) :
    Calls Tryz.prog 116 #[v] w fun e w' => e = .returned (.agg (lnC (lineOf F))) ∧ Below w.heap.size w w' := by
  have C1 := hide fun W (hb : Below w.heap.size w W) => implRightAll v F W hm (h.below hb rfl)
  unfold lineOf
  cases hr : Op.right F
  · rw [if_neg (by decide)]
    rw [hr] at C1
    obtain ⟨ad, cp, rfl⟩ := h.form
    have hb0 : Below w.heap.size w (w.alloc (.cells #[.int .i64 0, .int .i64 0, .bool false, .bool false, .bool false] 27)) := (Below.refl _ _).alloc (Nat.le_refl _) _
    have hr0 := heap_alloc_new w (.cells #[.int .i64 0, .int .i64 0, .bool false, .bool false, .bool false] 27)
    have H0 := hide (And.intro hr0 hb0)
    clear hr0 hb0 h
    go_enter Tryz.func116, Tryz.ntmps116
    go_wp2_with fail
    refine (unhide C1 _ (unhide H0).2).mono ?_
    rintro e w1 ⟨rfl, hb1⟩
    have hr1 := (hb1.block w.heap.size (by simp)).trans (unhide H0).1
    have hB1 := (unhide H0).2.trans (hb1.mono (unhide H0).2.size)
    obtain ⟨r0, r1, r2, r3, r4, f0, f1, f2, f3, f4⟩ := row5x hr1
    have H1 := hide (And.intro hr1 hB1)
    clear hr1 hB1 hb1 H0 C1
    go_wp2
    refine bodyPost_ret (v := .agg #[.int .i64 0, .int .i64 0, .bool false, .bool false, .bool false]) (by simp [results, Tryz.results116, asAddr, loadL (set5_at (unhide H1).1 (.int .i64 0) (.int .i64 0) (.bool false) (.bool false) (.bool false))]) rfl ⟨rfl, set5_below (unhide H1).2 (Nat.le_refl _) _ _ _ _ _⟩
  · rw [if_pos rfl]
    rw [hr] at C1
    have hFl := Op.right_len hr
    have HFO := hide (Op.right_all hr)
    have HAT := hide fun i hi => h.at i hi
    obtain ⟨ad, cp, rfl⟩ := h.form
    obtain ⟨n, hn⟩ : ∃ n, F.length = n := ⟨_, rfl⟩
    have hb0 : Below w.heap.size w (w.alloc (.cells #[.int .i64 0, .int .i64 0, .bool false, .bool false, .bool false] 27)) := (Below.refl _ _).alloc (Nat.le_refl _) _
    have hr0 := heap_alloc_new w (.cells #[.int .i64 0, .int .i64 0, .bool false, .bool false, .bool false] 27)
    have H0 := hide (And.intro hr0 hb0)
    clear hr0 hb0 h hr
    have HTL : Hid (F.take n = F) := hide (List.take_of_length_le (by omega))
    obtain ⟨R, hR⟩ : ∃ R, lineF F = R := ⟨_, rfl⟩
    rw [hR]
    have HR := hide hR
    clear hR
    rw [hn] at C1 ⊢
    go_enter Tryz.func116, Tryz.ntmps116
    go_wp2_with fail
    refine (unhide C1 _ (unhide H0).2).mono ?_
    rintro e w1 ⟨rfl, hb1⟩
    have hr1 := (hb1.block w.heap.size (by simp)).trans (unhide H0).1
    have hB1 := (unhide H0).2.trans (hb1.mono (unhide H0).2.size)
    have H1 := hide (And.intro hr1 hB1)
    clear hr1 hB1 hb1 H0 C1
    go_wp2_with fail
    refine (optionRules _).mono ?_
    rintro e w2 ⟨rfl, hm2, hb2⟩
    have hI : LnS w w2.heap.size w1.heap.size (lineF (F.take 0)) (w2.alloc (.cells #[.int .i64 300, .int .i64 4294967295, .bool false, .bool false, .bool false] 27)) := by
      have hl1 := (Array.getElem?_eq_some_iff.1 (unhide H1).1).1
      have hl2 := (Array.getElem?_eq_some_iff.1 hm2).1
      have hr2 := (hb2.block w.heap.size hl1).trans (unhide H1).1
      have hB2 := (unhide H1).2.trans (hb2.mono (unhide H1).2.size)
      have hs2 := hb2.size
      exact ⟨(Below.heap_alloc _ _ _ (by omega)).trans hr2, heap_alloc_new w2 _, (Below.heap_alloc _ _ _ hl2).trans hm2, hB2.alloc hB2.size _⟩
    have hX : w.heap.size < w2.heap.size ∧ w1.heap.size < w2.heap.size := ⟨Nat.lt_of_lt_of_le (Array.getElem?_eq_some_iff.1 (unhide H1).1).1 hb2.size, (Array.getElem?_eq_some_iff.1 hm2).1⟩
    have HI := hide hI
    clear hI hm2 hb2 H1
    obtain ⟨hX1, hX2⟩ := hX
    go_wp2_with fail
    generalize w1.heap.size = M at *
    generalize w2.heap.size = X at *
    go_loopw [17] (fun y wr => ∃ i : Nat, i ≤ n ∧ y = .int .i64 i ∧ LnS w X M (lineF (F.take i)) wr) (fun y _ => n - (intOf y).toNat)
    case atStart => exact ⟨0, Nat.zero_le _, rfl, unhide HI⟩
    case round =>
      obtain ⟨i, hi, rfl, hS⟩ := hrel
      clear HI
      by_cases hlt : i < n
      · have d1 : (i : Int) < (n : Int) := by omega
        have d0 : (0 : Int) ≤ (i : Int) := by omega
        obtain ⟨g, ⟨cp2, e2⟩, hgl, k0, k1⟩ := unhide HAT i (by omega)
        cases e2
        replace k0 := (hS.b.cell (p := ⟨g, i * 2, none⟩) hgl).trans k0
        replace k1 := (hS.b.cell (p := ⟨g, i * 2 + 1, none⟩) hgl).trans k1
        have HSN := hide (lineF_snoc F i (by omega))
        have hok := unhide HFO _ (List.getElem_mem (show i < F.length by omega))
        generalize F[i]'(by omega) = o at *
        obtain ⟨kd, dt⟩ := o
        dsimp only at k0 k1
        generalize lineF (F.take i) = x at *
        have hds : dt.size ≤ 20 := by unfold Op.ok at hok; have := of_decide_eq_true hok; exact this.2.2
        have HS := hide hS
        clear hS HAT HFO hok
        go_upto_region 8 with fail
        refine gen_world (fun q => LnS w X M x q ∧ q.heap[wr.heap.size]? = some (.cells #[.int .i64 kd, .string dt] 118))
          ⟨(unhide HS).step ((Below.refl _ _).alloc (Nat.le_refl _) _), heap_alloc_new wr _⟩ ?_
        rintro q1 ⟨hS1, hO1⟩
        have hN1 : X < wr.heap.size := (Array.getElem?_eq_some_iff.1 (unhide HS).x).1
        generalize wr.heap.size = N1 at *
        have hl1 : N1 < q1.heap.size := (Array.getElem?_eq_some_iff.1 hO1).1
        obtain ⟨c0, c1, _, _⟩ := row2x hO1
        have HV1 := hide (And.intro hS1 hO1)
        clear hO1 HS k0 k1
        unfold lnOne at HSN
        dsimp only at HSN
        rcases ln_row kd with ⟨s, f, f2, f3, f4, f5, j, hs, hJ⟩ | ⟨hs, hf⟩
        · have CR := hide (ruleOf_yes M kd dt s f f2 f3 f4 f5 j q1 hS1.m hJ.fd)
          have hcf := hJ.cf
          have HJL := hide hJ.ln
          have h4 := sizeK_le hs
          clear hS1 hJ
          go_wp2_with fail
          refine (unhide CR).mono ?_
          rintro e w3 ⟨rfl, hb3⟩
          have HV3 := hide (And.intro ((unhide HV1).1.step hb3) ((hb3.block N1 hl1).trans (unhide HV1).2))
          have hl3 : N1 < w3.heap.size := Nat.lt_of_lt_of_le hl1 hb3.size
          clear hb3 HV1 hl1 c0 c1 CR
          cases hq : ((dt.size : Int) == (s : Int))
          · have hne : ¬ (sizeK kd = some dt.size) := fun e => by
              rw [hs] at e
              cases e
              rw [beq_self_eq_true] at hq
              cases hq
            rw [if_neg hne] at HSN
            go_wp2_with fail
            go_roundw
            case rel => exact ⟨i + 1, by omega, by go_num, by rw [unhide HSN]; exact (unhide HV3).1.step ((Below.refl _ _).alloc (Nat.le_refl _) _)⟩
            case measure => simp [intOf]; omega
          · have hes : dt.size = s := by have := eq_of_beq hq; omega
            rw [if_pos (by rw [hs, hes])] at HSN
            have CN := hide fun v => numberOf kd dt v (by omega)
            have hnx := numOf_lt4 dt.data.toList (by rw [len_dat]; omega)
            have HJ2 := hide fun v => unhide HJL x (numOf dt.data.toList) v
            generalize numOf dt.data.toList = nx at *
            clear HJL
            go_upto_region 10 with fail
            refine gen_world (fun q => LnS w X M x q ∧ q.heap[N1]? = some (.cells #[.int .i64 kd, .string dt] 118) ∧ q.heap[w3.heap.size]? = some (.cells #[.int .i64 s, fnV f, fnV f2, fnV f3, fnV f4, fnV f5] 187))
              ⟨(unhide HV3).1.step ((Below.refl _ _).alloc (Nat.le_refl _) _), (Below.heap_alloc _ _ _ hl3).trans (unhide HV3).2, heap_alloc_new w3 _⟩ ?_
            rintro q4 ⟨hS4, hO4, hR4⟩
            have hN2 : X < w3.heap.size := by omega
            generalize w3.heap.size = N2 at *
            obtain ⟨c0, c1, _, _⟩ := row2x hO4
            obtain ⟨_, _, _, _, _, r5⟩ := row6 hR4
            have HV4 := hide (And.intro hS4 (And.intro hO4 hR4))
            clear hS4 hO4 hR4 HV3
            refine wp_region_held_drew (S := fun z => z.cell? ⟨N1, 0, none⟩ = some (.int .i64 kd) ∧ z.cell? ⟨N1, 1, none⟩ = some (.string dt) ∧ z.cell? ⟨N2, 5, none⟩ = some (fnV f5)) (by kernel_rfl) ?_ (fun hHeld => ?_)
            · exact ⟨c0, c1, r5⟩
            refine wpAnyH_take (i := 0) (v := ?va0) rfl (by kernel_rfl) (by kernel_rfl) (by kernel_rfl) (fun _ _ _ h => h) (Or.inl ⟨by rfl, ?hya0⟩) (by assumption) ?_
            case hya0 =>
              intro w hSw
              try dsimp only at hSw
              go_simp
              try with_reducible rfl
            try simp only [Act.put, List.setIfInBounds_toArray, List.set_cons_zero, List.set_cons_succ, List.getElem_toArray, List.getElem_cons_zero]
            refine wpAnyH_take (i := 1) (v := ?va1) rfl (by kernel_rfl) (by kernel_rfl) (by kernel_rfl) (fun _ _ _ h => h) (Or.inl ⟨by rfl, ?hya1⟩) (by assumption) ?_
            case hya1 =>
              intro w hSw
              try dsimp only at hSw
              go_simp
              try with_reducible rfl
            try simp only [Act.put, List.setIfInBounds_toArray, List.set_cons_zero, List.set_cons_succ, List.getElem_toArray, List.getElem_cons_zero, List.getElem_cons_succ]
            refine wpAnyH_take (i := 3) (v := ?va3) rfl (by kernel_rfl) (by kernel_rfl) (by kernel_rfl) (fun _ _ _ h => h) (Or.inl ⟨by rfl, ?hya3⟩) (by assumption) ?_
            case hya3 =>
              intro w hSw
              try dsimp only at hSw
              go_simp
              try with_reducible rfl
            try simp only [Act.put, List.setIfInBounds_toArray, List.set_cons_zero, List.set_cons_succ, List.getElem_toArray, List.getElem_cons_zero, List.getElem_cons_succ]
            refine wpAnyH_ready (rs := [2, 4]) (by kernel_rfl) (by simp) ?_
            have hn1 : N1 < q4.heap.size := (Array.getElem?_eq_some_iff.1 (unhide HV4).2.1).1
            have hn2 : N2 < q4.heap.size := (Array.getElem?_eq_some_iff.1 (unhide HV4).2.2).1
            refine AllReadyH.cons rfl (fun K hK => ?_) (AllReadyH.cons rfl (fun K hK => ?_) AllReadyH.nil)
            · obtain ⟨m0, m1, m2, m3, m4, _, _, _, _, _⟩ := row5x (unhide HV4).1.x
              go_simp
              refine hK.out _ _ ?_ (fun hHeld2 => ?_)
              · exact ⟨c0, c1, r5⟩
              clear hK K m0 m1 m2 m3 m4
              try simp only [Act.put, List.setIfInBounds_toArray, List.set_cons_zero, List.set_cons_succ, List.getElem_toArray, List.getElem_cons_zero, List.getElem_cons_succ]
              refine wpAnyH_ready (rs := [4]) (by kernel_rfl) (by simp) ?_
              refine AllReadyH.cons rfl (fun K hK => ?_) AllReadyH.nil
              go_simp
              refine (unhide CN _).mono ?_
              rintro e w5 ⟨rfl, hb5⟩
              have B5 : Below q4.heap.size q4 w5 := (Below.refl _ _).drew.trans hb5
              go_wp2_with fail
              refine hK.out _ _ ?_ (fun hHeld3 => ?_)
              · exact ⟨(B5.cell (p := ⟨N1, 0, none⟩) hn1).trans c0, (B5.cell (p := ⟨N1, 1, none⟩) hn1).trans c1, (B5.cell (p := ⟨N2, 5, none⟩) hn2).trans r5⟩
              clear hK K
              try simp only [Act.put, List.setIfInBounds_toArray, List.set_cons_zero, List.set_cons_succ, List.getElem_toArray, List.getElem_cons_zero, List.getElem_cons_succ]
              refine wpAnyH_ready (rs := [5]) (by kernel_rfl) (by simp) ?_
              refine AllReadyH.cons rfl (fun K hK => ?_) AllReadyH.nil
              go_simp
              refine (unhide HJ2 _).mono ?_
              rintro e w6 ⟨rfl, hb6⟩
              have B6 : Below q4.heap.size q4 w6 := B5.trans (hb6.mono B5.size)
              have h6 := (unhide HV4).1.step B6
              go_wp2_with fail
              refine hK.out _ _ ?_ (fun hHeld4 => ?_)
              · exact ⟨(B6.cell (p := ⟨N1, 0, none⟩) hn1).trans c0, (B6.cell (p := ⟨N1, 1, none⟩) hn1).trans c1, (B6.cell (p := ⟨N2, 5, none⟩) hn2).trans r5⟩
              clear hK K
              try simp only [Act.put, List.setIfInBounds_toArray, List.set_cons_zero, List.set_cons_succ, List.getElem_toArray, List.getElem_cons_zero, List.getElem_cons_succ]
              refine wpAnyH_ready (rs := [6]) (by kernel_rfl) (by simp) ?_
              refine AllReadyH.cons rfl (fun K hK => ?_) AllReadyH.nil
              obtain ⟨m0, m1, m2, m3, m4, f0, f1', f2', f3', f4'⟩ := row5x h6.x
              have HL := hide (h6.put hX1 hX2 (lnK kd x nx))
              have n1X : N1 ≠ X := by omega
              have n2X : N2 ≠ X := by omega
              go_simp
              refine hK.out _ _ ?_ (fun hHeld5 => ?_)
              · have T := fun p (hp : p.block ≠ X) => set5_cell (W := w6) (E := X) p hp (.int .i64 (lnK kd x nx).m) (.int .i64 (lnK kd x nx).a) (.bool (lnK kd x nx).p) (.bool (lnK kd x nx).c) (.bool (lnK kd x nx).d)
                exact ⟨(T ⟨N1, 0, none⟩ n1X).trans ((B6.cell (p := ⟨N1, 0, none⟩) hn1).trans c0), (T ⟨N1, 1, none⟩ n1X).trans ((B6.cell (p := ⟨N1, 1, none⟩) hn1).trans c1), (T ⟨N2, 5, none⟩ n2X).trans ((B6.cell (p := ⟨N2, 5, none⟩) hn2).trans r5)⟩
              clear hK K
              try simp only [Act.put, List.setIfInBounds_toArray, List.set_cons_zero, List.set_cons_succ, List.getElem_toArray, List.getElem_cons_zero, List.getElem_cons_succ]
              refine wpAnyH_done (by kernel_rfl) ?_ _
              go_wp2_with fail
              go_roundw
              case rel => exact ⟨i + 1, by omega, by go_num, by rw [unhide HSN]; exact unhide HL⟩
              case measure => simp [intOf]; omega
            · go_simp
              refine (unhide CN _).mono ?_
              rintro e w5 ⟨rfl, hb5⟩
              have B5 : Below q4.heap.size q4 w5 := (Below.refl _ _).drew.trans hb5
              go_wp2_with fail
              refine hK.out _ _ ?_ (fun hHeld2 => ?_)
              · exact ⟨(B5.cell (p := ⟨N1, 0, none⟩) hn1).trans c0, (B5.cell (p := ⟨N1, 1, none⟩) hn1).trans c1, (B5.cell (p := ⟨N2, 5, none⟩) hn2).trans r5⟩
              clear hK K
              try simp only [Act.put, List.setIfInBounds_toArray, List.set_cons_zero, List.set_cons_succ, List.getElem_toArray, List.getElem_cons_zero, List.getElem_cons_succ]
              refine wpAnyH_ready (rs := [2]) (by kernel_rfl) (by simp) ?_
              refine AllReadyH.cons rfl (fun K hK => ?_) AllReadyH.nil
              obtain ⟨m0, m1, m2, m3, m4, _, _, _, _, _⟩ := row5x ((unhide HV4).1.step B5).x
              go_simp
              refine hK.out _ _ ?_ (fun hHeld3 => ?_)
              · exact ⟨(B5.cell (p := ⟨N1, 0, none⟩) hn1).trans c0, (B5.cell (p := ⟨N1, 1, none⟩) hn1).trans c1, (B5.cell (p := ⟨N2, 5, none⟩) hn2).trans r5⟩
              clear hK K m0 m1 m2 m3 m4
              try simp only [Act.put, List.setIfInBounds_toArray, List.set_cons_zero, List.set_cons_succ, List.getElem_toArray, List.getElem_cons_zero, List.getElem_cons_succ]
              refine wpAnyH_ready (rs := [5]) (by kernel_rfl) (by simp) ?_
              refine AllReadyH.cons rfl (fun K hK => ?_) AllReadyH.nil
              go_simp
              refine (unhide HJ2 _).mono ?_
              rintro e w6 ⟨rfl, hb6⟩
              have B6 : Below q4.heap.size q4 w6 := B5.trans (hb6.mono B5.size)
              have h6 := (unhide HV4).1.step B6
              go_wp2_with fail
              refine hK.out _ _ ?_ (fun hHeld4 => ?_)
              · exact ⟨(B6.cell (p := ⟨N1, 0, none⟩) hn1).trans c0, (B6.cell (p := ⟨N1, 1, none⟩) hn1).trans c1, (B6.cell (p := ⟨N2, 5, none⟩) hn2).trans r5⟩
              clear hK K
              try simp only [Act.put, List.setIfInBounds_toArray, List.set_cons_zero, List.set_cons_succ, List.getElem_toArray, List.getElem_cons_zero, List.getElem_cons_succ]
              refine wpAnyH_ready (rs := [6]) (by kernel_rfl) (by simp) ?_
              refine AllReadyH.cons rfl (fun K hK => ?_) AllReadyH.nil
              obtain ⟨m0, m1, m2, m3, m4, f0, f1', f2', f3', f4'⟩ := row5x h6.x
              have HL := hide (h6.put hX1 hX2 (lnK kd x nx))
              have n1X : N1 ≠ X := by omega
              have n2X : N2 ≠ X := by omega
              go_simp
              refine hK.out _ _ ?_ (fun hHeld5 => ?_)
              · have T := fun p (hp : p.block ≠ X) => set5_cell (W := w6) (E := X) p hp (.int .i64 (lnK kd x nx).m) (.int .i64 (lnK kd x nx).a) (.bool (lnK kd x nx).p) (.bool (lnK kd x nx).c) (.bool (lnK kd x nx).d)
                exact ⟨(T ⟨N1, 0, none⟩ n1X).trans ((B6.cell (p := ⟨N1, 0, none⟩) hn1).trans c0), (T ⟨N1, 1, none⟩ n1X).trans ((B6.cell (p := ⟨N1, 1, none⟩) hn1).trans c1), (T ⟨N2, 5, none⟩ n2X).trans ((B6.cell (p := ⟨N2, 5, none⟩) hn2).trans r5)⟩
              clear hK K
              try simp only [Act.put, List.setIfInBounds_toArray, List.set_cons_zero, List.set_cons_succ, List.getElem_toArray, List.getElem_cons_zero, List.getElem_cons_succ]
              refine wpAnyH_done (by kernel_rfl) ?_ _
              go_wp2_with fail
              go_roundw
              case rel => exact ⟨i + 1, by omega, by go_num, by rw [unhide HSN]; exact unhide HL⟩
              case measure => simp [intOf]; omega
        · have CR := hide (ruleOf_no M kd dt q1 hS1.m hf)
          rw [if_neg (by rw [hs]; intro e; cases e)] at HSN
          clear hS1 hf
          go_wp2_with fail
          refine (unhide CR).mono ?_
          rintro e w3 ⟨rfl, hb3⟩
          have HV3 := hide ((unhide HV1).1.step hb3)
          clear hb3 HV1 hl1 c0 c1 CR
          go_wp2_with fail
          go_roundw
          case rel => exact ⟨i + 1, by omega, by go_num, by rw [unhide HSN]; exact (unhide HV3).step ((Below.refl _ _).alloc (Nat.le_refl _) _)⟩
          case measure => simp [intOf]; omega
      · have e : i = n := by omega
        subst e
        have d1 : ¬ ((i : Int) < (i : Int)) := by omega
        rw [unhide HTL, unhide HR] at hS
        obtain ⟨m0, m1, m2, m3, m4, _, _, _, _, _⟩ := row5x hS.x
        obtain ⟨r0, r1, r2, r3, r4, f0, f1, f2, f3, f4⟩ := row5x hS.r
        have HS := hide hS
        clear hS HAT HFO HTL HR
        go_wp2
        exact bodyPost_ret (v := .agg (lnC R)) (by simp [results, Tryz.results116, asAddr, loadL (set5_at (unhide HS).r (.int .i64 R.m) (.int .i64 R.a) (.bool R.p) (.bool R.c) (.bool R.d))]) rfl ⟨rfl, set5_below (unhide HS).b (Nat.le_refl _) _ _ _ _ _⟩
end Go.Proofs.YtghopihgnmnlcaaGreatDoor
