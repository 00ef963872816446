/- The program's Less, of a right Config and right options; what lay in memory stands. -/
import Derived.Test.YtahpjlbaagkdoaaGreatDoorS36
import Derived.Test.YtahpjlbaagkdoaaGreatDoorShW
namespace Go.Proofs.YtahpjlbaagkdoaaGreatDoor
open Go.RowKit
theorem set6_cell {W : World} {E : Nat} (p : Addr) (hp : p.block ≠ E) (x0 x1 x2 x3 x4 x5 : Value) : ((((((W.setCell ⟨E, 0, none⟩ x0).setCell ⟨E, 1, none⟩ x1).setCell ⟨E, 2, none⟩ x2).setCell ⟨E, 3, none⟩ x3).setCell ⟨E, 4, none⟩ x4).setCell ⟨E, 5, none⟩ x5).cell? p = W.cell? p := by
 unfold World.cell?
 rw [set6_other hp]
set_option maxHeartbeats 8000000 in
set_option maxRecDepth 100000 in
theorem implLess (x : Cf) (v : Value) (F : List Op.Opt) (w : World) (hx : okC x = true) (hr : Op.right F = true) (h : HoldsO w v F) :
  Calls Tryz.prog 130 #[.agg (cfC x), v] w fun e w' => e = .returned (.agg (cfC (lessF x F))) ∧ Below w.heap.size w w' := by
 have hFl := Op.right_len hr
 have C0 := hide fun W => implCfg (x.m : Int) x.a x.g x.p x.c x.d W
 have C1 := hide fun W (hb : Below w.heap.size w W) => implRightAll v F W (by unfold maxLen; omega) (h.below hb rfl)
 rw [show cfgOk (x.m : Int) x.a x.g = true from hx] at C0
 rw [hr] at C1
 have HFO := hide (Op.right_all hr)
 have HAT := hide fun i hi => h.at i hi
 obtain ⟨ad, cp, rfl⟩ := h.form
 obtain ⟨n, hn⟩ : ∃ n, F.length = n := ⟨_, rfl⟩
 obtain ⟨_, hA, hR, hb⟩ := start2r w (.cells (cfC x) 24) (.cells #[.int .i64 0, .int .i64 0, .int .i64 0, .bool false, .bool false, .bool false] 24)
 have H0 := hide (And.intro hA (And.intro hR hb))
 have d0 : ¬ ((400 : Int) < (n : Int)) := by omega
 clear h hr hA hR hb
 have HTL : Hid (F.take n = F) := hide (List.take_of_length_le (by omega))
 obtain ⟨R, hR⟩ : ∃ R, lessF x F = R := ⟨_, rfl⟩
 rw [hR]
 have HR := hide hR
 clear hR
 have hx0 : lessF x (F.take 0) = x := rfl
 rw [hn] at C1 ⊢
 go_enter Tryz.func130, Tryz.ntmps130
 go_wp2_with fail
 refine (unhide C0 _).mono ?_
 rintro e w1 ⟨rfl, hb1⟩
 have hA1 := (hb1.block w.heap.size (by simp; omega)).trans (unhide H0).1
 have hR1 := (hb1.block (w.heap.size + 1) (by simp)).trans (unhide H0).2.1
 have hB1 := (unhide H0).2.2.trans (hb1.mono (unhide H0).2.2.size)
 have H1 := hide (And.intro hA1 (And.intro hR1 hB1))
 clear hA1 hR1 hB1 hb1 H0 C0
 go_wp2_with fail
 refine (unhide C1 _ (unhide H1).2.2).mono ?_
 rintro e w2 ⟨rfl, hb2⟩
 have hA2 := (hb2.block w.heap.size (Array.getElem?_eq_some_iff.1 (unhide H1).1).1).trans (unhide H1).1
 have hR2 := (hb2.block (w.heap.size + 1) (Array.getElem?_eq_some_iff.1 (unhide H1).2.1).1).trans (unhide H1).2.1
 have hB2 := (unhide H1).2.2.trans (hb2.mono (unhide H1).2.2.size)
 have H2 := hide (And.intro hA2 (And.intro hR2 hB2))
 clear hA2 hR2 hB2 hb2 H1 C1
 go_wp2_with fail
 refine (optionRules _).mono ?_
 rintro e w3 ⟨rfl, hm3, hb3⟩
 have hI : CfS w w2.heap.size (lessF x (F.take 0)) w3 := by
  have hl1 := (Array.getElem?_eq_some_iff.1 (unhide H2).1).1
  have hl2 := (Array.getElem?_eq_some_iff.1 (unhide H2).2.1).1
  rw [hx0]
  exact ⟨(hb3.block _ hl1).trans (unhide H2).1, (hb3.block _ hl2).trans (unhide H2).2.1, hm3, (unhide H2).2.2.trans (hb3.mono (unhide H2).2.2.size)⟩
 have hM : w.heap.size + 1 < w2.heap.size := (Array.getElem?_eq_some_iff.1 (unhide H2).2.1).1
 have HI := hide hI
 clear hI hm3 hb3 H2 hx0 hx
 go_wp2_with fail
 generalize w2.heap.size = M at *
 go_loopw [26] (fun y wr => ∃ i : Nat, i ≤ n ∧ y = .int .i64 i ∧ CfS w M (lessF x (F.take i)) wr) (fun y _ => n - (intOf y).toNat)
 case atStart => exact ⟨0, Nat.zero_le _, rfl, unhide HI⟩
 case round =>
  obtain ⟨i, hi, rfl, hS⟩ := hrel
  clear HI
  by_cases hlt : i < n
  ·have d1 : (i : Int) < (n : Int) := by omega
   have d2 : (0 : Int) ≤ (i : Int) := by omega
   obtain ⟨g, ⟨cp2, e2⟩, hgl, k0, k1⟩ := unhide HAT i (by omega)
   cases e2
   replace k0 := (hS.b.cell (p := ⟨g, i * 2, none⟩) hgl).trans k0
   replace k1 := (hS.b.cell (p := ⟨g, i * 2 + 1, none⟩) hgl).trans k1
   have HSN := hide (lessF_snoc x F i (by omega))
   have hok := unhide HFO _ (List.getElem_mem (show i < F.length by omega))
   generalize F[i]'(by omega) = o at *
   obtain ⟨kd, dt⟩ := o
   dsimp only at k0 k1
   generalize lessF x (F.take i) = y at *
   have hds : dt.size ≤ 20 := by unfold Op.ok at hok; have := of_decide_eq_true hok; exact this.2.2
   have HS := hide hS
   clear hS HAT HFO hok
   go_upto_region 9 with fail
   refine gen_world (fun q => CfS w M y q ∧ q.heap[wr.heap.size]? = some (.cells #[.int .i64 kd, .string dt] 116))
    ⟨(unhide HS).step ((Below.refl _ _).alloc (Nat.le_refl _) _), heap_alloc_new wr _⟩ ?_
   rintro q1 ⟨hS1, hO1⟩
   have hN1 : M < wr.heap.size := (Array.getElem?_eq_some_iff.1 (unhide HS).m).1
   generalize wr.heap.size = N1 at *
   have hl1 : N1 < q1.heap.size := (Array.getElem?_eq_some_iff.1 hO1).1
   obtain ⟨c0, c1, _, _⟩ := row2x hO1
   have HV1 := hide (And.intro hS1 hO1)
   clear hO1 HS k0 k1
   unfold lessOne at HSN
   dsimp only at HSN
   rcases cf_row kd with ⟨s, f, f2, f3, f4, f5, j, hs, hJ⟩ | ⟨hs, hwo, hf⟩
   ·have CR := hide (ruleOf_yes M kd dt s f f2 f3 f4 f5 j q1 hS1.m hJ.fd)
    have hcf := hJ.cf3
    have HJL := hide hJ.ls
    have h4 := sizeK_le hs
    clear hS1 hJ
    go_wp2_with fail
    refine (unhide CR).mono ?_
    rintro e w3' ⟨rfl, hb3⟩
    have HV3 := hide (And.intro ((unhide HV1).1.step hb3) ((hb3.block N1 hl1).trans (unhide HV1).2))
    have hl3 : N1 < w3'.heap.size := Nat.lt_of_lt_of_le hl1 hb3.size
    clear hb3 HV1 hl1 c0 c1 CR
    cases hq : ((dt.size : Int) == (s : Int))
    ·have hne : ¬ (sizeK kd = some dt.size) := fun e => by
      rw [hs] at e
      cases e
      rw [beq_self_eq_true] at hq
      cases hq
     rw [if_neg hne] at HSN
     go_wp2_with fail
     go_roundw
     case rel => exact ⟨i + 1, by omega, by go_num, by rw [unhide HSN]; exact (unhide HV3).1.step ((Below.refl _ _).alloc (Nat.le_refl _) _)⟩
     case measure => simp [intOf]; omega
    ·have hes : dt.size = s := by have := eq_of_beq hq; omega
     rw [if_pos (by rw [hs, hes])] at HSN
     have CN := hide fun v => numberOf kd dt v (by omega)
     have HJ2 := hide fun v => unhide HJL y (numOf dt.data.toList) v
     have CO := hide fun v => rightOr (lessK kd y (numOf dt.data.toList)) y v
     generalize numOf dt.data.toList = nx at *
     clear HJL
     go_upto_region 11 with fail
     refine gen_world (fun q => CfS w M y q ∧ q.heap[N1]? = some (.cells #[.int .i64 kd, .string dt] 116) ∧ q.heap[w3'.heap.size]? = some (.cells #[.int .i64 s, fnV f, fnV f2, fnV f3, fnV f4, fnV f5] 185))
      ⟨(unhide HV3).1.step ((Below.refl _ _).alloc (Nat.le_refl _) _), (Below.heap_alloc _ _ _ hl3).trans (unhide HV3).2, heap_alloc_new w3' _⟩ ?_
     rintro q4 ⟨hS4, hO4, hR4⟩
     generalize w3'.heap.size = N2 at *
     obtain ⟨c0, c1, _, _⟩ := row2x hO4
     obtain ⟨_, _, _, r3, _, _⟩ := row6 hR4
     obtain ⟨m0, m1, m2, m3, m4, m5⟩ := row6 hS4.x
     have HV4 := hide (And.intro hS4 (And.intro hO4 hR4))
     clear hS4 hO4 hR4 HV3
     have hn1 : N1 < q4.heap.size := (Array.getElem?_eq_some_iff.1 (unhide HV4).2.1).1
     have hn2 : N2 < q4.heap.size := (Array.getElem?_eq_some_iff.1 (unhide HV4).2.2).1
     have n1X : N1 ≠ w.heap.size := by omega
     have n2X : N2 ≠ w.heap.size := by omega
     clear m0 m1 m2 m3 m4 m5
     refine wp_region_held_drew (S := fun z => z.cell? ⟨N1, 0, none⟩ = some (.int .i64 kd) ∧ z.cell? ⟨N1, 1, none⟩ = some (.string dt) ∧ z.cell? ⟨N2, 3, none⟩ = some (fnV f3)) (by kernel_rfl) ?_ (fun hHeld => ?_)
     ·exact ⟨c0, c1, r3⟩
     refine tk 0 (v := ?va0) rfl ?hya0 ?_
     case hya0 => intro w hSw; (try dsimp only at hSw); go_simp; try with_reducible rfl
     try simp only [Act.put, sA, sZ, sS, gA, gZ]
     refine tk 1 (v := ?va1) rfl ?hya1 ?_
     case hya1 => intro w hSw; (try dsimp only at hSw); go_simp; try with_reducible rfl
     try simp only [Act.put, sA, sZ, sS, gA, gZ, gS]
     refine tk 3 (v := ?va3) rfl ?hya3 ?_
     case hya3 => intro w hSw; (try dsimp only at hSw); go_simp; try with_reducible rfl
     try simp only [Act.put, sA, sZ, sS, gA, gZ, gS]
     refine wpAnyH_ready (rs := [2, 4, 6]) (by kernel_rfl) (by simp) ?_
     refine AllReadyH.cons rfl (fun K hK => ?_) (AllReadyH.cons rfl (fun K hK => ?_) (AllReadyH.cons rfl (fun K hK => ?_) AllReadyH.nil))
     ·obtain ⟨m0, m1, m2, m3, m4, m5⟩ := row6 (unhide HV4).1.x
      go_simp
      refine hK.out _ _ ?_ (fun hH1 => ?_)
      ·exact ⟨c0, c1, r3⟩
      clear hK K m0 m1 m2 m3 m4 m5
      try simp only [Act.put, sA, sZ, sS, gA, gZ, gS]
      refine wpAnyH_ready (rs := [4, 6]) (by kernel_rfl) (by simp) ?_
      refine AllReadyH.cons rfl (fun K hK => ?_) (AllReadyH.cons rfl (fun K hK => ?_) AllReadyH.nil)
      ·go_simp
       refine (unhide CN _).mono ?_
       rintro e w5 ⟨rfl, hb5⟩
       have B5 : Below q4.heap.size q4 w5 := (Below.refl _ _).drew.trans hb5
       clear hb5
       go_wp2_with fail
       refine hK.out _ _ ?_ (fun hH2 => ?_)
       ·exact ⟨(B5.cell (p := ⟨N1, 0, none⟩) hn1).trans c0, (B5.cell (p := ⟨N1, 1, none⟩) hn1).trans c1, (B5.cell (p := ⟨N2, 3, none⟩) hn2).trans r3⟩
       clear hK K
       try simp only [Act.put, sA, sZ, sS, gA, gZ, gS]
       refine wpAnyH_ready (rs := [5, 6]) (by kernel_rfl) (by simp) ?_
       refine AllReadyH.cons rfl (fun K hK => ?_) (AllReadyH.cons rfl (fun K hK => ?_) AllReadyH.nil)
       ·go_simp
        refine (unhide HJ2 _).mono ?_
        rintro e w6 ⟨rfl, hb6⟩
        have B6 : Below q4.heap.size q4 w6 := B5.trans (hb6.mono B5.size)
        clear hb6
        go_wp2_with fail
        refine hK.out _ _ ?_ (fun hH3 => ?_)
        ·exact ⟨(B6.cell (p := ⟨N1, 0, none⟩) hn1).trans c0, (B6.cell (p := ⟨N1, 1, none⟩) hn1).trans c1, (B6.cell (p := ⟨N2, 3, none⟩) hn2).trans r3⟩
        clear hK K
        try simp only [Act.put, sA, sZ, sS, gA, gZ, gS]
        refine r1 6 rfl (fun K hK => ?_)
        ·obtain ⟨m0, m1, m2, m3, m4, m5⟩ := row6 ((unhide HV4).1.step B6).x
         go_simp
         refine hK.out _ _ ?_ (fun hH4 => ?_)
         ·exact ⟨(B6.cell (p := ⟨N1, 0, none⟩) hn1).trans c0, (B6.cell (p := ⟨N1, 1, none⟩) hn1).trans c1, (B6.cell (p := ⟨N2, 3, none⟩) hn2).trans r3⟩
         clear hK K m0 m1 m2 m3 m4 m5
         try simp only [Act.put, sA, sZ, sS, gA, gZ, gS]
         refine r1 7 rfl (fun K hK => ?_)
         ·go_simp
          refine (unhide CO _).mono ?_
          rintro e w7 ⟨rfl, hb7⟩
          have B7 : Below q4.heap.size q4 w7 := B6.trans (hb7.mono B6.size)
          clear hb7
          go_wp2_with fail
          refine hK.out _ _ ?_ (fun hH5 => ?_)
          ·exact ⟨(B7.cell (p := ⟨N1, 0, none⟩) hn1).trans c0, (B7.cell (p := ⟨N1, 1, none⟩) hn1).trans c1, (B7.cell (p := ⟨N2, 3, none⟩) hn2).trans r3⟩
          clear hK K
          try simp only [Act.put, sA, sZ, sS, gA, gZ, gS]
          refine r1 8 rfl (fun K hK => ?_)
          ·have h7 := (unhide HV4).1.step B7
           obtain ⟨m0, m1, m2, m3, m4, m5⟩ := row6 h7.x
           obtain ⟨f0', f1', f2', f3', f4', f5'⟩ := row6g h7.x
           have HL := hide (h7.put hM (rightOrF (lessK kd y nx) y))
           clear h7
           go_simp
           refine hK.out _ _ ?_ (fun hH6 => ?_)
           ·have TT := fun p (hp : p.block ≠ w.heap.size) => set6_cell (W := w7) (E := w.heap.size) p hp (.int .i64 (rightOrF (lessK kd y nx) y).m) (.int .i64 (rightOrF (lessK kd y nx) y).a) (.int .i64 (rightOrF (lessK kd y nx) y).g) (.bool (rightOrF (lessK kd y nx) y).p) (.bool (rightOrF (lessK kd y nx) y).c) (.bool (rightOrF (lessK kd y nx) y).d)
            exact ⟨(TT ⟨N1, 0, none⟩ n1X).trans ((B7.cell (p := ⟨N1, 0, none⟩) hn1).trans c0), (TT ⟨N1, 1, none⟩ n1X).trans ((B7.cell (p := ⟨N1, 1, none⟩) hn1).trans c1), (TT ⟨N2, 3, none⟩ n2X).trans ((B7.cell (p := ⟨N2, 3, none⟩) hn2).trans r3)⟩
           clear hK K
           try simp only [Act.put, sA, sZ, sS, gA, gZ, gS]
           refine wpAnyH_done (by kernel_rfl) ?_ _
           go_wp2_with fail
           go_roundw
           case rel => exact ⟨i + 1, by omega, by go_num, by rw [unhide HSN]; exact unhide HL⟩
           case measure => simp [intOf]; omega
       ·obtain ⟨m0, m1, m2, m3, m4, m5⟩ := row6 ((unhide HV4).1.step B5).x
        go_simp
        refine hK.out _ _ ?_ (fun hH7 => ?_)
        ·exact ⟨(B5.cell (p := ⟨N1, 0, none⟩) hn1).trans c0, (B5.cell (p := ⟨N1, 1, none⟩) hn1).trans c1, (B5.cell (p := ⟨N2, 3, none⟩) hn2).trans r3⟩
        clear hK K m0 m1 m2 m3 m4 m5
        try simp only [Act.put, sA, sZ, sS, gA, gZ, gS]
        refine r1 5 rfl (fun K hK => ?_)
        ·go_simp
         refine (unhide HJ2 _).mono ?_
         rintro e w6 ⟨rfl, hb6⟩
         have B6 : Below q4.heap.size q4 w6 := B5.trans (hb6.mono B5.size)
         clear hb6
         go_wp2_with fail
         refine hK.out _ _ ?_ (fun hH8 => ?_)
         ·exact ⟨(B6.cell (p := ⟨N1, 0, none⟩) hn1).trans c0, (B6.cell (p := ⟨N1, 1, none⟩) hn1).trans c1, (B6.cell (p := ⟨N2, 3, none⟩) hn2).trans r3⟩
         clear hK K
         try simp only [Act.put, sA, sZ, sS, gA, gZ, gS]
         refine r1 7 rfl (fun K hK => ?_)
         ·go_simp
          refine (unhide CO _).mono ?_
          rintro e w7 ⟨rfl, hb7⟩
          have B7 : Below q4.heap.size q4 w7 := B6.trans (hb7.mono B6.size)
          clear hb7
          go_wp2_with fail
          refine hK.out _ _ ?_ (fun hH9 => ?_)
          ·exact ⟨(B7.cell (p := ⟨N1, 0, none⟩) hn1).trans c0, (B7.cell (p := ⟨N1, 1, none⟩) hn1).trans c1, (B7.cell (p := ⟨N2, 3, none⟩) hn2).trans r3⟩
          clear hK K
          try simp only [Act.put, sA, sZ, sS, gA, gZ, gS]
          refine r1 8 rfl (fun K hK => ?_)
          ·have h7 := (unhide HV4).1.step B7
           obtain ⟨m0, m1, m2, m3, m4, m5⟩ := row6 h7.x
           obtain ⟨f0', f1', f2', f3', f4', f5'⟩ := row6g h7.x
           have HL := hide (h7.put hM (rightOrF (lessK kd y nx) y))
           clear h7
           go_simp
           refine hK.out _ _ ?_ (fun hH10 => ?_)
           ·have TT := fun p (hp : p.block ≠ w.heap.size) => set6_cell (W := w7) (E := w.heap.size) p hp (.int .i64 (rightOrF (lessK kd y nx) y).m) (.int .i64 (rightOrF (lessK kd y nx) y).a) (.int .i64 (rightOrF (lessK kd y nx) y).g) (.bool (rightOrF (lessK kd y nx) y).p) (.bool (rightOrF (lessK kd y nx) y).c) (.bool (rightOrF (lessK kd y nx) y).d)
            exact ⟨(TT ⟨N1, 0, none⟩ n1X).trans ((B7.cell (p := ⟨N1, 0, none⟩) hn1).trans c0), (TT ⟨N1, 1, none⟩ n1X).trans ((B7.cell (p := ⟨N1, 1, none⟩) hn1).trans c1), (TT ⟨N2, 3, none⟩ n2X).trans ((B7.cell (p := ⟨N2, 3, none⟩) hn2).trans r3)⟩
           clear hK K
           try simp only [Act.put, sA, sZ, sS, gA, gZ, gS]
           refine wpAnyH_done (by kernel_rfl) ?_ _
           go_wp2_with fail
           go_roundw
           case rel => exact ⟨i + 1, by omega, by go_num, by rw [unhide HSN]; exact unhide HL⟩
           case measure => simp [intOf]; omega
      ·obtain ⟨m0, m1, m2, m3, m4, m5⟩ := row6 (unhide HV4).1.x
       go_simp
       refine hK.out _ _ ?_ (fun hH11 => ?_)
       ·exact ⟨c0, c1, r3⟩
       clear hK K m0 m1 m2 m3 m4 m5
       try simp only [Act.put, sA, sZ, sS, gA, gZ, gS]
       refine r1 4 rfl (fun K hK => ?_)
       ·go_simp
        refine (unhide CN _).mono ?_
        rintro e w5 ⟨rfl, hb5⟩
        have B5 : Below q4.heap.size q4 w5 := (Below.refl _ _).drew.trans hb5
        clear hb5
        go_wp2_with fail
        refine hK.out _ _ ?_ (fun hH12 => ?_)
        ·exact ⟨(B5.cell (p := ⟨N1, 0, none⟩) hn1).trans c0, (B5.cell (p := ⟨N1, 1, none⟩) hn1).trans c1, (B5.cell (p := ⟨N2, 3, none⟩) hn2).trans r3⟩
        clear hK K
        try simp only [Act.put, sA, sZ, sS, gA, gZ, gS]
        refine r1 5 rfl (fun K hK => ?_)
        ·go_simp
         refine (unhide HJ2 _).mono ?_
         rintro e w6 ⟨rfl, hb6⟩
         have B6 : Below q4.heap.size q4 w6 := B5.trans (hb6.mono B5.size)
         clear hb6
         go_wp2_with fail
         refine hK.out _ _ ?_ (fun hH13 => ?_)
         ·exact ⟨(B6.cell (p := ⟨N1, 0, none⟩) hn1).trans c0, (B6.cell (p := ⟨N1, 1, none⟩) hn1).trans c1, (B6.cell (p := ⟨N2, 3, none⟩) hn2).trans r3⟩
         clear hK K
         try simp only [Act.put, sA, sZ, sS, gA, gZ, gS]
         refine r1 7 rfl (fun K hK => ?_)
         ·go_simp
          refine (unhide CO _).mono ?_
          rintro e w7 ⟨rfl, hb7⟩
          have B7 : Below q4.heap.size q4 w7 := B6.trans (hb7.mono B6.size)
          clear hb7
          go_wp2_with fail
          refine hK.out _ _ ?_ (fun hH14 => ?_)
          ·exact ⟨(B7.cell (p := ⟨N1, 0, none⟩) hn1).trans c0, (B7.cell (p := ⟨N1, 1, none⟩) hn1).trans c1, (B7.cell (p := ⟨N2, 3, none⟩) hn2).trans r3⟩
          clear hK K
          try simp only [Act.put, sA, sZ, sS, gA, gZ, gS]
          refine r1 8 rfl (fun K hK => ?_)
          ·have h7 := (unhide HV4).1.step B7
           obtain ⟨m0, m1, m2, m3, m4, m5⟩ := row6 h7.x
           obtain ⟨f0', f1', f2', f3', f4', f5'⟩ := row6g h7.x
           have HL := hide (h7.put hM (rightOrF (lessK kd y nx) y))
           clear h7
           go_simp
           refine hK.out _ _ ?_ (fun hH15 => ?_)
           ·have TT := fun p (hp : p.block ≠ w.heap.size) => set6_cell (W := w7) (E := w.heap.size) p hp (.int .i64 (rightOrF (lessK kd y nx) y).m) (.int .i64 (rightOrF (lessK kd y nx) y).a) (.int .i64 (rightOrF (lessK kd y nx) y).g) (.bool (rightOrF (lessK kd y nx) y).p) (.bool (rightOrF (lessK kd y nx) y).c) (.bool (rightOrF (lessK kd y nx) y).d)
            exact ⟨(TT ⟨N1, 0, none⟩ n1X).trans ((B7.cell (p := ⟨N1, 0, none⟩) hn1).trans c0), (TT ⟨N1, 1, none⟩ n1X).trans ((B7.cell (p := ⟨N1, 1, none⟩) hn1).trans c1), (TT ⟨N2, 3, none⟩ n2X).trans ((B7.cell (p := ⟨N2, 3, none⟩) hn2).trans r3)⟩
           clear hK K
           try simp only [Act.put, sA, sZ, sS, gA, gZ, gS]
           refine wpAnyH_done (by kernel_rfl) ?_ _
           go_wp2_with fail
           go_roundw
           case rel => exact ⟨i + 1, by omega, by go_num, by rw [unhide HSN]; exact unhide HL⟩
           case measure => simp [intOf]; omega
     ·go_simp
      refine (unhide CN _).mono ?_
      rintro e w5 ⟨rfl, hb5⟩
      have B5 : Below q4.heap.size q4 w5 := (Below.refl _ _).drew.trans hb5
      clear hb5
      go_wp2_with fail
      refine hK.out _ _ ?_ (fun hH16 => ?_)
      ·exact ⟨(B5.cell (p := ⟨N1, 0, none⟩) hn1).trans c0, (B5.cell (p := ⟨N1, 1, none⟩) hn1).trans c1, (B5.cell (p := ⟨N2, 3, none⟩) hn2).trans r3⟩
      clear hK K
      try simp only [Act.put, sA, sZ, sS, gA, gZ, gS]
      refine wpAnyH_ready (rs := [2, 6]) (by kernel_rfl) (by simp) ?_
      refine AllReadyH.cons rfl (fun K hK => ?_) (AllReadyH.cons rfl (fun K hK => ?_) AllReadyH.nil)
      ·obtain ⟨m0, m1, m2, m3, m4, m5⟩ := row6 ((unhide HV4).1.step B5).x
       go_simp
       refine hK.out _ _ ?_ (fun hH17 => ?_)
       ·exact ⟨(B5.cell (p := ⟨N1, 0, none⟩) hn1).trans c0, (B5.cell (p := ⟨N1, 1, none⟩) hn1).trans c1, (B5.cell (p := ⟨N2, 3, none⟩) hn2).trans r3⟩
       clear hK K m0 m1 m2 m3 m4 m5
       try simp only [Act.put, sA, sZ, sS, gA, gZ, gS]
       refine wpAnyH_ready (rs := [5, 6]) (by kernel_rfl) (by simp) ?_
       refine AllReadyH.cons rfl (fun K hK => ?_) (AllReadyH.cons rfl (fun K hK => ?_) AllReadyH.nil)
       ·go_simp
        refine (unhide HJ2 _).mono ?_
        rintro e w6 ⟨rfl, hb6⟩
        have B6 : Below q4.heap.size q4 w6 := B5.trans (hb6.mono B5.size)
        clear hb6
        go_wp2_with fail
        refine hK.out _ _ ?_ (fun hH18 => ?_)
        ·exact ⟨(B6.cell (p := ⟨N1, 0, none⟩) hn1).trans c0, (B6.cell (p := ⟨N1, 1, none⟩) hn1).trans c1, (B6.cell (p := ⟨N2, 3, none⟩) hn2).trans r3⟩
        clear hK K
        try simp only [Act.put, sA, sZ, sS, gA, gZ, gS]
        refine r1 6 rfl (fun K hK => ?_)
        ·obtain ⟨m0, m1, m2, m3, m4, m5⟩ := row6 ((unhide HV4).1.step B6).x
         go_simp
         refine hK.out _ _ ?_ (fun hH19 => ?_)
         ·exact ⟨(B6.cell (p := ⟨N1, 0, none⟩) hn1).trans c0, (B6.cell (p := ⟨N1, 1, none⟩) hn1).trans c1, (B6.cell (p := ⟨N2, 3, none⟩) hn2).trans r3⟩
         clear hK K m0 m1 m2 m3 m4 m5
         try simp only [Act.put, sA, sZ, sS, gA, gZ, gS]
         refine r1 7 rfl (fun K hK => ?_)
         ·go_simp
          refine (unhide CO _).mono ?_
          rintro e w7 ⟨rfl, hb7⟩
          have B7 : Below q4.heap.size q4 w7 := B6.trans (hb7.mono B6.size)
          clear hb7
          go_wp2_with fail
          refine hK.out _ _ ?_ (fun hH20 => ?_)
          ·exact ⟨(B7.cell (p := ⟨N1, 0, none⟩) hn1).trans c0, (B7.cell (p := ⟨N1, 1, none⟩) hn1).trans c1, (B7.cell (p := ⟨N2, 3, none⟩) hn2).trans r3⟩
          clear hK K
          try simp only [Act.put, sA, sZ, sS, gA, gZ, gS]
          refine r1 8 rfl (fun K hK => ?_)
          ·have h7 := (unhide HV4).1.step B7
           obtain ⟨m0, m1, m2, m3, m4, m5⟩ := row6 h7.x
           obtain ⟨f0', f1', f2', f3', f4', f5'⟩ := row6g h7.x
           have HL := hide (h7.put hM (rightOrF (lessK kd y nx) y))
           clear h7
           go_simp
           refine hK.out _ _ ?_ (fun hH21 => ?_)
           ·have TT := fun p (hp : p.block ≠ w.heap.size) => set6_cell (W := w7) (E := w.heap.size) p hp (.int .i64 (rightOrF (lessK kd y nx) y).m) (.int .i64 (rightOrF (lessK kd y nx) y).a) (.int .i64 (rightOrF (lessK kd y nx) y).g) (.bool (rightOrF (lessK kd y nx) y).p) (.bool (rightOrF (lessK kd y nx) y).c) (.bool (rightOrF (lessK kd y nx) y).d)
            exact ⟨(TT ⟨N1, 0, none⟩ n1X).trans ((B7.cell (p := ⟨N1, 0, none⟩) hn1).trans c0), (TT ⟨N1, 1, none⟩ n1X).trans ((B7.cell (p := ⟨N1, 1, none⟩) hn1).trans c1), (TT ⟨N2, 3, none⟩ n2X).trans ((B7.cell (p := ⟨N2, 3, none⟩) hn2).trans r3)⟩
           clear hK K
           try simp only [Act.put, sA, sZ, sS, gA, gZ, gS]
           refine wpAnyH_done (by kernel_rfl) ?_ _
           go_wp2_with fail
           go_roundw
           case rel => exact ⟨i + 1, by omega, by go_num, by rw [unhide HSN]; exact unhide HL⟩
           case measure => simp [intOf]; omega
       ·obtain ⟨m0, m1, m2, m3, m4, m5⟩ := row6 ((unhide HV4).1.step B5).x
        go_simp
        refine hK.out _ _ ?_ (fun hH22 => ?_)
        ·exact ⟨(B5.cell (p := ⟨N1, 0, none⟩) hn1).trans c0, (B5.cell (p := ⟨N1, 1, none⟩) hn1).trans c1, (B5.cell (p := ⟨N2, 3, none⟩) hn2).trans r3⟩
        clear hK K m0 m1 m2 m3 m4 m5
        try simp only [Act.put, sA, sZ, sS, gA, gZ, gS]
        refine r1 5 rfl (fun K hK => ?_)
        ·go_simp
         refine (unhide HJ2 _).mono ?_
         rintro e w6 ⟨rfl, hb6⟩
         have B6 : Below q4.heap.size q4 w6 := B5.trans (hb6.mono B5.size)
         clear hb6
         go_wp2_with fail
         refine hK.out _ _ ?_ (fun hH23 => ?_)
         ·exact ⟨(B6.cell (p := ⟨N1, 0, none⟩) hn1).trans c0, (B6.cell (p := ⟨N1, 1, none⟩) hn1).trans c1, (B6.cell (p := ⟨N2, 3, none⟩) hn2).trans r3⟩
         clear hK K
         try simp only [Act.put, sA, sZ, sS, gA, gZ, gS]
         refine r1 7 rfl (fun K hK => ?_)
         ·go_simp
          refine (unhide CO _).mono ?_
          rintro e w7 ⟨rfl, hb7⟩
          have B7 : Below q4.heap.size q4 w7 := B6.trans (hb7.mono B6.size)
          clear hb7
          go_wp2_with fail
          refine hK.out _ _ ?_ (fun hH24 => ?_)
          ·exact ⟨(B7.cell (p := ⟨N1, 0, none⟩) hn1).trans c0, (B7.cell (p := ⟨N1, 1, none⟩) hn1).trans c1, (B7.cell (p := ⟨N2, 3, none⟩) hn2).trans r3⟩
          clear hK K
          try simp only [Act.put, sA, sZ, sS, gA, gZ, gS]
          refine r1 8 rfl (fun K hK => ?_)
          ·have h7 := (unhide HV4).1.step B7
           obtain ⟨m0, m1, m2, m3, m4, m5⟩ := row6 h7.x
           obtain ⟨f0', f1', f2', f3', f4', f5'⟩ := row6g h7.x
           have HL := hide (h7.put hM (rightOrF (lessK kd y nx) y))
           clear h7
           go_simp
           refine hK.out _ _ ?_ (fun hH25 => ?_)
           ·have TT := fun p (hp : p.block ≠ w.heap.size) => set6_cell (W := w7) (E := w.heap.size) p hp (.int .i64 (rightOrF (lessK kd y nx) y).m) (.int .i64 (rightOrF (lessK kd y nx) y).a) (.int .i64 (rightOrF (lessK kd y nx) y).g) (.bool (rightOrF (lessK kd y nx) y).p) (.bool (rightOrF (lessK kd y nx) y).c) (.bool (rightOrF (lessK kd y nx) y).d)
            exact ⟨(TT ⟨N1, 0, none⟩ n1X).trans ((B7.cell (p := ⟨N1, 0, none⟩) hn1).trans c0), (TT ⟨N1, 1, none⟩ n1X).trans ((B7.cell (p := ⟨N1, 1, none⟩) hn1).trans c1), (TT ⟨N2, 3, none⟩ n2X).trans ((B7.cell (p := ⟨N2, 3, none⟩) hn2).trans r3)⟩
           clear hK K
           try simp only [Act.put, sA, sZ, sS, gA, gZ, gS]
           refine wpAnyH_done (by kernel_rfl) ?_ _
           go_wp2_with fail
           go_roundw
           case rel => exact ⟨i + 1, by omega, by go_num, by rw [unhide HSN]; exact unhide HL⟩
           case measure => simp [intOf]; omega
      ·obtain ⟨m0, m1, m2, m3, m4, m5⟩ := row6 ((unhide HV4).1.step B5).x
       go_simp
       refine hK.out _ _ ?_ (fun hH26 => ?_)
       ·exact ⟨(B5.cell (p := ⟨N1, 0, none⟩) hn1).trans c0, (B5.cell (p := ⟨N1, 1, none⟩) hn1).trans c1, (B5.cell (p := ⟨N2, 3, none⟩) hn2).trans r3⟩
       clear hK K m0 m1 m2 m3 m4 m5
       try simp only [Act.put, sA, sZ, sS, gA, gZ, gS]
       refine r1 2 rfl (fun K hK => ?_)
       ·obtain ⟨m0, m1, m2, m3, m4, m5⟩ := row6 ((unhide HV4).1.step B5).x
        go_simp
        refine hK.out _ _ ?_ (fun hH27 => ?_)
        ·exact ⟨(B5.cell (p := ⟨N1, 0, none⟩) hn1).trans c0, (B5.cell (p := ⟨N1, 1, none⟩) hn1).trans c1, (B5.cell (p := ⟨N2, 3, none⟩) hn2).trans r3⟩
        clear hK K m0 m1 m2 m3 m4 m5
        try simp only [Act.put, sA, sZ, sS, gA, gZ, gS]
        refine r1 5 rfl (fun K hK => ?_)
        ·go_simp
         refine (unhide HJ2 _).mono ?_
         rintro e w6 ⟨rfl, hb6⟩
         have B6 : Below q4.heap.size q4 w6 := B5.trans (hb6.mono B5.size)
         clear hb6
         go_wp2_with fail
         refine hK.out _ _ ?_ (fun hH28 => ?_)
         ·exact ⟨(B6.cell (p := ⟨N1, 0, none⟩) hn1).trans c0, (B6.cell (p := ⟨N1, 1, none⟩) hn1).trans c1, (B6.cell (p := ⟨N2, 3, none⟩) hn2).trans r3⟩
         clear hK K
         try simp only [Act.put, sA, sZ, sS, gA, gZ, gS]
         refine r1 7 rfl (fun K hK => ?_)
         ·go_simp
          refine (unhide CO _).mono ?_
          rintro e w7 ⟨rfl, hb7⟩
          have B7 : Below q4.heap.size q4 w7 := B6.trans (hb7.mono B6.size)
          clear hb7
          go_wp2_with fail
          refine hK.out _ _ ?_ (fun hH29 => ?_)
          ·exact ⟨(B7.cell (p := ⟨N1, 0, none⟩) hn1).trans c0, (B7.cell (p := ⟨N1, 1, none⟩) hn1).trans c1, (B7.cell (p := ⟨N2, 3, none⟩) hn2).trans r3⟩
          clear hK K
          try simp only [Act.put, sA, sZ, sS, gA, gZ, gS]
          refine r1 8 rfl (fun K hK => ?_)
          ·have h7 := (unhide HV4).1.step B7
           obtain ⟨m0, m1, m2, m3, m4, m5⟩ := row6 h7.x
           obtain ⟨f0', f1', f2', f3', f4', f5'⟩ := row6g h7.x
           have HL := hide (h7.put hM (rightOrF (lessK kd y nx) y))
           clear h7
           go_simp
           refine hK.out _ _ ?_ (fun hH30 => ?_)
           ·have TT := fun p (hp : p.block ≠ w.heap.size) => set6_cell (W := w7) (E := w.heap.size) p hp (.int .i64 (rightOrF (lessK kd y nx) y).m) (.int .i64 (rightOrF (lessK kd y nx) y).a) (.int .i64 (rightOrF (lessK kd y nx) y).g) (.bool (rightOrF (lessK kd y nx) y).p) (.bool (rightOrF (lessK kd y nx) y).c) (.bool (rightOrF (lessK kd y nx) y).d)
            exact ⟨(TT ⟨N1, 0, none⟩ n1X).trans ((B7.cell (p := ⟨N1, 0, none⟩) hn1).trans c0), (TT ⟨N1, 1, none⟩ n1X).trans ((B7.cell (p := ⟨N1, 1, none⟩) hn1).trans c1), (TT ⟨N2, 3, none⟩ n2X).trans ((B7.cell (p := ⟨N2, 3, none⟩) hn2).trans r3)⟩
           clear hK K
           try simp only [Act.put, sA, sZ, sS, gA, gZ, gS]
           refine wpAnyH_done (by kernel_rfl) ?_ _
           go_wp2_with fail
           go_roundw
           case rel => exact ⟨i + 1, by omega, by go_num, by rw [unhide HSN]; exact unhide HL⟩
           case measure => simp [intOf]; omega
     ·obtain ⟨m0, m1, m2, m3, m4, m5⟩ := row6 (unhide HV4).1.x
      go_simp
      refine hK.out _ _ ?_ (fun hH31 => ?_)
      ·exact ⟨c0, c1, r3⟩
      clear hK K m0 m1 m2 m3 m4 m5
      try simp only [Act.put, sA, sZ, sS, gA, gZ, gS]
      refine wpAnyH_ready (rs := [2, 4]) (by kernel_rfl) (by simp) ?_
      refine AllReadyH.cons rfl (fun K hK => ?_) (AllReadyH.cons rfl (fun K hK => ?_) AllReadyH.nil)
      ·obtain ⟨m0, m1, m2, m3, m4, m5⟩ := row6 (unhide HV4).1.x
       go_simp
       refine hK.out _ _ ?_ (fun hH32 => ?_)
       ·exact ⟨c0, c1, r3⟩
       clear hK K m0 m1 m2 m3 m4 m5
       try simp only [Act.put, sA, sZ, sS, gA, gZ, gS]
       refine r1 4 rfl (fun K hK => ?_)
       ·go_simp
        refine (unhide CN _).mono ?_
        rintro e w5 ⟨rfl, hb5⟩
        have B5 : Below q4.heap.size q4 w5 := (Below.refl _ _).drew.trans hb5
        clear hb5
        go_wp2_with fail
        refine hK.out _ _ ?_ (fun hH33 => ?_)
        ·exact ⟨(B5.cell (p := ⟨N1, 0, none⟩) hn1).trans c0, (B5.cell (p := ⟨N1, 1, none⟩) hn1).trans c1, (B5.cell (p := ⟨N2, 3, none⟩) hn2).trans r3⟩
        clear hK K
        try simp only [Act.put, sA, sZ, sS, gA, gZ, gS]
        refine r1 5 rfl (fun K hK => ?_)
        ·go_simp
         refine (unhide HJ2 _).mono ?_
         rintro e w6 ⟨rfl, hb6⟩
         have B6 : Below q4.heap.size q4 w6 := B5.trans (hb6.mono B5.size)
         clear hb6
         go_wp2_with fail
         refine hK.out _ _ ?_ (fun hH34 => ?_)
         ·exact ⟨(B6.cell (p := ⟨N1, 0, none⟩) hn1).trans c0, (B6.cell (p := ⟨N1, 1, none⟩) hn1).trans c1, (B6.cell (p := ⟨N2, 3, none⟩) hn2).trans r3⟩
         clear hK K
         try simp only [Act.put, sA, sZ, sS, gA, gZ, gS]
         refine r1 7 rfl (fun K hK => ?_)
         ·go_simp
          refine (unhide CO _).mono ?_
          rintro e w7 ⟨rfl, hb7⟩
          have B7 : Below q4.heap.size q4 w7 := B6.trans (hb7.mono B6.size)
          clear hb7
          go_wp2_with fail
          refine hK.out _ _ ?_ (fun hH35 => ?_)
          ·exact ⟨(B7.cell (p := ⟨N1, 0, none⟩) hn1).trans c0, (B7.cell (p := ⟨N1, 1, none⟩) hn1).trans c1, (B7.cell (p := ⟨N2, 3, none⟩) hn2).trans r3⟩
          clear hK K
          try simp only [Act.put, sA, sZ, sS, gA, gZ, gS]
          refine r1 8 rfl (fun K hK => ?_)
          ·have h7 := (unhide HV4).1.step B7
           obtain ⟨m0, m1, m2, m3, m4, m5⟩ := row6 h7.x
           obtain ⟨f0', f1', f2', f3', f4', f5'⟩ := row6g h7.x
           have HL := hide (h7.put hM (rightOrF (lessK kd y nx) y))
           clear h7
           go_simp
           refine hK.out _ _ ?_ (fun hH36 => ?_)
           ·have TT := fun p (hp : p.block ≠ w.heap.size) => set6_cell (W := w7) (E := w.heap.size) p hp (.int .i64 (rightOrF (lessK kd y nx) y).m) (.int .i64 (rightOrF (lessK kd y nx) y).a) (.int .i64 (rightOrF (lessK kd y nx) y).g) (.bool (rightOrF (lessK kd y nx) y).p) (.bool (rightOrF (lessK kd y nx) y).c) (.bool (rightOrF (lessK kd y nx) y).d)
            exact ⟨(TT ⟨N1, 0, none⟩ n1X).trans ((B7.cell (p := ⟨N1, 0, none⟩) hn1).trans c0), (TT ⟨N1, 1, none⟩ n1X).trans ((B7.cell (p := ⟨N1, 1, none⟩) hn1).trans c1), (TT ⟨N2, 3, none⟩ n2X).trans ((B7.cell (p := ⟨N2, 3, none⟩) hn2).trans r3)⟩
           clear hK K
           try simp only [Act.put, sA, sZ, sS, gA, gZ, gS]
           refine wpAnyH_done (by kernel_rfl) ?_ _
           go_wp2_with fail
           go_roundw
           case rel => exact ⟨i + 1, by omega, by go_num, by rw [unhide HSN]; exact unhide HL⟩
           case measure => simp [intOf]; omega
      ·go_simp
       refine (unhide CN _).mono ?_
       rintro e w5 ⟨rfl, hb5⟩
       have B5 : Below q4.heap.size q4 w5 := (Below.refl _ _).drew.trans hb5
       clear hb5
       go_wp2_with fail
       refine hK.out _ _ ?_ (fun hH37 => ?_)
       ·exact ⟨(B5.cell (p := ⟨N1, 0, none⟩) hn1).trans c0, (B5.cell (p := ⟨N1, 1, none⟩) hn1).trans c1, (B5.cell (p := ⟨N2, 3, none⟩) hn2).trans r3⟩
       clear hK K
       try simp only [Act.put, sA, sZ, sS, gA, gZ, gS]
       refine r1 2 rfl (fun K hK => ?_)
       ·obtain ⟨m0, m1, m2, m3, m4, m5⟩ := row6 ((unhide HV4).1.step B5).x
        go_simp
        refine hK.out _ _ ?_ (fun hH38 => ?_)
        ·exact ⟨(B5.cell (p := ⟨N1, 0, none⟩) hn1).trans c0, (B5.cell (p := ⟨N1, 1, none⟩) hn1).trans c1, (B5.cell (p := ⟨N2, 3, none⟩) hn2).trans r3⟩
        clear hK K m0 m1 m2 m3 m4 m5
        try simp only [Act.put, sA, sZ, sS, gA, gZ, gS]
        refine r1 5 rfl (fun K hK => ?_)
        ·go_simp
         refine (unhide HJ2 _).mono ?_
         rintro e w6 ⟨rfl, hb6⟩
         have B6 : Below q4.heap.size q4 w6 := B5.trans (hb6.mono B5.size)
         clear hb6
         go_wp2_with fail
         refine hK.out _ _ ?_ (fun hH39 => ?_)
         ·exact ⟨(B6.cell (p := ⟨N1, 0, none⟩) hn1).trans c0, (B6.cell (p := ⟨N1, 1, none⟩) hn1).trans c1, (B6.cell (p := ⟨N2, 3, none⟩) hn2).trans r3⟩
         clear hK K
         try simp only [Act.put, sA, sZ, sS, gA, gZ, gS]
         refine r1 7 rfl (fun K hK => ?_)
         ·go_simp
          refine (unhide CO _).mono ?_
          rintro e w7 ⟨rfl, hb7⟩
          have B7 : Below q4.heap.size q4 w7 := B6.trans (hb7.mono B6.size)
          clear hb7
          go_wp2_with fail
          refine hK.out _ _ ?_ (fun hH40 => ?_)
          ·exact ⟨(B7.cell (p := ⟨N1, 0, none⟩) hn1).trans c0, (B7.cell (p := ⟨N1, 1, none⟩) hn1).trans c1, (B7.cell (p := ⟨N2, 3, none⟩) hn2).trans r3⟩
          clear hK K
          try simp only [Act.put, sA, sZ, sS, gA, gZ, gS]
          refine r1 8 rfl (fun K hK => ?_)
          ·have h7 := (unhide HV4).1.step B7
           obtain ⟨m0, m1, m2, m3, m4, m5⟩ := row6 h7.x
           obtain ⟨f0', f1', f2', f3', f4', f5'⟩ := row6g h7.x
           have HL := hide (h7.put hM (rightOrF (lessK kd y nx) y))
           clear h7
           go_simp
           refine hK.out _ _ ?_ (fun hH41 => ?_)
           ·have TT := fun p (hp : p.block ≠ w.heap.size) => set6_cell (W := w7) (E := w.heap.size) p hp (.int .i64 (rightOrF (lessK kd y nx) y).m) (.int .i64 (rightOrF (lessK kd y nx) y).a) (.int .i64 (rightOrF (lessK kd y nx) y).g) (.bool (rightOrF (lessK kd y nx) y).p) (.bool (rightOrF (lessK kd y nx) y).c) (.bool (rightOrF (lessK kd y nx) y).d)
            exact ⟨(TT ⟨N1, 0, none⟩ n1X).trans ((B7.cell (p := ⟨N1, 0, none⟩) hn1).trans c0), (TT ⟨N1, 1, none⟩ n1X).trans ((B7.cell (p := ⟨N1, 1, none⟩) hn1).trans c1), (TT ⟨N2, 3, none⟩ n2X).trans ((B7.cell (p := ⟨N2, 3, none⟩) hn2).trans r3)⟩
           clear hK K
           try simp only [Act.put, sA, sZ, sS, gA, gZ, gS]
           refine wpAnyH_done (by kernel_rfl) ?_ _
           go_wp2_with fail
           go_roundw
           case rel => exact ⟨i + 1, by omega, by go_num, by rw [unhide HSN]; exact unhide HL⟩
           case measure => simp [intOf]; omega
   ·have CR := hide (ruleOf_no M kd dt q1 hS1.m hf)
    rw [if_neg (by rw [hs]; intro e; cases e)] at HSN
    clear hS1 hf
    go_wp2_with fail
    refine (unhide CR).mono ?_
    rintro e w3' ⟨rfl, hb3⟩
    have HV3 := hide ((unhide HV1).1.step hb3)
    clear hb3 HV1 hl1 c0 c1 CR
    go_wp2_with fail
    go_roundw
    case rel => exact ⟨i + 1, by omega, by go_num, by rw [unhide HSN]; exact (unhide HV3).step ((Below.refl _ _).alloc (Nat.le_refl _) _)⟩
    case measure => simp [intOf]; omega
  ·have e : i = n := by omega
   subst e
   have d1 : ¬ ((i : Int) < (i : Int)) := by omega
   rw [unhide HTL, unhide HR] at hS
   obtain ⟨m0, m1, m2, m3, m4, m5⟩ := row6 hS.x
   obtain ⟨r0, r1, r2, r3, r4, r5⟩ := row6 hS.r
   obtain ⟨f0, f1, f2, f3, f4, f5⟩ := row6g hS.r
   have HS := hide hS
   clear hS HAT HFO HTL HR
   go_wp2
   exact bodyPost_ret (v := .agg (cfC R)) (by simp [results, Tryz.results130, asAddr, loadC (set6_at (unhide HS).r (.int .i64 R.m) (.int .i64 R.a) (.int .i64 R.g) (.bool R.p) (.bool R.c) (.bool R.d))]) rfl ⟨rfl, set6_below (unhide HS).b (by omega) _ _ _ _ _ _⟩
end Go.Proofs.YtahpjlbaagkdoaaGreatDoor
