/- The law FnOptions walked: it returns true, and what lay in memory stands; under the library's variable errors.errorType as it is laid. -/
import Derived.Test.YtgelbobocjgdaaaDoorDrawOb
import Derived.Test.YtgelbobocjgdaaaDoorDrawPb
import Derived.Test.YtgelbobocjgdaaaDoorOptMath
import Derived.Test.YtgelbobocjgdaaaDoorLwOpt
import Derived.Test.YtgelbobocjgdaaaDoorSpecPkt
namespace Go.Proofs.YtgelbobocjgdaaaDoor
open Go.RowKit
theorem infoSo : (Tryd.prog.info? 48).map (·.size) = some 1 := by kernel_rfl
theorem infoIl : (Tryd.prog.info? 2).map (·.size) = some 1 := by kernel_rfl
theorem field_oo0 (x0 x1 : Value) (W : World) : (Instr.field 54 (.agg #[x0, x1]) 0).run Tryd.prog W = .ok x0 W := by
  cases hq : Tryd.prog.info? 48 with
  | none => have := infoSo; rw [hq] at this; cases this
  | some i =>
    have hs : i.size = 1 := by have := infoSo; rw [hq] at this; simpa using this
    simp [Instr.field, run_underlying Tryd.underlying54, part, asAgg, sizeOf, typeInfo, hq, hs]
theorem field_oo1 (x0 x1 : Value) (W : World) : (Instr.field 54 (.agg #[x0, x1]) 1).run Tryd.prog W = .ok x1 W := by
  cases hq : Tryd.prog.info? 48 with
  | none => have := infoSo; rw [hq] at this; cases this
  | some i =>
    have hs : i.size = 1 := by have := infoSo; rw [hq] at this; simpa using this
    cases hq2 : Tryd.prog.info? 2 with
    | none => have := infoIl; rw [hq2] at this; cases this
    | some j =>
      have hs2 : j.size = 1 := by have := infoIl; rw [hq2] at this; simpa using this
      simp [Instr.field, run_underlying Tryd.underlying54, part, asAgg, sizeOf, typeInfo, hq2, hs2]
theorem ptV_fact (p : Op.Pk) : ptV p = ⟨#[]⟩ ∨ (ptV p ≠ ⟨#[]⟩ ∧ Op.pread (ptV p ++ ⟨#[120]⟩).data.toList = ⟨p, 0⟩) := by
  cases h : Op.pok p
  · exact Or.inl (ptV_no h)
  · refine Or.inr ⟨fun e => ?_, ?_⟩
    · have e2 := congrArg ByteArray.size e
      rw [ptV_yes h, ByteArray.size_append, txt_size] at e2
      have e3 : 4 + p.data.size = 0 := e2
      omega
    · have e : ptV p ++ (⟨#[120]⟩ : ByteArray) = txt (Op.ptold p ++ [120]) := (txt_append _ _).symm
      rw [e, data_txt]
      exact pread_back h [120] (by simp)
theorem ptV_pre {v : ByteArray} (h : (Op.pread v.data.toList).code = 0) : (ptV (Op.pread v.data.toList).pk).size ≤ v.size ∧ v.extract 0 (ptV (Op.pread v.data.toList).pk).size = ptV (Op.pread v.data.toList).pk := by
  obtain ⟨h1, h2⟩ := pread_pre h
  rw [len_dat] at h1
  unfold ptV
  rw [txt_size]
  exact ⟨h1, by rw [txt_ext, List.drop_zero, Nat.sub_zero, h2]⟩
set_option maxHeartbeats 8000000 in
set_option maxRecDepth 100000 in
theorem lawOps (w : World) (s1 s2 : Value) (n1 n2 : Nat) (h1 : n1 ≤ maxLen) (h2 : n2 ≤ maxLen) (hD1 : Dat w w.heap.size s1 n1) (hD2 : Dat w w.heap.size s2 n2) (hE : Et w)
    (hl1 : n1 ≤ 1048576) (hl2 : n2 ≤ 1048576) :
    Calls Tryd.prog 5 #[s1, s2] w fun e w' => e = .returned (.bool true) ∧ Below w.heap.size w w' := by
  have hlt0 := hE.lt
  have c1 := drawOb w s1 n1 h1 hD1
  have CD2 := hide fun v (hv : Below w.heap.size w v) => drawOr v s2 n2 h2 ((hD2.below hv).mono hv.size)
  have CD3 := hide fun v (hv : Below w.heap.size w v) => drawPb v s1 n1 h1 ((hD1.below hv).mono hv.size)
  have CD4 := hide fun v (hv : Below w.heap.size w v) => drawPr v s2 n2 h2 ((hD2.below hv).mono hv.size)
  have HE := hide fun v (hv : Below w.heap.size w v) => hE.below hv hlt0
  obtain ⟨a1, cap1, rfl⟩ := hD1.1
  obtain ⟨a2, cap2, rfl⟩ := hD2.1
  clear hD1 hD2 hE
  have fo0 := field_oo0
  have fo1 := field_oo1
  have d1 : ¬ ((1048576 : Int) < (n1 : Int)) := by omega
  have d2 : ¬ ((1048576 : Int) < (n2 : Int)) := by omega
  go_enter Tryd.func5, Tryd.ntmps5
  go_wp2_with fail
  refine c1.mono ?_
  rintro e w1 ⟨F, ad, cp, rfl, hF, hh, hb1⟩
  have HH := hide hh
  have hm : F.length ≤ maxLen := by unfold maxLen; omega
  have CIB := hide fun v (hv : Below w1.heap.size w1 v) => implBytesAll (.slice ad F.length cp) F v hm ((unhide HH).below hv rfl)
  have CSB := hide fun v (hv : Below w1.heap.size w1 v) => specBytesAll (.slice ad F.length cp) F v hm ((unhide HH).below hv rfl)
  have CIR := hide fun v (hv : Below w1.heap.size w1 v) => implRightAll (.slice ad F.length cp) F v hm ((unhide HH).below hv rfl)
  have CSR := hide fun v (hv : Below w1.heap.size w1 v) => specRightAll (.slice ad F.length cp) F v hm ((unhide HH).below hv rfl)
  have hVs := otV_size F
  have CRD := hide fun v hv => implOptsRead (otV F) v (by unfold maxLen; omega) hv
  have HBK := hide (otV_back (F := F))
  generalize otV F = V at *
  clear hm c1 hh
  go_wp2_with fail
  refine (unhide CIB _ (Below.refl _ _)).mono ?_
  rintro e w2 ⟨rfl, hb2⟩
  have hB2 := hb1.trans (hb2.mono hb1.size)
  clear CIB
  go_upto_region 5 with fail
  go_cut [48] (fun b wx => b = .bool false ∧ Below w.heap.size w wx)
  case first =>
    go_wp2_with fail
    refine (unhide CSB _ hb2).mono ?_
    rintro e w3 ⟨rfl, hb3⟩
    have hb13 := hb2.trans (hb3.mono hb2.size)
    go_wp2_with fail
    refine (unhide CIR _ hb13).mono ?_
    rintro e w4 ⟨rfl, hb4⟩
    have hb14 := hb13.trans (hb4.mono hb13.size)
    go_wp2_with fail
    refine (unhide CSR _ hb14).mono ?_
    rintro e w5 ⟨rfl, hb5⟩
    have hb15 := hb14.trans (hb5.mono hb14.size)
    clear hb3 hb4 hb5 hb13 hb14
    cases hr : Op.right F
    · rw [hr] at CSR
      clear CSB CIR HBK CRD hr
      go_wp2_with fail
      refine (unhide CSR _ hb15).mono ?_
      rintro e w6 ⟨rfl, hb6⟩
      have hb16 := hb15.trans (hb6.mono hb15.size)
      go_wp2_with fail
      go_meet
      exact ⟨rfl, hb1.trans (hb16.mono hb1.size)⟩
    · rw [hr] at CSR
      have hbk := unhide HBK hr
      rw [hbk] at CRD
      clear CSB CIR HBK hr hbk
      go_wp2_with fail
      refine (unhide CSR _ hb15).mono ?_
      rintro e w6 ⟨rfl, hb6⟩
      have hb16 := hb15.trans (hb6.mono hb15.size)
      have hB16 := hb1.trans (hb16.mono hb1.size)
      go_wp2_with fail
      refine (unhide CRD _ (unhide HE _ hB16)).mono ?_
      rintro e w7 ⟨ad7, cp7, rfl, ho7, hb7⟩
      have hb17 := hb16.trans (hb7.mono hb16.size)
      have hh7 := HoldsO.own ho7
      dsimp only at hh7 ⊢
      clear ho7 hb7 hb6 CSR CRD
      go_wp2_with fail
      refine (lwO _ _ F w7 (by omega) hh7 ((unhide HH).below hb17 rfl)).mono ?_
      rintro e w8 ⟨rfl, hb8⟩
      have hb18 := hb17.trans (hb8.mono hb17.size)
      go_wp2_with fail
      go_meet
      exact ⟨rfl, hb1.trans (hb18.mono hb1.size)⟩
  case rest =>
    obtain ⟨hu48, hbc⟩ := hcut
    subst hu48
    clear CSB CIR CSR CRD HBK HH hb1 hb2 hB2 hVs
    go_wp2_with fail
    refine (unhide CD2 _ hbc).mono ?_
    rintro e w3 ⟨u, rfl, hus, hb3⟩
    have hB3 := hbc.trans (hb3.mono hbc.size)
    have hum : u.size ≤ maxLen := by unfold maxLen; omega
    have CR := hide (implOptsRead u w3 hum (unhide HE _ hB3))
    have CS := hide fun v => specOptsRead u v hum
    have HTD := hide (otV_told (u := u))
    have hLl := Op.right_len (oread_right u)
    generalize oread u = o at *
    obtain ⟨L, oc⟩ := o
    dsimp only at hLl HTD
    clear hum hb3 CD2
    go_wp2_with fail
    refine (unhide CR).mono ?_
    rintro e w4 ⟨ad4, cp4, rfl, ho4, hb4⟩
    have hh4 := HoldsO.own ho4
    dsimp only at hh4 ⊢
    have hB4 := hB3.trans (hb4.mono hB3.size)
    have HH4 := hide hh4
    clear ho4 hh4 hb4 CR
    go_upto_region 9 with fail
    refine gen_world (fun q => q.heap[w4.heap.size]? = some (.cells #[.slice ad4 L.length cp4, .int .i64 oc] 54) ∧ HoldsO q (.slice ad4 L.length cp4) L ∧ Below w.heap.size w q)
      ⟨heap_alloc_new w4 _, (unhide HH4).below ((Below.refl _ _).alloc (Nat.le_refl _) _) rfl, hB4.alloc hB4.size _⟩ ?_
    rintro q ⟨hx, hhq, hBq⟩
    obtain ⟨x0, x1, _, _⟩ := row2w hx
    have hlx : w4.heap.size < q.heap.size := (Array.getElem?_eq_some_iff.1 hx).1
    have HHQ := hide hhq
    clear hx hhq HH4 hB4
    go_cut [70] (fun b wx => b = .bool false ∧ Below w.heap.size w wx)
    case first =>
      by_cases hoc : oc = 0
      · subst hoc
        have hv := unhide HTD rfl
        have hlm : L.length ≤ maxLen := by unfold maxLen; omega
        have CB := hide fun v (hv : Below q.heap.size q v) => implBytesAll (.slice ad4 L.length cp4) L v hlm ((unhide HHQ).below hv rfl)
        rw [hv] at CB
        clear hlm hv HTD CD3 CD4 HE HHQ
        go_region_held3 (fun z => z.cell? ⟨w4.heap.size, 0, none⟩ = some (.slice ad4 L.length cp4) ∧ z.cell? ⟨w4.heap.size, 1, none⟩ = some (.int .i64 0))
          (first | go_keep | (refine ⟨?_, ?_⟩ <;> (rw [hb6.cell (Nat.lt_of_lt_of_le hlx hb5.size), hb5.cell hlx]; assumption)) | (refine ⟨?_, ?_⟩ <;> (rw [hb5.cell hlx]; assumption)))
          (first
            | (go_at_call 33; refine (unhide CS _).mono ?_; rintro e w5 ⟨ad5, cp5, rfl, _, hb5⟩)
            | (go_at_call 26; refine (unhide CB _ ((Below.refl _ _).drew.trans hb5)).mono ?_; rintro e w6 ⟨rfl, hb6⟩))
        go_wp2_with fail
        go_meet
        exact ⟨rfl, hBq.trans (((Below.refl _ _).drew.trans hb5).trans (hb6.mono hb5.size) |>.mono hBq.size)⟩
      · have hd1 : decide (oc = 0) = false := decide_eq_false hoc
        have hd2 : (oc == 0) = false := by simpa using hoc
        clear HTD CD3 CD4 HE HHQ hoc
        refine wp_region_held_drew (S := fun z => z.cell? ⟨w4.heap.size, 0, none⟩ = some (.slice ad4 L.length cp4) ∧ z.cell? ⟨w4.heap.size, 1, none⟩ = some (.int .i64 oc)) (by kernel_rfl) ?_ (fun hHeld => ?_)
        · exact ⟨x0, x1⟩
        refine wpAnyH_take (i := 0) (v := ?va0) rfl (by kernel_rfl) (by kernel_rfl) (by kernel_rfl) (fun _ _ _ h => h) (Or.inl ⟨by rfl, ?hya0⟩) (by assumption) ?_
        case hya0 =>
          intro w hSw
          try dsimp only at hSw
          go_simp
          try with_reducible rfl
        try simp only [Act.put, List.setIfInBounds_toArray, List.set_cons_zero, List.set_cons_succ, List.getElem_toArray, List.getElem_cons_zero]
        refine wpAnyH_take (i := 1) (v := ?va1) rfl (by kernel_rfl) (by kernel_rfl) (by kernel_rfl) (fun _ _ _ h => h) (Or.inl ⟨by rfl, ?hya1⟩) (by assumption) ?_
        case hya1 =>
          intro w hSw
          try dsimp only at hSw
          go_simp
          try with_reducible rfl
        try simp only [Act.put, List.setIfInBounds_toArray, List.set_cons_zero, List.set_cons_succ, List.getElem_toArray, List.getElem_cons_zero, List.getElem_cons_succ]
        refine wpAnyH_take (i := 2) (v := ?va2) rfl (by kernel_rfl) (by kernel_rfl) (by kernel_rfl) (fun _ _ _ h => h) (Or.inl ⟨by rfl, ?hya2⟩) (by assumption) ?_
        case hya2 =>
          intro w hSw
          try dsimp only at hSw
          go_simp
          try with_reducible rfl
        try simp only [Act.put, List.setIfInBounds_toArray, List.set_cons_zero, List.set_cons_succ, List.getElem_toArray, List.getElem_cons_zero, List.getElem_cons_succ]
        refine wpAnyH_ready (rs := [3]) (by kernel_rfl) (by simp) ?_
        refine AllReadyH.cons rfl (fun K hK => ?_) AllReadyH.nil
        go_simp
        refine (unhide CS _).mono ?_
        rintro e w5 ⟨ad5, cp5, rfl, _, hb5⟩
        go_wp2_with fail
        refine hK.out _ _ ?_ (fun hHeld2 => ?_)
        · exact ⟨(hb5.cell (p := ⟨w4.heap.size, 0, none⟩) hlx).trans x0, (hb5.cell (p := ⟨w4.heap.size, 1, none⟩) hlx).trans x1⟩
        clear hK K
        try simp only [Act.put, List.setIfInBounds_toArray, List.set_cons_zero, List.set_cons_succ, List.getElem_toArray, List.getElem_cons_zero, List.getElem_cons_succ]
        refine wpAnyH_take (i := 4) (v := ?va4) rfl (by kernel_rfl) (by kernel_rfl) (by kernel_rfl) (fun _ _ _ h => h) (Or.inl ⟨by rfl, ?hya4⟩) (by assumption) ?_
        case hya4 =>
          intro w hSw
          try dsimp only at hSw
          go_simp
          try with_reducible rfl
        try simp only [Act.put, List.setIfInBounds_toArray, List.set_cons_zero, List.set_cons_succ, List.getElem_toArray, List.getElem_cons_zero, List.getElem_cons_succ]
        refine wpAnyH_take (i := 5) (v := ?va5) rfl (by kernel_rfl) (by kernel_rfl) (by kernel_rfl) (fun _ _ _ h => h) (Or.inl ⟨by rfl, ?hya5⟩) (by assumption) ?_
        case hya5 =>
          intro w hSw
          try dsimp only at hSw
          go_simp
          try with_reducible rfl
        try simp only [Act.put, List.setIfInBounds_toArray, List.set_cons_zero, List.set_cons_succ, List.getElem_toArray, List.getElem_cons_zero, List.getElem_cons_succ]
        refine wpAnyH_take (i := 6) (v := ?va6) rfl (by kernel_rfl) (by kernel_rfl) (by kernel_rfl) (fun _ _ _ h => h) (Or.inl ⟨by rfl, ?hya6⟩) (by assumption) ?_
        case hya6 =>
          intro w hSw
          try dsimp only at hSw
          go_simp
          try with_reducible rfl
        try simp only [Act.put, List.setIfInBounds_toArray, List.set_cons_zero, List.set_cons_succ, List.getElem_toArray, List.getElem_cons_zero, List.getElem_cons_succ]
        refine wpAnyH_take (i := 7) (v := ?va7) rfl (by kernel_rfl) (by kernel_rfl) (by kernel_rfl) (fun _ _ _ h => h) (Or.inl ⟨by rfl, ?hya7⟩) (by assumption) ?_
        case hya7 =>
          intro w hSw
          try dsimp only at hSw
          go_simp
          try with_reducible rfl
        try simp only [Act.put, List.setIfInBounds_toArray, List.set_cons_zero, List.set_cons_succ, List.getElem_toArray, List.getElem_cons_zero, List.getElem_cons_succ]
        refine wpAnyH_take (i := 8) (v := ?va8) rfl (by kernel_rfl) (by kernel_rfl) (by kernel_rfl) (fun _ _ _ h => h) (Or.inl ⟨by rfl, ?hya8⟩) (by assumption) ?_
        case hya8 =>
          intro w hSw
          try dsimp only at hSw
          go_simp
          try with_reducible rfl
        try simp only [Act.put, List.setIfInBounds_toArray, List.set_cons_zero, List.set_cons_succ, List.getElem_toArray, List.getElem_cons_zero, List.getElem_cons_succ]
        refine wpAnyH_take (i := 9) (v := ?va9) rfl (by kernel_rfl) (by kernel_rfl) (by kernel_rfl) (fun _ _ _ h => h) (Or.inl ⟨by rfl, ?hya9⟩) (by assumption) ?_
        case hya9 =>
          intro w hSw
          try dsimp only at hSw
          go_simp
          try with_reducible rfl
        try simp only [Act.put, List.setIfInBounds_toArray, List.set_cons_zero, List.set_cons_succ, List.getElem_toArray, List.getElem_cons_zero, List.getElem_cons_succ]
        refine wpAnyH_take (i := 10) (v := ?va10) rfl (by kernel_rfl) (by kernel_rfl) (by kernel_rfl) (fun _ _ _ h => h) (Or.inl ⟨by rfl, ?hya10⟩) (by assumption) ?_
        case hya10 =>
          intro w hSw
          try dsimp only at hSw
          go_simp
          try with_reducible rfl
        try simp only [Act.put, List.setIfInBounds_toArray, List.set_cons_zero, List.set_cons_succ, List.getElem_toArray, List.getElem_cons_zero, List.getElem_cons_succ]
        refine wpAnyH_take (i := 11) (v := undef) rfl (by kernel_rfl) (by kernel_rfl) (by kernel_rfl) (fun _ _ _ h => h) (Or.inr ⟨by rfl, rfl⟩) (by assumption) ?_
        try simp only [Act.put, List.setIfInBounds_toArray, List.set_cons_zero, List.set_cons_succ, List.getElem_toArray, List.getElem_cons_zero, List.getElem_cons_succ]
        refine wpAnyH_take (i := 12) (v := undef) rfl (by kernel_rfl) (by kernel_rfl) (by kernel_rfl) (fun _ _ _ h => h) (Or.inr ⟨by rfl, rfl⟩) (by assumption) ?_
        try simp only [Act.put, List.setIfInBounds_toArray, List.set_cons_zero, List.set_cons_succ, List.getElem_toArray, List.getElem_cons_zero, List.getElem_cons_succ]
        refine wpAnyH_take (i := 13) (v := undef) rfl (by kernel_rfl) (by kernel_rfl) (by kernel_rfl) (fun _ _ _ h => h) (Or.inr ⟨by rfl, rfl⟩) (by assumption) ?_
        try simp only [Act.put, List.setIfInBounds_toArray, List.set_cons_zero, List.set_cons_succ, List.getElem_toArray, List.getElem_cons_zero, List.getElem_cons_succ]
        refine wpAnyH_take (i := 14) (v := undef) rfl (by kernel_rfl) (by kernel_rfl) (by kernel_rfl) (fun _ _ _ h => h) (Or.inr ⟨by rfl, rfl⟩) (by assumption) ?_
        try simp only [Act.put, List.setIfInBounds_toArray, List.set_cons_zero, List.set_cons_succ, List.getElem_toArray, List.getElem_cons_zero, List.getElem_cons_succ]
        refine wpAnyH_take (i := 15) (v := undef) rfl (by kernel_rfl) (by kernel_rfl) (by kernel_rfl) (fun _ _ _ h => h) (Or.inr ⟨by rfl, rfl⟩) (by assumption) ?_
        try simp only [Act.put, List.setIfInBounds_toArray, List.set_cons_zero, List.set_cons_succ, List.getElem_toArray, List.getElem_cons_zero, List.getElem_cons_succ]
        refine wpAnyH_take (i := 16) (v := ?va16) rfl (by kernel_rfl) (by kernel_rfl) (by kernel_rfl) (fun _ _ _ h => h) (Or.inl ⟨by rfl, ?hya16⟩) (by assumption) ?_
        case hya16 =>
          intro w hSw
          try dsimp only at hSw
          go_simp
          try with_reducible rfl
        try simp only [Act.put, List.setIfInBounds_toArray, List.set_cons_zero, List.set_cons_succ, List.getElem_toArray, List.getElem_cons_zero, List.getElem_cons_succ]
        refine wpAnyH_take (i := 17) (v := ?va17) rfl (by kernel_rfl) (by kernel_rfl) (by kernel_rfl) (fun _ _ _ h => h) (Or.inl ⟨by rfl, ?hya17⟩) (by assumption) ?_
        case hya17 =>
          intro w hSw
          try dsimp only at hSw
          go_simp
          try with_reducible rfl
        try simp only [Act.put, List.setIfInBounds_toArray, List.set_cons_zero, List.set_cons_succ, List.getElem_toArray, List.getElem_cons_zero, List.getElem_cons_succ]
        refine wpAnyH_done (by kernel_rfl) ?_ _
        go_wp2_with fail
        go_meet
        exact ⟨rfl, hBq.trans (((Below.refl _ _).drew.trans hb5).mono hBq.size)⟩
    case rest =>
      obtain ⟨hu70, hbc2⟩ := hcut
      subst hu70
      clear CS HTD HHQ x0 x1 hBq
      go_wp2_with fail
      refine (unhide CD3 _ hbc2).mono ?_
      rintro e w5 ⟨p, rfl, hps, hb5⟩
      have hB5 := hbc2.trans (hb5.mono hbc2.size)
      have HF := hide (ptV_fact p)
      have hVs2 := ptV_size p
      have CIP := hide fun v => implPkBytes p v
      have CSP := hide fun v => specPkBytes p v
      generalize ptV p = b at *
      obtain ⟨pc, pi, pd⟩ := p
      dsimp only at CIP CSP HF ⊢
      clear hb5 CD3 hps
      go_upto_region 12 with fail
      refine gen_world (fun q2 => q2.heap[w5.heap.size]? = some (.cells #[.int .i64 pc, .int .i64 pi, .string pd] 58) ∧ Below w.heap.size w q2)
        ⟨heap_alloc_new w5 _, hB5.alloc hB5.size _⟩ ?_
      rintro q2 ⟨hy, hBq2⟩
      obtain ⟨y0, y1, y2, _, _, _⟩ := row3d hy
      have hly : w5.heap.size < q2.heap.size := (Array.getElem?_eq_some_iff.1 hy).1
      clear hB5
      go_wp2_with fail
      refine (unhide CIP _).mono ?_
      rintro e w6 ⟨rfl, hb6⟩
      have hy6 := (hb6.block w5.heap.size hly).trans hy
      have hB6 := hBq2.trans (hb6.mono hBq2.size)
      obtain ⟨z0, z1, z2, _, _, _⟩ := row3d hy6
      have hly6 : w5.heap.size < w6.heap.size := Nat.lt_of_lt_of_le hly hb6.size
      clear hy hy6 y0 y1 y2 CIP hb6 hly hBq2
      go_upto_region 13 with fail
      go_cut [90] (fun b wx => b = .bool false ∧ Below w.heap.size w wx)
      case first =>
        rcases unhide HF with hbe | ⟨hbn, hrd⟩
        · have hd2 : b.toList.isEmpty = true := by rw [hbe, ByteArray.toList_eq]; rfl
          clear HF HE CD4 hbe
          refine wp_region_held_drew (S := fun z => z.cell? ⟨w5.heap.size, 0, none⟩ = some (.int .i64 pc) ∧ z.cell? ⟨w5.heap.size, 1, none⟩ = some (.int .i64 pi) ∧ z.cell? ⟨w5.heap.size, 2, none⟩ = some (.string pd)) (by kernel_rfl) ?_ (fun hHeld => ?_)
          · exact ⟨z0, z1, z2⟩
          refine wpAnyH_take (i := 0) (v := ?vb0) rfl (by kernel_rfl) (by kernel_rfl) (by kernel_rfl) (fun _ _ _ h => h) (Or.inl ⟨by rfl, ?hyb0⟩) (by assumption) ?_
          case hyb0 =>
            intro w hSw
            try dsimp only at hSw
            go_simp
            try with_reducible rfl
          try simp only [Act.put, List.setIfInBounds_toArray, List.set_cons_zero, List.set_cons_succ, List.getElem_toArray, List.getElem_cons_zero]
          refine wpAnyH_take (i := 1) (v := ?vb1) rfl (by kernel_rfl) (by kernel_rfl) (by kernel_rfl) (fun _ _ _ h => h) (Or.inl ⟨by rfl, ?hyb1⟩) (by assumption) ?_
          case hyb1 =>
            intro w hSw
            try dsimp only at hSw
            go_simp
            try with_reducible rfl
          try simp only [Act.put, List.setIfInBounds_toArray, List.set_cons_zero, List.set_cons_succ, List.getElem_toArray, List.getElem_cons_zero, List.getElem_cons_succ]
          refine wpAnyH_ready (rs := [2]) (by kernel_rfl) (by simp) ?_
          refine AllReadyH.cons rfl (fun K hK => ?_) AllReadyH.nil
          go_simp
          refine (unhide CSP _).mono ?_
          rintro e w7 ⟨rfl, hb7⟩
          go_wp2_with fail
          refine hK.out _ _ ?_ (fun hHeld2 => ?_)
          · exact ⟨(hb7.cell (p := ⟨w5.heap.size, 0, none⟩) hly6).trans z0, (hb7.cell (p := ⟨w5.heap.size, 1, none⟩) hly6).trans z1, (hb7.cell (p := ⟨w5.heap.size, 2, none⟩) hly6).trans z2⟩
          clear hK K
          try simp only [Act.put, List.setIfInBounds_toArray, List.set_cons_zero, List.set_cons_succ, List.getElem_toArray, List.getElem_cons_zero, List.getElem_cons_succ]
          refine wpAnyH_take (i := 3) (v := ?vb3) rfl (by kernel_rfl) (by kernel_rfl) (by kernel_rfl) (fun _ _ _ h => h) (Or.inl ⟨by rfl, ?hyb3⟩) (by assumption) ?_
          case hyb3 =>
            intro w hSw
            try dsimp only at hSw
            go_simp
            try with_reducible rfl
          try simp only [Act.put, List.setIfInBounds_toArray, List.set_cons_zero, List.set_cons_succ, List.getElem_toArray, List.getElem_cons_zero, List.getElem_cons_succ]
          refine wpAnyH_take (i := 4) (v := ?vb4) rfl (by kernel_rfl) (by kernel_rfl) (by kernel_rfl) (fun _ _ _ h => h) (Or.inl ⟨by rfl, ?hyb4⟩) (by assumption) ?_
          case hyb4 =>
            intro w hSw
            try dsimp only at hSw
            go_simp
            try with_reducible rfl
          try simp only [Act.put, List.setIfInBounds_toArray, List.set_cons_zero, List.set_cons_succ, List.getElem_toArray, List.getElem_cons_zero, List.getElem_cons_succ]
          refine wpAnyH_take (i := 5) (v := ?vb5) rfl (by kernel_rfl) (by kernel_rfl) (by kernel_rfl) (fun _ _ _ h => h) (Or.inl ⟨by rfl, ?hyb5⟩) (by assumption) ?_
          case hyb5 =>
            intro w hSw
            try dsimp only at hSw
            go_simp
            try with_reducible rfl
          try simp only [Act.put, List.setIfInBounds_toArray, List.set_cons_zero, List.set_cons_succ, List.getElem_toArray, List.getElem_cons_zero, List.getElem_cons_succ]
          refine wpAnyH_take (i := 6) (v := ?vb6) rfl (by kernel_rfl) (by kernel_rfl) (by kernel_rfl) (fun _ _ _ h => h) (Or.inl ⟨by rfl, ?hyb6⟩) (by assumption) ?_
          case hyb6 =>
            intro w hSw
            try dsimp only at hSw
            go_simp
            try with_reducible rfl
          try simp only [Act.put, List.setIfInBounds_toArray, List.set_cons_zero, List.set_cons_succ, List.getElem_toArray, List.getElem_cons_zero, List.getElem_cons_succ]
          refine wpAnyH_take (i := 7) (v := ?vb7) rfl (by kernel_rfl) (by kernel_rfl) (by kernel_rfl) (fun _ _ _ h => h) (Or.inl ⟨by rfl, ?hyb7⟩) (by assumption) ?_
          case hyb7 =>
            intro w hSw
            try dsimp only at hSw
            go_simp
            try with_reducible rfl
          try simp only [Act.put, List.setIfInBounds_toArray, List.set_cons_zero, List.set_cons_succ, List.getElem_toArray, List.getElem_cons_zero, List.getElem_cons_succ]
          refine wpAnyH_take (i := 8) (v := undef) rfl (by kernel_rfl) (by kernel_rfl) (by kernel_rfl) (fun _ _ _ h => h) (Or.inr ⟨by rfl, rfl⟩) (by assumption) ?_
          try simp only [Act.put, List.setIfInBounds_toArray, List.set_cons_zero, List.set_cons_succ, List.getElem_toArray, List.getElem_cons_zero, List.getElem_cons_succ]
          refine wpAnyH_take (i := 9) (v := undef) rfl (by kernel_rfl) (by kernel_rfl) (by kernel_rfl) (fun _ _ _ h => h) (Or.inr ⟨by rfl, rfl⟩) (by assumption) ?_
          try simp only [Act.put, List.setIfInBounds_toArray, List.set_cons_zero, List.set_cons_succ, List.getElem_toArray, List.getElem_cons_zero, List.getElem_cons_succ]
          refine wpAnyH_take (i := 10) (v := undef) rfl (by kernel_rfl) (by kernel_rfl) (by kernel_rfl) (fun _ _ _ h => h) (Or.inr ⟨by rfl, rfl⟩) (by assumption) ?_
          try simp only [Act.put, List.setIfInBounds_toArray, List.set_cons_zero, List.set_cons_succ, List.getElem_toArray, List.getElem_cons_zero, List.getElem_cons_succ]
          refine wpAnyH_take (i := 11) (v := undef) rfl (by kernel_rfl) (by kernel_rfl) (by kernel_rfl) (fun _ _ _ h => h) (Or.inr ⟨by rfl, rfl⟩) (by assumption) ?_
          try simp only [Act.put, List.setIfInBounds_toArray, List.set_cons_zero, List.set_cons_succ, List.getElem_toArray, List.getElem_cons_zero, List.getElem_cons_succ]
          refine wpAnyH_take (i := 12) (v := undef) rfl (by kernel_rfl) (by kernel_rfl) (by kernel_rfl) (fun _ _ _ h => h) (Or.inr ⟨by rfl, rfl⟩) (by assumption) ?_
          try simp only [Act.put, List.setIfInBounds_toArray, List.set_cons_zero, List.set_cons_succ, List.getElem_toArray, List.getElem_cons_zero, List.getElem_cons_succ]
          refine wpAnyH_take (i := 13) (v := undef) rfl (by kernel_rfl) (by kernel_rfl) (by kernel_rfl) (fun _ _ _ h => h) (Or.inr ⟨by rfl, rfl⟩) (by assumption) ?_
          try simp only [Act.put, List.setIfInBounds_toArray, List.set_cons_zero, List.set_cons_succ, List.getElem_toArray, List.getElem_cons_zero, List.getElem_cons_succ]
          refine wpAnyH_take (i := 14) (v := ?vb14) rfl (by kernel_rfl) (by kernel_rfl) (by kernel_rfl) (fun _ _ _ h => h) (Or.inl ⟨by rfl, ?hyb14⟩) (by assumption) ?_
          case hyb14 =>
            intro w hSw
            try dsimp only at hSw
            go_simp
            try with_reducible rfl
          try simp only [Act.put, List.setIfInBounds_toArray, List.set_cons_zero, List.set_cons_succ, List.getElem_toArray, List.getElem_cons_zero, List.getElem_cons_succ]
          refine wpAnyH_take (i := 15) (v := ?vb15) rfl (by kernel_rfl) (by kernel_rfl) (by kernel_rfl) (fun _ _ _ h => h) (Or.inl ⟨by rfl, ?hyb15⟩) (by assumption) ?_
          case hyb15 =>
            intro w hSw
            try dsimp only at hSw
            go_simp
            try with_reducible rfl
          try simp only [Act.put, List.setIfInBounds_toArray, List.set_cons_zero, List.set_cons_succ, List.getElem_toArray, List.getElem_cons_zero, List.getElem_cons_succ]
          refine wpAnyH_done (by kernel_rfl) ?_ _
          go_wp2_with fail
          go_meet
          exact ⟨rfl, hB6.trans (((Below.refl _ _).drew.trans hb7).mono hB6.size)⟩
        · have hd2 : b.toList.isEmpty = false := by
            rw [ByteArray.toList_eq, List.isEmpty_eq_false_iff]
            exact fun e => hbn (congrArg txt e)
          have hd3 : ¬ (9223372036854775807 < b.size + (⟨#[120]⟩ : ByteArray).size) := by show ¬ (9223372036854775807 < b.size + 1); omega
          have hd5 : ¬ (9223372036854775807 < b.size + 1) := by omega
          have hd4 : (b.size : Int) + 1 ≤ 9223372036854775807 := by omega
          have CRP := hide fun v hv => implPktRead (b ++ ⟨#[120]⟩) v (by rw [ByteArray.size_append]; show b.size + 1 ≤ _; unfold maxLen; omega) hv
          rw [hrd] at CRP
          dsimp only [poV] at CRP
          clear hrd hbn HF CD4
          go_region_held3 (fun z => z.cell? ⟨w5.heap.size, 0, none⟩ = some (.int .i64 pc) ∧ z.cell? ⟨w5.heap.size, 1, none⟩ = some (.int .i64 pi) ∧ z.cell? ⟨w5.heap.size, 2, none⟩ = some (.string pd))
            (first | go_keep | (refine ⟨?_, ?_, ?_⟩ <;> (rw [hb8.cell (Nat.lt_of_lt_of_le hly6 hb7.size), hb7.cell hly6]; assumption)) | (refine ⟨?_, ?_, ?_⟩ <;> (rw [hb7.cell hly6]; assumption)))
            (first
              | (go_at_call 36; refine (unhide CSP _).mono ?_; rintro e w7 ⟨rfl, hb7⟩)
              | (go_at_call 37; refine (unhide CRP _ (unhide HE _ (hB6.trans (((Below.refl _ _).drew.trans hb7).mono hB6.size)))).mono ?_; rintro e w8 ⟨rfl, hb8⟩))
          all_goals
            go_wp2_with fail
            go_meet
            exact ⟨rfl, hB6.trans ((((Below.refl _ _).drew.trans hb7).trans (hb8.mono hb7.size)).mono hB6.size)⟩
      case rest =>
        obtain ⟨hu90, hbc3⟩ := hcut
        subst hu90
        clear HF CSP z0 z1 z2 hB6 hly6 hVs2
        go_wp2_with fail
        refine (unhide CD4 _ hbc3).mono ?_
        rintro e w7 ⟨v, rfl, hvs, hb7⟩
        have hB7 := hbc3.trans (hb7.mono hbc3.size)
        have hvm : v.size ≤ maxLen := by unfold maxLen; omega
        have CR4 := hide (implPktRead v w7 hvm (unhide HE _ hB7))
        have CS4 := hide fun z => specPktRead v z hvm
        have HP := hide (ptV_pre (v := v))
        generalize Op.pread v.data.toList = o at *
        obtain ⟨p, oc2⟩ := o
        have hbs := ptV_size p
        have CIP := hide fun z => implPkBytes p z
        dsimp only [poV] at CR4 CS4 HP CIP
        generalize ptV p = b2 at *
        obtain ⟨pc2, pi2, pd2⟩ := p
        dsimp only at CR4 CS4 CIP
        clear hvm hb7 CD4 HE
        go_wp2_with fail
        refine (unhide CR4).mono ?_
        rintro e w8 ⟨rfl, hb8⟩
        have hB8 := hB7.trans (hb8.mono hB7.size)
        clear CR4 hb8
        go_upto_region 17 with fail
        refine gen_world (fun q3 => q3.heap[w8.heap.size]? = some (.cells #[.int .i64 pc2, .int .i64 pi2, .string pd2, .int .i64 oc2] 62) ∧ Below w.heap.size w q3)
          ⟨heap_alloc_new w8 _, hB8.alloc hB8.size _⟩ ?_
        rintro q3 ⟨hk, hBq3⟩
        have c0 : q3.cell? ⟨w8.heap.size, 0, none⟩ = some (.int .i64 pc2) := by rw [cell_of_row _ _ _ _ _ _ hk]; rfl
        have c1 : q3.cell? ⟨w8.heap.size, 1, none⟩ = some (.int .i64 pi2) := by rw [cell_of_row _ _ _ _ _ _ hk]; rfl
        have c2 : q3.cell? ⟨w8.heap.size, 2, none⟩ = some (.string pd2) := by rw [cell_of_row _ _ _ _ _ _ hk]; rfl
        have c3 : q3.cell? ⟨w8.heap.size, 3, none⟩ = some (.int .i64 oc2) := by rw [cell_of_row _ _ _ _ _ _ hk]; rfl
        have hlk : w8.heap.size < q3.heap.size := (Array.getElem?_eq_some_iff.1 hk).1
        clear hk hB8
        go_wp2_with fail
        refine (unhide CIP _).mono ?_
        rintro e w9 ⟨rfl, hb9⟩
        have hB9 := hBq3.trans (hb9.mono hBq3.size)
        have k0 := (hb9.cell (p := ⟨w8.heap.size, 0, none⟩) hlk).trans c0
        have k1 := (hb9.cell (p := ⟨w8.heap.size, 1, none⟩) hlk).trans c1
        have k2 := (hb9.cell (p := ⟨w8.heap.size, 2, none⟩) hlk).trans c2
        have k3 := (hb9.cell (p := ⟨w8.heap.size, 3, none⟩) hlk).trans c3
        have hlk9 : w8.heap.size < w9.heap.size := Nat.lt_of_lt_of_le hlk hb9.size
        clear c0 c1 c2 c3 hlk hb9 hBq3 CIP
        go_upto_region 18 with fail
        by_cases hoc : oc2 = 0
        · subst hoc
          obtain ⟨hps, hext⟩ := unhide HP rfl
          have hi0 : (0 : Int) ≤ (b2.size : Int) := by omega
          have hi1 : (b2.size : Int) ≤ (v.size : Int) := by omega
          clear HP
          go_region_held3 (fun z => z.cell? ⟨w8.heap.size, 0, none⟩ = some (.int .i64 pc2) ∧ z.cell? ⟨w8.heap.size, 1, none⟩ = some (.int .i64 pi2) ∧ z.cell? ⟨w8.heap.size, 2, none⟩ = some (.string pd2) ∧ z.cell? ⟨w8.heap.size, 3, none⟩ = some (.int .i64 0))
              (first | go_keep | (refine ⟨?_, ?_, ?_, ?_⟩ <;> (rw [hb10.cell hlk9]; assumption)))
              (first
                | (go_at_call 39; refine (unhide CS4 _).mono ?_; rintro e w10 ⟨rfl, hb10⟩))
          all_goals
            go_wp2_with fail
            go_ret
            exact ⟨rfl, hB9.trans (((Below.refl _ _).drew.trans hb10).mono hB9.size)⟩
        · have hd1 : decide (oc2 = 0) = false := decide_eq_false hoc
          have hd2 : (oc2 == 0) = false := by simpa using hoc
          have hd3 : (oc2 != 0) = true := by simpa using hoc
          clear HP hoc
          refine wp_region_held_drew (S := fun z => z.cell? ⟨w8.heap.size, 0, none⟩ = some (.int .i64 pc2) ∧ z.cell? ⟨w8.heap.size, 1, none⟩ = some (.int .i64 pi2) ∧ z.cell? ⟨w8.heap.size, 2, none⟩ = some (.string pd2) ∧ z.cell? ⟨w8.heap.size, 3, none⟩ = some (.int .i64 oc2)) (by kernel_rfl) ?_ (fun hHeld => ?_)
          · exact ⟨k0, k1, k2, k3⟩
          refine wpAnyH_take (i := 0) (v := ?vc0) rfl (by kernel_rfl) (by kernel_rfl) (by kernel_rfl) (fun _ _ _ h => h) (Or.inl ⟨by rfl, ?hyc0⟩) (by assumption) ?_
          case hyc0 =>
            intro w hSw
            try dsimp only at hSw
            go_simp
            try with_reducible rfl
          try simp only [Act.put, List.setIfInBounds_toArray, List.set_cons_zero, List.set_cons_succ, List.getElem_toArray, List.getElem_cons_zero]
          refine wpAnyH_take (i := 1) (v := ?vc1) rfl (by kernel_rfl) (by kernel_rfl) (by kernel_rfl) (fun _ _ _ h => h) (Or.inl ⟨by rfl, ?hyc1⟩) (by assumption) ?_
          case hyc1 =>
            intro w hSw
            try dsimp only at hSw
            go_simp
            try with_reducible rfl
          try simp only [Act.put, List.setIfInBounds_toArray, List.set_cons_zero, List.set_cons_succ, List.getElem_toArray, List.getElem_cons_zero, List.getElem_cons_succ]
          refine wpAnyH_ready (rs := [2]) (by kernel_rfl) (by simp) ?_
          refine AllReadyH.cons rfl (fun K hK => ?_) AllReadyH.nil
          go_simp
          refine (unhide CS4 _).mono ?_
          rintro e w10 ⟨rfl, hb10⟩
          go_wp2_with fail
          refine hK.out _ _ ?_ (fun hHeld2 => ?_)
          · exact ⟨(hb10.cell (p := ⟨w8.heap.size, 0, none⟩) hlk9).trans k0, (hb10.cell (p := ⟨w8.heap.size, 1, none⟩) hlk9).trans k1, (hb10.cell (p := ⟨w8.heap.size, 2, none⟩) hlk9).trans k2, (hb10.cell (p := ⟨w8.heap.size, 3, none⟩) hlk9).trans k3⟩
          clear hK K
          try simp only [Act.put, List.setIfInBounds_toArray, List.set_cons_zero, List.set_cons_succ, List.getElem_toArray, List.getElem_cons_zero, List.getElem_cons_succ]
          refine wpAnyH_take (i := 3) (v := ?vc3) rfl (by kernel_rfl) (by kernel_rfl) (by kernel_rfl) (fun _ _ _ h => h) (Or.inl ⟨by rfl, ?hyc3⟩) (by assumption) ?_
          case hyc3 =>
            intro w hSw
            try dsimp only at hSw
            go_simp
            try with_reducible rfl
          try simp only [Act.put, List.setIfInBounds_toArray, List.set_cons_zero, List.set_cons_succ, List.getElem_toArray, List.getElem_cons_zero, List.getElem_cons_succ]
          refine wpAnyH_take (i := 4) (v := ?vc4) rfl (by kernel_rfl) (by kernel_rfl) (by kernel_rfl) (fun _ _ _ h => h) (Or.inl ⟨by rfl, ?hyc4⟩) (by assumption) ?_
          case hyc4 =>
            intro w hSw
            try dsimp only at hSw
            go_simp
            try with_reducible rfl
          try simp only [Act.put, List.setIfInBounds_toArray, List.set_cons_zero, List.set_cons_succ, List.getElem_toArray, List.getElem_cons_zero, List.getElem_cons_succ]
          refine wpAnyH_take (i := 5) (v := ?vc5) rfl (by kernel_rfl) (by kernel_rfl) (by kernel_rfl) (fun _ _ _ h => h) (Or.inl ⟨by rfl, ?hyc5⟩) (by assumption) ?_
          case hyc5 =>
            intro w hSw
            try dsimp only at hSw
            go_simp
            try with_reducible rfl
          try simp only [Act.put, List.setIfInBounds_toArray, List.set_cons_zero, List.set_cons_succ, List.getElem_toArray, List.getElem_cons_zero, List.getElem_cons_succ]
          refine wpAnyH_take (i := 6) (v := ?vc6) rfl (by kernel_rfl) (by kernel_rfl) (by kernel_rfl) (fun _ _ _ h => h) (Or.inl ⟨by rfl, ?hyc6⟩) (by assumption) ?_
          case hyc6 =>
            intro w hSw
            try dsimp only at hSw
            go_simp
            try with_reducible rfl
          try simp only [Act.put, List.setIfInBounds_toArray, List.set_cons_zero, List.set_cons_succ, List.getElem_toArray, List.getElem_cons_zero, List.getElem_cons_succ]
          refine wpAnyH_take (i := 7) (v := ?vc7) rfl (by kernel_rfl) (by kernel_rfl) (by kernel_rfl) (fun _ _ _ h => h) (Or.inl ⟨by rfl, ?hyc7⟩) (by assumption) ?_
          case hyc7 =>
            intro w hSw
            try dsimp only at hSw
            go_simp
            try with_reducible rfl
          try simp only [Act.put, List.setIfInBounds_toArray, List.set_cons_zero, List.set_cons_succ, List.getElem_toArray, List.getElem_cons_zero, List.getElem_cons_succ]
          refine wpAnyH_take (i := 8) (v := ?vc8) rfl (by kernel_rfl) (by kernel_rfl) (by kernel_rfl) (fun _ _ _ h => h) (Or.inl ⟨by rfl, ?hyc8⟩) (by assumption) ?_
          case hyc8 =>
            intro w hSw
            try dsimp only at hSw
            go_simp
            try with_reducible rfl
          try simp only [Act.put, List.setIfInBounds_toArray, List.set_cons_zero, List.set_cons_succ, List.getElem_toArray, List.getElem_cons_zero, List.getElem_cons_succ]
          refine wpAnyH_take (i := 9) (v := undef) rfl (by kernel_rfl) (by kernel_rfl) (by kernel_rfl) (fun _ _ _ h => h) (Or.inr ⟨by rfl, rfl⟩) (by assumption) ?_
          try simp only [Act.put, List.setIfInBounds_toArray, List.set_cons_zero, List.set_cons_succ, List.getElem_toArray, List.getElem_cons_zero, List.getElem_cons_succ]
          refine wpAnyH_take (i := 10) (v := undef) rfl (by kernel_rfl) (by kernel_rfl) (by kernel_rfl) (fun _ _ _ h => h) (Or.inr ⟨by rfl, rfl⟩) (by assumption) ?_
          try simp only [Act.put, List.setIfInBounds_toArray, List.set_cons_zero, List.set_cons_succ, List.getElem_toArray, List.getElem_cons_zero, List.getElem_cons_succ]
          refine wpAnyH_take (i := 11) (v := undef) rfl (by kernel_rfl) (by kernel_rfl) (by kernel_rfl) (fun _ _ _ h => h) (Or.inr ⟨by rfl, rfl⟩) (by assumption) ?_
          try simp only [Act.put, List.setIfInBounds_toArray, List.set_cons_zero, List.set_cons_succ, List.getElem_toArray, List.getElem_cons_zero, List.getElem_cons_succ]
          refine wpAnyH_take (i := 12) (v := undef) rfl (by kernel_rfl) (by kernel_rfl) (by kernel_rfl) (fun _ _ _ h => h) (Or.inr ⟨by rfl, rfl⟩) (by assumption) ?_
          try simp only [Act.put, List.setIfInBounds_toArray, List.set_cons_zero, List.set_cons_succ, List.getElem_toArray, List.getElem_cons_zero, List.getElem_cons_succ]
          refine wpAnyH_take (i := 13) (v := undef) rfl (by kernel_rfl) (by kernel_rfl) (by kernel_rfl) (fun _ _ _ h => h) (Or.inr ⟨by rfl, rfl⟩) (by assumption) ?_
          try simp only [Act.put, List.setIfInBounds_toArray, List.set_cons_zero, List.set_cons_succ, List.getElem_toArray, List.getElem_cons_zero, List.getElem_cons_succ]
          refine wpAnyH_take (i := 14) (v := undef) rfl (by kernel_rfl) (by kernel_rfl) (by kernel_rfl) (fun _ _ _ h => h) (Or.inr ⟨by rfl, rfl⟩) (by assumption) ?_
          try simp only [Act.put, List.setIfInBounds_toArray, List.set_cons_zero, List.set_cons_succ, List.getElem_toArray, List.getElem_cons_zero, List.getElem_cons_succ]
          refine wpAnyH_take (i := 15) (v := undef) rfl (by kernel_rfl) (by kernel_rfl) (by kernel_rfl) (fun _ _ _ h => h) (Or.inr ⟨by rfl, rfl⟩) (by assumption) ?_
          try simp only [Act.put, List.setIfInBounds_toArray, List.set_cons_zero, List.set_cons_succ, List.getElem_toArray, List.getElem_cons_zero, List.getElem_cons_succ]
          refine wpAnyH_take (i := 16) (v := undef) rfl (by kernel_rfl) (by kernel_rfl) (by kernel_rfl) (fun _ _ _ h => h) (Or.inr ⟨by rfl, rfl⟩) (by assumption) ?_
          try simp only [Act.put, List.setIfInBounds_toArray, List.set_cons_zero, List.set_cons_succ, List.getElem_toArray, List.getElem_cons_zero, List.getElem_cons_succ]
          refine wpAnyH_take (i := 17) (v := undef) rfl (by kernel_rfl) (by kernel_rfl) (by kernel_rfl) (fun _ _ _ h => h) (Or.inr ⟨by rfl, rfl⟩) (by assumption) ?_
          try simp only [Act.put, List.setIfInBounds_toArray, List.set_cons_zero, List.set_cons_succ, List.getElem_toArray, List.getElem_cons_zero, List.getElem_cons_succ]
          refine wpAnyH_take (i := 18) (v := undef) rfl (by kernel_rfl) (by kernel_rfl) (by kernel_rfl) (fun _ _ _ h => h) (Or.inr ⟨by rfl, rfl⟩) (by assumption) ?_
          try simp only [Act.put, List.setIfInBounds_toArray, List.set_cons_zero, List.set_cons_succ, List.getElem_toArray, List.getElem_cons_zero, List.getElem_cons_succ]
          refine wpAnyH_take (i := 19) (v := undef) rfl (by kernel_rfl) (by kernel_rfl) (by kernel_rfl) (fun _ _ _ h => h) (Or.inr ⟨by rfl, rfl⟩) (by assumption) ?_
          try simp only [Act.put, List.setIfInBounds_toArray, List.set_cons_zero, List.set_cons_succ, List.getElem_toArray, List.getElem_cons_zero, List.getElem_cons_succ]
          refine wpAnyH_take (i := 20) (v := undef) rfl (by kernel_rfl) (by kernel_rfl) (by kernel_rfl) (fun _ _ _ h => h) (Or.inr ⟨by rfl, rfl⟩) (by assumption) ?_
          try simp only [Act.put, List.setIfInBounds_toArray, List.set_cons_zero, List.set_cons_succ, List.getElem_toArray, List.getElem_cons_zero, List.getElem_cons_succ]
          refine wpAnyH_take (i := 21) (v := undef) rfl (by kernel_rfl) (by kernel_rfl) (by kernel_rfl) (fun _ _ _ h => h) (Or.inr ⟨by rfl, rfl⟩) (by assumption) ?_
          try simp only [Act.put, List.setIfInBounds_toArray, List.set_cons_zero, List.set_cons_succ, List.getElem_toArray, List.getElem_cons_zero, List.getElem_cons_succ]
          refine wpAnyH_take (i := 22) (v := ?vc22) rfl (by kernel_rfl) (by kernel_rfl) (by kernel_rfl) (fun _ _ _ h => h) (Or.inl ⟨by rfl, ?hyc22⟩) (by assumption) ?_
          case hyc22 =>
            intro w hSw
            try dsimp only at hSw
            go_simp
            try with_reducible rfl
          try simp only [Act.put, List.setIfInBounds_toArray, List.set_cons_zero, List.set_cons_succ, List.getElem_toArray, List.getElem_cons_zero, List.getElem_cons_succ]
          refine wpAnyH_take (i := 23) (v := ?vc23) rfl (by kernel_rfl) (by kernel_rfl) (by kernel_rfl) (fun _ _ _ h => h) (Or.inl ⟨by rfl, ?hyc23⟩) (by assumption) ?_
          case hyc23 =>
            intro w hSw
            try dsimp only at hSw
            go_simp
            try with_reducible rfl
          try simp only [Act.put, List.setIfInBounds_toArray, List.set_cons_zero, List.set_cons_succ, List.getElem_toArray, List.getElem_cons_zero, List.getElem_cons_succ]
          refine wpAnyH_take (i := 24) (v := ?vc24) rfl (by kernel_rfl) (by kernel_rfl) (by kernel_rfl) (fun _ _ _ h => h) (Or.inl ⟨by rfl, ?hyc24⟩) (by assumption) ?_
          case hyc24 =>
            intro w hSw
            try dsimp only at hSw
            go_simp
            try with_reducible rfl
          try simp only [Act.put, List.setIfInBounds_toArray, List.set_cons_zero, List.set_cons_succ, List.getElem_toArray, List.getElem_cons_zero, List.getElem_cons_succ]
          refine wpAnyH_done (by kernel_rfl) ?_ _
          go_wp2_with fail
          go_ret
          exact ⟨rfl, hB9.trans (((Below.refl _ _).drew.trans hb10).mono hB9.size)⟩
end Go.Proofs.YtgelbobocjgdaaaDoor
