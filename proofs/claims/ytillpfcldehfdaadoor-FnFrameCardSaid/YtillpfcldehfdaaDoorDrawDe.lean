/- The draw of a Deframer and a text: both short; what lay in memory stands; under a word of the model's Deframe that is a premise here. -/
import Derived.Test.YtillpfcldehfdaaDoorDrawDfr
import Derived.Test.YtillpfcldehfdaaDoorSpoilN
import Derived.Test.YtillpfcldehfdaaDoorFrame
import Derived.Laws.ResultCell
import Derived.Deep.RegionHeld3
namespace Go.Proofs.YtillpfcldehfdaaDoor
open Go.RowKit
theorem frame_sz (t : ByteArray) (x : Int) (b : Bool) : (frameV t x b).size ≤ 2 * t.size + 10 := by
  unfold frameV
  split
  · have h := stuff_sz x.toNat (t ++ tailB t.data.toList b)
    rw [ByteArray.size_append, ByteArray.size_append]
    rw [ByteArray.size_append, tailB_size] at h
    have hk : tailN b ≤ 4 := by cases b <;> decide
    show 1 + _ + 1 ≤ _
    omega
  · exact Nat.zero_le _
theorem put6_below {w W : World} {B N : Nat} (h : Below N w W) (hB : N ≤ B) (y0 y1 y2 y3 y4 y5 : Value) : Below N w ((((((W.setCell ⟨B, 0, none⟩ y0).setCell ⟨B, 1, none⟩ y1).setCell ⟨B, 2, none⟩ y2).setCell ⟨B, 3, none⟩ y3).setCell ⟨B, 4, none⟩ y4).setCell ⟨B, 5, none⟩ y5) :=
  ((((((h.setCell (p := ⟨B, 0, none⟩) hB _).setCell (p := ⟨B, 1, none⟩) hB _).setCell (p := ⟨B, 2, none⟩) hB _).setCell (p := ⟨B, 3, none⟩) hB _).setCell (p := ⟨B, 4, none⟩) hB _).setCell (p := ⟨B, 5, none⟩) hB _)
theorem zeros_text {W : World} {base : Nat} {v : Value} {n : Nat} (ho : W.ownsRow base 5 1 v n ((List.replicate n (0 : Int)).map (Value.int .u8))) :
    ∃ z : ByteArray, z.size = n ∧ (convert 22 9 v).run Tryd.prog W = .ok (.string z) W :=
  ⟨_, (strOfNums_size _).trans (List.length_replicate ..), conv_own ho⟩
/-- The drawn Deframer at d, the zero one at R, the drawer; all below stands. -/
def DdSt (w : World) (R B d : Nat) (D : Obj) (sl : Value) (n : Nat) (wx : World) : Prop :=
  wx.heap[d]? = some D ∧ wx.heap[R]? = some (.cells #[.bool false, .int .i64 0, .bool false, .bool false, .bool false, .string ⟨#[]⟩] 38) ∧ Src wx B sl n ∧ Below w.heap.size w wx
theorem DdSt.nigh {w wx wy : World} {R B d : Nat} {D : Obj} {sl : Value} {n : Nat} (h : DdSt w R B d D sl n wx) (hS : Src wy B sl n) (hb : Nigh B wx wy) (h1 : d ≠ B) (h2 : R ≠ B) (h3 : w.heap.size ≤ B) : DdSt w R B d D sl n wy :=
  ⟨(hb.block d (Array.getElem?_eq_some_iff.1 h.1).1 h1).trans h.1, (hb.block R (Array.getElem?_eq_some_iff.1 h.2.1).1 h2).trans h.2.1, hS, h.2.2.2.trans ((hb.below (Nat.le_of_lt h.2.2.1.lt)).mono h3)⟩
theorem DdSt.new {w wx wy : World} {R B d : Nat} {D : Obj} {sl : Value} {n : Nat} (h : DdSt w R B d D sl n wx) (hb : Below wx.heap.size wx wy) : DdSt w R B d D sl n wy :=
  ⟨(hb.block d (Array.getElem?_eq_some_iff.1 h.1).1).trans h.1, (hb.block R (Array.getElem?_eq_some_iff.1 h.2.1).1).trans h.2.1, h.2.2.1.same (hb.block B h.2.2.1.lt), h.2.2.2.trans (hb.mono h.2.2.2.size)⟩
theorem DdSt.drew {w wx : World} {R B d : Nat} {D : Obj} {sl : Value} {n : Nat} (h : DdSt w R B d D sl n wx) : DdSt w R B d D sl n wx.drew := ⟨h.1, h.2.1, h.2.2.1.same rfl, h.2.2.2.drew⟩
theorem DdSt.cells {w wx : World} {R B d : Nat} {wd : Bool} {y : Int} {x2 x3 x4 x5 : Value} {sl : Value} {n : Nat} (h : DdSt w R B d (.cells #[.bool wd, .int .i64 y, x2, x3, x4, x5] 38) sl n wx) : wx.cell? ⟨d, 0, none⟩ = some (.bool wd) ∧ wx.cell? ⟨d, 1, none⟩ = some (.int .i64 y) := by
  obtain ⟨h0, h1, _⟩ := row6d h.1
  exact ⟨h0, h1⟩
set_option maxHeartbeats 4000000 in
set_option maxRecDepth 100000 in
theorem drawDeframe (CD : DefrWord) (w : World) (sl : Value) (n : Nat) (hn : n ≤ maxLen) (hD : Dat w w.heap.size sl n) :
    Calls Tryd.prog 22 #[sl] w fun e w' => ∃ (wd : Bool) (y : Int) (i s l : Bool) (u t : ByteArray), e = .returned (.tuple #[.agg #[.bool wd, .int .i64 y, .bool i, .bool s, .bool l, .string u], .string t]) ∧ u.size ≤ 306 ∧ t.size ≤ 402 ∧ Below w.heap.size w w' := by
  have HCD := hide CD
  have hD1 : Dat (w.alloc (.cells #[.bool false, .int .i64 0, .bool false, .bool false, .bool false, .string ⟨#[]⟩] 38)) (w.alloc (.cells #[.bool false, .int .i64 0, .bool false, .bool false, .bool false, .string ⟨#[]⟩] 38)).heap.size sl n := (hD.below ((Below.refl _ _).alloc (Nat.le_refl _) _)).mono (by simp)
  have c := src_new (w.alloc (.cells #[.bool false, .int .i64 0, .bool false, .bool false, .bool false, .string ⟨#[]⟩] 38)) sl n hn hD1
  have hsz : (w.alloc (.cells #[.bool false, .int .i64 0, .bool false, .bool false, .bool false, .string ⟨#[]⟩] 38)).heap.size = w.heap.size + 1 := by simp
  have HR0 := hide (heap_alloc_last w (.cells #[.bool false, .int .i64 0, .bool false, .bool false, .bool false, .string ⟨#[]⟩] 38))
  have HB0 := hide ((Below.refl w.heap.size w).alloc (Nat.le_refl _) (.cells #[.bool false, .int .i64 0, .bool false, .bool false, .bool false, .string ⟨#[]⟩] 38))
  have HD := hide hD1
  have hD0 := hD
  clear hD hD1 CD
  obtain ⟨sa, scap, rfl⟩ := (unhide HD).1
  go_enter Tryd.func22, Tryd.ntmps22
  go_wp2_with fail
  refine c.mono ?_
  rintro e w1 ⟨rfl, hS1, hb1⟩
  rw [hsz] at hS1 hb1 HD ⊢
  have hR1 := (hb1.block w.heap.size (by omega)).trans (unhide HR0)
  have hB1 := (unhide HB0).trans (hb1.mono (by omega))
  have HS1 := hide hS1
  clear c hS1 HR0 HB0
  go_wp2_with fail
  refine (src_dfr (unhide HCD) w1 (w.heap.size + 1) _ n hn (unhide HS1) ((unhide HD).below hb1)).mono ?_
  rintro e w2 ⟨wd, y, ii, ss, ll, u, rfl, hu, hS2, hb2⟩
  have hl1 : w.heap.size < w1.heap.size := (Array.getElem?_eq_some_iff.1 hR1).1
  have hR2 := (hb2.block w.heap.size hl1 (by omega)).trans hR1
  have hlS : w.heap.size + 1 < w2.heap.size := hS2.lt
  have hB2 : Below w.heap.size w w2 := hB1.trans ((hb2.below (Nat.le_of_lt (unhide HS1).lt)).mono (by omega))
  have HST := hide (show DdSt w w.heap.size (w.heap.size + 1) w2.heap.size (.cells #[.bool wd, .int .i64 y, .bool ii, .bool ss, .bool ll, .string u] 38) (.slice sa n scap) n (w2.alloc (.cells #[.bool wd, .int .i64 y, .bool ii, .bool ss, .bool ll, .string u] 38)) from
    ⟨heap_alloc_last w2 _, (Below.heap_alloc _ _ _ (by omega)).trans hR2, hS2.same (Below.heap_alloc _ _ _ hlS), hB2.alloc hB2.size _⟩)
  have HDw : Hid (∀ v, Below w.heap.size w v → Dat v (w.heap.size + 1) (.slice sa n scap) n) := hide fun v hv => (hD0.below hv).mono (by omega)
  clear hb1 hb2 hS2 hR1 hR2 hB1 hB2 HS1 HCD HD hl1
  go_upto_region 3 with fail
  refine gen_world (fun v => DdSt w w.heap.size (w.heap.size + 1) w2.heap.size (.cells #[.bool wd, .int .i64 y, .bool ii, .bool ss, .bool ll, .string u] 38) (.slice sa n scap) n v) (unhide HST) ?_
  rintro v hst
  generalize w2.heap.size = d at *
  have hdB : d ≠ w.heap.size + 1 := by omega
  have hdl : w.heap.size + 1 < d := hlS
  clear HST hlS
  generalize hBB : w.heap.size + 1 = B at *
  have hRB : w.heap.size ≠ B := by omega
  have hwB : w.heap.size ≤ B := by omega
  have HV := hide hst
  clear hst hBB
  go_wp2_with fail
  refine (src_n v B _ n 6 (by decide) hn (unhide HV).2.2.1 (unhide HDw _ (unhide HV).2.2.2)).mono ?_
  rintro e w3 ⟨r, rfl, hr, hS3, ht3⟩
  have HV3 := hide ((unhide HV).nigh hS3 (Nigh.of_touch ht3) hdB hRB hwB)
  have hr6 : r < 6 := by omega
  clear hS3 ht3 HV hr
  go_wp2_with fail
  refine (src_odd_n w3 B _ n r (by omega) hn (unhide HV3).2.2.1 (unhide HDw _ (unhide HV3).2.2.2)).mono ?_
  rintro e w4 ⟨t, rfl, ht, hS4, hb4⟩
  have HV4 := hide ((unhide HV3).nigh hS4 hb4 hdB hRB hwB)
  clear hS4 hb4 HV3
  go_wp2_with fail
  refine (src_n w4 B _ n 4 (by decide) hn (unhide HV4).2.2.1 (unhide HDw _ (unhide HV4).2.2.2)).mono ?_
  rintro e w5 ⟨k, rfl, hk, hS5, ht5⟩
  have HV5 := hide ((unhide HV4).nigh hS5 (Nigh.of_touch ht5) hdB hRB hwB)
  have hk4 : k < 4 := by omega
  clear hS5 ht5 HV4 hk
  go_wp2_with fail
  go_loopw [6, 7] (fun a b wr => ∃ (tt : ByteArray) (j : Nat), a = .string tt ∧ b = .int .i64 j ∧ tt.size + 28 * j ≤ 89 ∧ DdSt w w.heap.size B d (.cells #[.bool wd, .int .i64 y, .bool ii, .bool ss, .bool ll, .string u] 38) (.slice sa n scap) n wr) (fun _ b _ => (intOf b).toNat)
  case atStart => exact ⟨t, k, rfl, rfl, by omega, unhide HV5⟩
  case round =>
    obtain ⟨tt, j, rfl, rfl, hj, hst⟩ := hrel
    have HV := hide hst
    clear hst HV5
    by_cases hj0 : j = 0
    · subst hj0
      have htt : tt.size ≤ 89 := by omega
      clear hj
      go_wp2_with fail
      refine (src_one _ B _ n 3 (by decide) hn (unhide HV).2.2.1 (unhide HDw _ (unhide HV).2.2.2)).mono ?_
      rintro e w6 ⟨q, rfl, hS6, ht6⟩
      have HV6 := hide ((unhide HV).nigh hS6 (Nigh.of_touch ht6) hdB hRB hwB)
      clear hS6 ht6 HV
      go_upto_if 36 with fail
      go_cut [6] (fun v wx => ∃ tx : ByteArray, v = .string tx ∧ tx.size ≤ 90 ∧ DdSt w w.heap.size B d (.cells #[.bool wd, .int .i64 y, .bool ii, .bool ss, .bool ll, .string u] 38) (.slice sa n scap) n wx)
      case first =>
        cases q
        · go_wp2_with fail
          go_meet
          exact ⟨tt, rfl, by omega, unhide HV6⟩
        · go_wp2_with fail
          refine (src_spoil_n _ B _ n tt (by omega) hn (unhide HV6).2.2.1 (unhide HDw _ (unhide HV6).2.2.2)).mono ?_
          rintro e w7 ⟨t7, rfl, ht7, hS7, hb7⟩
          have HV7 := hide ((unhide HV6).nigh hS7 hb7 hdB hRB hwB)
          clear hS7 hb7
          go_wp2_with fail
          go_meet
          exact ⟨t7, rfl, by omega, unhide HV7⟩
      case rest =>
        clear HV6 htt
        obtain ⟨tx, hu6, htx, hst⟩ := hcut
        subst hu6
        have HV7 := hide hst
        clear hst
        go_wp2_with fail
        refine (src_one _ B _ n 30 (by decide) hn (unhide HV7).2.2.1 (unhide HDw _ (unhide HV7).2.2.2)).mono ?_
        rintro e w8 ⟨q2, rfl, hS8, ht8⟩
        have HV8 := hide ((unhide HV7).nigh hS8 (Nigh.of_touch ht8) hdB hRB hwB)
        clear hS8 ht8 HV7
        go_upto_if 41 with fail
        go_cut [6] (fun v wx => ∃ tz : ByteArray, v = .string tz ∧ tz.size ≤ 402 ∧ DdSt w w.heap.size B d (.cells #[.bool wd, .int .i64 y, .bool ii, .bool ss, .bool ll, .string u] 38) (.slice sa n scap) n wx)
        case first =>
          cases q2
          · go_wp2_with fail
            go_meet
            exact ⟨tx, rfl, by omega, unhide HV8⟩
          · obtain ⟨ui, hi1, hi2, hi3, hi4⟩ := u8info
            have g1 : ¬ (9223372036854775807 < tx.size + 1) := by omega
            have HG : Hid (∀ z : ByteArray, z.size = 310 → ¬ (9223372036854775807 < tx.size + 1 + z.size) ∧ ¬ (9223372036854775807 < tx.size + 1 + z.size + 1)) := hide fun z hz => ⟨by omega, by omega⟩
            go_wp2_with (first
              | (at_make; refine wpList_make_full w8 rfl _ _ 22 rfl w8.heap.size 5 ui (.int .u8 0) 1 Tryd.underlying22 hi1 hi2 hi3 .i64 .i64 _ _ 310 rfl rfl (by go_num) (by go_num) (by rw [hi4]; decide) (by unfold maxLen; omega) (Nat.le_refl _) ?_; rintro w9 ho9 hg9; rw [made_zeros] at ho9; obtain ⟨z, hzs, hcv⟩ := zeros_text ho9; have hb9 : Below w8.heap.size w8 w9 := (Below.refl _ _).grown hg9 (Nat.le_refl _) (fun k hk => by cases hk); obtain ⟨g2, g3⟩ := unhide HG z hzs; clear ho9 hg9))
            go_wp2_with fail
            go_meet
            exact ⟨_, rfl, by rw [ByteArray.size_append, ByteArray.size_append, ByteArray.size_append, hzs]; show tx.size + 1 + 310 + 1 ≤ 402; omega, (unhide HV8).new hb9⟩
        case rest =>
          clear HV8 htx tx
          obtain ⟨tz, hu6, htz, hst⟩ := hcut
          subst hu6
          obtain ⟨c0, c1, c2, c3, c4, c5⟩ := row6d hst.1
          obtain ⟨r0, r1, r2, r3, r4, r5⟩ := row6d hst.2.1
          obtain ⟨f0, f1, f2, f3, f4, f5⟩ := row6e hst.2.1
          have HL := hide (put6_load hst.2.1 (.bool wd) (.int .i64 y) (.bool ii) (.bool ss) (.bool ll) (.string u))
          have HB := hide (put6_below (B := w.heap.size) hst.2.2.2 (Nat.le_refl _) (.bool wd) (.int .i64 y) (.bool ii) (.bool ss) (.bool ll) (.string u))
          clear hst
          go_wp2
          refine bodyPost_ret (v := .tuple #[.agg #[.bool wd, .int .i64 y, .bool ii, .bool ss, .bool ll, .string u], .string tz]) ?_ rfl ⟨wd, y, ii, ss, ll, u, tz, rfl, hu, htz, unhide HB⟩
          rw [results_cell_tmp rfl]
          simp [asAddr, Result.andThen, unhide HL]
    · have d1 : (0 : Int) < (j : Int) := by omega
      obtain ⟨e0, e1⟩ := (unhide HV).cells
      have CO := hide fun (v : World) (q : Nat) (hq : q < 9) (hS : Src v B (.slice sa n scap) n) (hD : Dat v B (.slice sa n scap) n) => by
        have c := src_odd_n v B (.slice sa n scap) n (1 + q) (by omega) hn hS hD
        rw [show ((1 + q : Nat) : Int) = IntKind.i64.wrap (1 + (q : Int)) by rw [IntKind.wrap_i64]; omega] at c
        exact c
      go_upto_region 7 with fail
      go_region_held3 (fun z => z.cell? ⟨d, 0, none⟩ = some (.bool wd) ∧ z.cell? ⟨d, 1, none⟩ = some (.int .i64 y))
        (first | go_keep | exact (unhide HV8).cells | exact (unhide HV7).cells | exact (unhide HV6).cells)
        (first
          | (go_at_call 42
             refine (src_n _ B _ n 9 (by decide) hn (unhide HV).drew.2.2.1 (unhide HDw _ (unhide HV).drew.2.2.2)).mono ?_
             rintro e w6 ⟨q, rfl, hq, hS6, ht6⟩
             have HV6 := hide ((unhide HV).drew.nigh hS6 (Nigh.of_touch ht6) hdB hRB hwB)
             have hq9 : q < 9 := by omega
             clear hS6 ht6 hq)
          | (go_at_call 52
             refine (unhide CO _ q hq9 (unhide HV6).2.2.1 (unhide HDw _ (unhide HV6).2.2.2)).mono ?_
             rintro e w7 ⟨t7, rfl, ht7, hS7, hb7⟩
             have HV7 := hide ((unhide HV6).nigh hS7 hb7 hdB hRB hwB)
             clear hS7 hb7)
          | (go_at_call 18
             refine (specFrameAll t7 _ wd _ (by unfold maxLen; omega)).mono ?_
             rintro e w8 ⟨rfl, hb8⟩
             have HV8 := hide ((unhide HV7).new hb8)
             have hfs := frame_sz t7 (bits .and .i64 y 4294967295) wd
             generalize frameV t7 (bits .and .i64 y 4294967295) wd = fv at *
             have hfs2 : fv.size ≤ 28 := by omega
             have g1 : ¬ (9223372036854775807 < tt.size + fv.size) := by omega
             clear hb8 hfs))
      go_wp2_with fail
      go_roundw
      case rel => exact ⟨tt ++ fv, j - 1, rfl, by go_num, by rw [ByteArray.size_append]; omega, unhide HV8⟩
      case measure => simp [intOf]; omega
end Go.Proofs.YtillpfcldehfdaaDoor
