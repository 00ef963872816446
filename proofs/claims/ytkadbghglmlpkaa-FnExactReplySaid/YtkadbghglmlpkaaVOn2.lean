/- What is answered to each option, in a row: the walk of the program's verdictsOn; what lay in memory stands. -/
import Derived.Test.YtkadbghglmlpkaaVOn
namespace Go.Proofs.Ytkadbghglmlpkaa
open Go.RowKit
set_option maxHeartbeats 8000000 in
theorem verdOn (m a g : Nat) (p c d : Bool) (L : List Op.Opt) (ad : Option Addr) (cp : Nat) (w : World) (ha : a < 4294967296) (hg : g < 4294967296) (hr : Op.right L = true) (hL : HoldsO w (.slice ad L.length cp) L) :
    Calls Try.prog 31 #[cfgV m a g p c d, .slice ad L.length cp] w fun e w' => ∃ v, e = .returned v ∧ VRow w.heap.size (vdl m a g p c d L L.length) v w' ∧ Below w.heap.size w w' := by
  have hl20 := Op.right_len hr
  obtain ⟨n, hn⟩ : ∃ n, L.length = n := ⟨_, rfl⟩
  rw [hn] at hl20
  obtain ⟨Mk, hMs, hmk⟩ := make_v n hl20
  have HL : Hid (∀ i (hi : i < n), ∃ gL, ad = some ⟨gL, 0, none⟩ ∧ gL < w.heap.size ∧ w.cell? ⟨gL, i * 2, none⟩ = some (.int .i64 (L[i]'(by omega)).kind) ∧ w.cell? ⟨gL, i * 2 + 1, none⟩ = some (.string (L[i]'(by omega)).data)) := by
    refine hide fun i hi => ?_
    rcases hL with ⟨_, _, _, e⟩ | ⟨gL, cp', cur, e, h2, h3, h4⟩
    · rw [e] at hn
      simp at hn
      omega
    · cases e
      have q := ocells_get L i (L[i]'(by omega)) (List.getElem?_eq_getElem (by omega))
      exact ⟨gL, rfl, (Array.getElem?_eq_some_iff.1 h2).1, by rw [cell_of_row _ _ _ _ _ _ h2]; exact (h4 _ (by omega)).trans q.1, by rw [cell_of_row _ _ _ _ _ _ h2]; exact (h4 _ (by omega)).trans q.2⟩
  have HK : Hid (∀ i (hi : i < n), ∃ k : Nat, (L[i]'(by omega)).kind = (k : Int) ∧ 1 ≤ k ∧ k ≤ 255 ∧ (L[i]'(by omega)).data.size ≤ 20) := by
    refine hide fun i hi => ?_
    have := of_decide_eq_true (Op.right_all hr (L[i]'(by omega)) (List.getElem_mem _))
    exact ⟨(L[i]'(by omega)).kind.toNat, by omega, by omega, by omega, this.2.2⟩
  have HJ := hide fun k dt i hv => round_fact m a g p c d ha hg k dt L i hv
  rw [hn]
  clear hL hr ha hg
  go_enter Try.func31, Try.ntmps31
  go_wp2_with fail
  refine (optionRules _).mono ?_
  rintro e w2 ⟨rfl, hm2, hb2⟩
  have hs0 : (w.alloc (.cells #[.int .i64 m, .int .i64 a, .int .i64 g, .bool p, .bool c, .bool d] 26)).heap.size = w.heap.size + 1 := by simp
  rw [hs0] at hm2 hb2
  rw [hs0]
  have hc2 := (hb2.block w.heap.size (by omega)).trans (heap_alloc_last w (.cells #[.int .i64 m, .int .i64 a, .int .i64 g, .bool p, .bool c, .bool d] 26))
  have hB2 := ((Below.refl w.heap.size w).alloc (Nat.le_refl _) (.cells #[.int .i64 m, .int .i64 a, .int .i64 g, .bool p, .bool c, .bool d] 26)).trans (hb2.mono (by omega))
  have hl2 : w.heap.size + 1 < w2.heap.size := (Array.getElem?_eq_some_iff.1 hm2).1
  have HS : Hid (VoS w w.heap.size (w.heap.size + 1) w2.heap.size (w2.heap.size + 1) #[.int .i64 m, .int .i64 a, .int .i64 g, .bool p, .bool c, .bool d] Try.zeroCells74 Mk ((w2.alloc (.cells Try.zeroCells74 74)).alloc (.cells Mk 73))) := by
    obtain ⟨e1, e2, e3, e4⟩ := start2r w2 (.cells Try.zeroCells74 74) (.cells Mk 73)
    exact hide ⟨(e4.block _ (by omega)).trans hc2, (e4.block _ hl2).trans hm2, e2, e3, hB2.trans (e4.mono hB2.size)⟩
  clear hm2 hb2 hs0 hc2 hB2
  go_upto_region 4 with fail
  refine gen_world _ (unhide HS) ?_
  rintro q0 hq0
  have hW0 := was_zero L
  have hL0 : Laid m a g p c d L 0 Mk := ⟨by rw [hMs, hn], fun j hj => by omega⟩
  generalize Try.zeroCells74 = Z at *
  generalize w2.heap.size = A at *
  have HI := hide (And.intro hq0 (And.intro hW0 hL0))
  clear HS hmk hMs hq0 hW0 hL0
  go_wp2_with fail
  go_loopw [18] (fun y wr => ∃ (i : Nat) (ws cur : Array Value), i ≤ n ∧ y = .int .i64 i ∧ VoS w w.heap.size (w.heap.size + 1) A (A + 1) #[.int .i64 m, .int .i64 a, .int .i64 g, .bool p, .bool c, .bool d] ws cur wr ∧ Was L i ws ∧ Laid m a g p c d L i cur) (fun y _ => n - (intOf y).toNat)
  case atStart => exact ⟨0, Z, Mk, Nat.zero_le _, rfl, unhide HI⟩
  case round =>
    obtain ⟨i, ws, cur, hi, rfl, hV, hW, hD⟩ := hrel
    clear HI
    by_cases hlt : i < n
    · have d1 : (i : Int) < (n : Int) := by omega
      have hltL : i < L.length := by omega
      obtain ⟨gL, rfl, hgl, k0, k1⟩ := unhide HL i hlt
      obtain ⟨k, hk, hk1, hk2, hds⟩ := unhide HK i hlt
      have HWP := hide (hW.put hltL k (by omega) hk)
      have HDP := hide fun x t hv => hD.put hltL x (k : Int) t hv
      have HVD := hide (vdAt_lt m a g p c d L i hltL)
      have hwk := hW.2 k (by omega)
      obtain ⟨y0, hy0⟩ : ∃ y0, cur[i * 3]? = some y0 := ⟨_, Array.getElem?_eq_getElem (by rw [hD.1, hn]; omega)⟩
      obtain ⟨y1, hy1⟩ : ∃ y1, cur[i * 3 + 1]? = some y1 := ⟨_, Array.getElem?_eq_getElem (by rw [hD.1, hn]; omega)⟩
      obtain ⟨y2, hy2⟩ : ∃ y2, cur[i * 3 + 2]? = some y2 := ⟨_, Array.getElem?_eq_getElem (by rw [hD.1, hn]; omega)⟩
      replace k0 := (hV.b.cell (p := ⟨gL, i * 2, none⟩) hgl).trans k0
      replace k1 := (hV.b.cell (p := ⟨gL, i * 2 + 1, none⟩) hgl).trans k1
      rw [hk] at k0
      generalize hO : L[i]'(by omega) = o at *
      obtain ⟨kd, dt⟩ := o
      dsimp only at hk k1 hds
      subst hk
      have HV := hide hV
      have hlA : A + 1 < wr.heap.size := (Array.getElem?_eq_some_iff.1 hV.g).1
      clear hV hW hD HL HK
      go_upto_region 7 with fail
      refine gen_world (fun q => VoS w w.heap.size (w.heap.size + 1) A (A + 1) #[.int .i64 m, .int .i64 a, .int .i64 g, .bool p, .bool c, .bool d] ws cur q ∧ q.heap[wr.heap.size]? = some (.cells #[.int .i64 k, .string dt] 54))
        ⟨(unhide HV).step ((Below.refl _ _).alloc (Nat.le_refl _) _), heap_alloc_new wr _⟩ ?_
      rintro q1 ⟨hV1, hO1⟩
      generalize wr.heap.size = N1 at *
      have hl1 : N1 < q1.heap.size := (Array.getElem?_eq_some_iff.1 hO1).1
      have HV1 := hide (And.intro hV1 hO1)
      obtain ⟨c0, c1, _, _⟩ := row2x hO1
      clear hV1 hO1 HV k0 k1
      obtain ⟨x0, x1, x2, x3, x4, x5, bl, hSh, hRule, hNo, hWas, hYes⟩ := unhide HJ k dt i (unhide HVD)
      have HF := hide (And.intro hNo (And.intro hWas hYes))
      clear hNo hWas hYes HVD HJ
      go_cut [10, 11] (fun u v wx => ∃ N2, u = .pointer (some ⟨N2, 0, none⟩) ∧ v = .bool bl ∧ VoS w w.heap.size (w.heap.size + 1) A (A + 1) #[.int .i64 m, .int .i64 a, .int .i64 g, .bool p, .bool c, .bool d] ws cur wx ∧ wx.heap[N1]? = some (.cells #[.int .i64 k, .string dt] 54) ∧ wx.heap[N2]? = some (.cells #[x0, x1, x2, x3, x4, x5] 50))
      case first =>
        rcases hSh with ⟨s, f, f2, f3, f4, f5, rfl, rfl, rfl, rfl, rfl, rfl⟩ | ⟨rfl, rfl, rfl, rfl, rfl, rfl⟩
        all_goals
          go_wp2_with fail
          refine (hRule _ _ (unhide HV1).1.m).mono ?_
          rintro e w3 ⟨rfl, hb3⟩
          have HV3 := hide (And.intro ((unhide HV1).1.step hb3) ((hb3.block N1 hl1).trans (unhide HV1).2))
          have hl3 : N1 < w3.heap.size := Nat.lt_of_lt_of_le hl1 hb3.size
          clear hb3 HV1 hl1 hRule c0 c1
          go_wp2_with fail
          go_meet
          exact ⟨_, rfl, rfl, (unhide HV3).1.step ((Below.refl _ _).alloc (Nat.le_refl _) _), (Below.heap_alloc _ _ _ hl3).trans (unhide HV3).2, heap_alloc_new w3 _⟩
      case rest =>
      obtain ⟨N2, hu10, hu11, hV4, hO4, hR4⟩ := hcut
      subst hu10 hu11
      clear hSh hRule HV1 c0 c1 hl1
      have HV4 := hide (And.intro hV4 (And.intro hO4 hR4))
      obtain ⟨c0, c1, _, _⟩ := row2x hO4
      obtain ⟨r0, r1, r2, r3, r4, r5⟩ := row6 hR4
      obtain ⟨b0, b1, b2, b3, b4, b5⟩ := row6 hV4.c
      have a0 : wc.cell? ⟨A, k, none⟩ = some (.bool (wasIn k (L.take i))) := by rw [cell_of_row _ _ _ _ _ _ hV4.a]; exact hwk
      clear hV4 hO4 hR4
      have hk3 : (k : Int) < 256 := by omega
      have hk0 : (0 : Int) ≤ (k : Int) := by omega
      generalize hwb : wasIn k (L.take i) = wb at *
      cases bl
      · have HVV := (unhide HF).1 rfl
        have HD := hide (unhide HDP 4 dt HVV)
        clear HF HDP HVV
        go_wp2_with fail
        refine (sameOpt k dt _ hds).mono ?_
        rintro e w5 ⟨rfl, hb5⟩
        have h5 := (unhide HV4).1.step hb5
        have hO5 := (hb5.block N1 (Array.getElem?_eq_some_iff.1 (unhide HV4).2.1).1).trans (unhide HV4).2.1
        have g0 : w5.cell? ⟨A + 1, i * 3, none⟩ = some y0 := by rw [cell_of_row _ _ _ _ _ _ h5.g]; exact hy0
        have g1 : w5.cell? ⟨A + 1, i * 3 + 1, none⟩ = some y1 := by rw [cell_of_row _ _ _ _ _ _ h5.g]; exact hy1
        have g2 : w5.cell? ⟨A + 1, i * 3 + 2, none⟩ = some y2 := by rw [cell_of_row _ _ _ _ _ _ h5.g]; exact hy2
        have f0 := frz h5.g (i * 3)
        have f1 := frz h5.g (i * 3 + 1)
        have f2 := frz h5.g (i * 3 + 2)
        have HV5 := hide (And.intro h5 hO5)
        clear h5 hO5 hb5 HV4 c0 c1 r0 r1 r2 r3 r4 r5 b0 b1 b2 b3 b4 b5 a0 hwk hy0 hy1 hy2
        go_upto_region 11 with fail
        refine gen_world (fun q => VoS w w.heap.size (w.heap.size + 1) A (A + 1) #[.int .i64 m, .int .i64 a, .int .i64 g, .bool p, .bool c, .bool d] ws (((cur.setIfInBounds (i * 3) (.int .i64 4)).setIfInBounds (i * 3 + 1) (.int .i64 k)).setIfInBounds (i * 3 + 2) (.string dt)) q ∧ q.heap[N1]? = some (.cells #[.int .i64 k, .string dt] 54))
          ⟨(unhide HV5).1.putG (by omega) (by omega) (by omega) (by omega) _ _ _ _ _ _, by
            rw [Below.heap_setCell _ _ _ _ (by simp; omega), Below.heap_setCell _ _ _ _ (by simp; omega), Below.heap_setCell _ _ _ _ (by simp; omega)]
            exact (unhide HV5).2⟩ ?_
        rintro q6 ⟨hV6, hO6⟩
        obtain ⟨c0, c1, _, _⟩ := row2x hO6
        obtain ⟨y3, hy3⟩ : ∃ y3, ws[k]? = some y3 := ⟨_, Array.getElem?_eq_getElem (by have := (unhide HWP).1; simp at this; omega)⟩
        have a0 : q6.cell? ⟨A, k, none⟩ = some y3 := by rw [cell_of_row _ _ _ _ _ _ hV6.a]; exact hy3
        have fa := frz hV6.a k
        have HV6 := hide (hV6.putA (by omega) (by omega) (by omega) (by omega) k (.bool true))
        clear hV6 hO6 HV5 g0 g1 g2 f0 f1 f2 hy3
        go_wp2_with fail
        go_roundw
        case rel => exact ⟨i + 1, _, _, by omega, by go_num, unhide HV6, unhide HWP, unhide HD⟩
        case measure => simp [intOf]; omega
      · cases wb
        · obtain ⟨x, t', hv, hC⟩ := (unhide HF).2.2 rfl rfl
          have HD := hide (unhide HDP x t' hv)
          have HC := hide hC
          clear HF HDP hv hC
          go_wp2_with fail
          refine (unhide HC _).mono ?_
          rintro e w5 ⟨rfl, hb5⟩
          have h5 := (unhide HV4).1.step hb5
          have hO5 := (hb5.block N1 (Array.getElem?_eq_some_iff.1 (unhide HV4).2.1).1).trans (unhide HV4).2.1
          have g0 : w5.cell? ⟨A + 1, i * 3, none⟩ = some y0 := by rw [cell_of_row _ _ _ _ _ _ h5.g]; exact hy0
          have g1 : w5.cell? ⟨A + 1, i * 3 + 1, none⟩ = some y1 := by rw [cell_of_row _ _ _ _ _ _ h5.g]; exact hy1
          have g2 : w5.cell? ⟨A + 1, i * 3 + 2, none⟩ = some y2 := by rw [cell_of_row _ _ _ _ _ _ h5.g]; exact hy2
          have f0 := frz h5.g (i * 3)
          have f1 := frz h5.g (i * 3 + 1)
          have f2 := frz h5.g (i * 3 + 2)
          have HV5 := hide (And.intro h5 hO5)
          clear h5 hO5 hb5 HV4 c0 c1 r0 r1 r2 r3 r4 r5 b0 b1 b2 b3 b4 b5 a0 hwk hy0 hy1 hy2
          go_upto_region 11 with fail
          refine gen_world (fun q => VoS w w.heap.size (w.heap.size + 1) A (A + 1) #[.int .i64 m, .int .i64 a, .int .i64 g, .bool p, .bool c, .bool d] ws (((cur.setIfInBounds (i * 3) (.int .i64 x)).setIfInBounds (i * 3 + 1) (.int .i64 k)).setIfInBounds (i * 3 + 2) (.string t')) q ∧ q.heap[N1]? = some (.cells #[.int .i64 k, .string dt] 54))
            ⟨(unhide HV5).1.putG (by omega) (by omega) (by omega) (by omega) _ _ _ _ _ _, by
              rw [Below.heap_setCell _ _ _ _ (by simp; omega), Below.heap_setCell _ _ _ _ (by simp; omega), Below.heap_setCell _ _ _ _ (by simp; omega)]
              exact (unhide HV5).2⟩ ?_
          rintro q6 ⟨hV6, hO6⟩
          obtain ⟨c0, c1, _, _⟩ := row2x hO6
          obtain ⟨y3, hy3⟩ : ∃ y3, ws[k]? = some y3 := ⟨_, Array.getElem?_eq_getElem (by have := (unhide HWP).1; simp at this; omega)⟩
          have a0 : q6.cell? ⟨A, k, none⟩ = some y3 := by rw [cell_of_row _ _ _ _ _ _ hV6.a]; exact hy3
          have fa := frz hV6.a k
          have HV6 := hide (hV6.putA (by omega) (by omega) (by omega) (by omega) k (.bool true))
          clear hV6 hO6 HV5 g0 g1 g2 f0 f1 f2 hy3
          go_wp2_with fail
          go_roundw
          case rel => exact ⟨i + 1, _, _, by omega, by go_num, unhide HV6, unhide HWP, unhide HD⟩
          case measure => simp [intOf]; omega
        · have HVV := (unhide HF).2.1 rfl
          have HD := hide (unhide HDP 4 dt HVV)
          clear HF HDP HVV
          go_wp2_with fail
          refine (sameOpt k dt _ hds).mono ?_
          rintro e w5 ⟨rfl, hb5⟩
          have h5 := (unhide HV4).1.step hb5
          have hO5 := (hb5.block N1 (Array.getElem?_eq_some_iff.1 (unhide HV4).2.1).1).trans (unhide HV4).2.1
          have g0 : w5.cell? ⟨A + 1, i * 3, none⟩ = some y0 := by rw [cell_of_row _ _ _ _ _ _ h5.g]; exact hy0
          have g1 : w5.cell? ⟨A + 1, i * 3 + 1, none⟩ = some y1 := by rw [cell_of_row _ _ _ _ _ _ h5.g]; exact hy1
          have g2 : w5.cell? ⟨A + 1, i * 3 + 2, none⟩ = some y2 := by rw [cell_of_row _ _ _ _ _ _ h5.g]; exact hy2
          have f0 := frz h5.g (i * 3)
          have f1 := frz h5.g (i * 3 + 1)
          have f2 := frz h5.g (i * 3 + 2)
          have HV5 := hide (And.intro h5 hO5)
          clear h5 hO5 hb5 HV4 c0 c1 r0 r1 r2 r3 r4 r5 b0 b1 b2 b3 b4 b5 a0 hwk hy0 hy1 hy2
          go_upto_region 11 with fail
          refine gen_world (fun q => VoS w w.heap.size (w.heap.size + 1) A (A + 1) #[.int .i64 m, .int .i64 a, .int .i64 g, .bool p, .bool c, .bool d] ws (((cur.setIfInBounds (i * 3) (.int .i64 4)).setIfInBounds (i * 3 + 1) (.int .i64 k)).setIfInBounds (i * 3 + 2) (.string dt)) q ∧ q.heap[N1]? = some (.cells #[.int .i64 k, .string dt] 54))
            ⟨(unhide HV5).1.putG (by omega) (by omega) (by omega) (by omega) _ _ _ _ _ _, by
              rw [Below.heap_setCell _ _ _ _ (by simp; omega), Below.heap_setCell _ _ _ _ (by simp; omega), Below.heap_setCell _ _ _ _ (by simp; omega)]
              exact (unhide HV5).2⟩ ?_
          rintro q6 ⟨hV6, hO6⟩
          obtain ⟨c0, c1, _, _⟩ := row2x hO6
          obtain ⟨y3, hy3⟩ : ∃ y3, ws[k]? = some y3 := ⟨_, Array.getElem?_eq_getElem (by have := (unhide HWP).1; simp at this; omega)⟩
          have a0 : q6.cell? ⟨A, k, none⟩ = some y3 := by rw [cell_of_row _ _ _ _ _ _ hV6.a]; exact hy3
          have fa := frz hV6.a k
          have HV6 := hide (hV6.putA (by omega) (by omega) (by omega) (by omega) k (.bool true))
          clear hV6 hO6 HV5 g0 g1 g2 f0 f1 f2 hy3
          go_wp2_with fail
          go_roundw
          case rel => exact ⟨i + 1, _, _, by omega, by go_num, unhide HV6, unhide HWP, unhide HD⟩
          case measure => simp [intOf]; omega
    · have e : i = n := by omega
      subst e
      have d1 : ¬ ((i : Int) < (i : Int)) := by omega
      have hlA := hl2
      go_wp2
      go_ret
      exact ⟨_, rfl, ⟨A + 1, cur, by rw [vdl_len]; rfl, by omega, hV.g, by rw [vdl_len, hD.1, hn], fun j hj => hD.2 j (by rw [vdl_len] at hj; exact hj)⟩, hV.b⟩
end Go.Proofs.Ytkadbghglmlpkaa
