/- What is answered to each option, in a row: the walk of the program's verdictsOn; what lay in memory stands. An option put behind a row of options that the call made; no condition but those named. The program's Ask; what lay in memory stands, and the answer is a row of its own. The worst code, and the options of it: the program's answerOf; what lay in memory stands, and the answer's row is its own. The program's Reply; what lay in memory stands, and the answer's row is its own. What is answered to a request of configuration, in plain words: it fits a packet; of a nak no kind is twice; plain mathematics. -/
import Derived.Test.YtahpjlbaagkdoaaGreatDoorS12
import Derived.Test.YtahpjlbaagkdoaaGreatDoorS04
import Derived.Test.YtahpjlbaagkdoaaGreatDoorS11
import Derived.Test.YtahpjlbaagkdoaaGreatDoorS05
import Derived.Test.YtahpjlbaagkdoaaGreatDoorS06
import Derived.Deep.DeepCutAuto
import Derived.Test.YtahpjlbaagkdoaaGreatDoorShW
namespace Go.Proofs.YtahpjlbaagkdoaaGreatDoor
open Go.RowKit
set_option maxHeartbeats 8000000 in
theorem verdOn (m a g : Nat) (p c d : Bool) (L : List Op.Opt) (ad : Option Addr) (cp : Nat) (w : World) (ha : a < 4294967296) (hg : g < 4294967296) (hr : Op.right L = true) (hL : HoldsO w (.slice ad L.length cp) L) :
  Calls Tryz.prog 158 #[cfgV m a g p c d, .slice ad L.length cp] w fun e w' => ∃ v, e = .returned v ∧ VRow w.heap.size (vdl m a g p c d L L.length) v w' ∧ Below w.heap.size w w' := by
 have hl20 := Op.right_len hr
 obtain ⟨n, hn⟩ : ∃ n, L.length = n := ⟨_, rfl⟩
 rw [hn] at hl20
 obtain ⟨Mk, hMs, hmk⟩ := make_v n hl20
 have HL : Hid (∀ i (hi : i < n), ∃ gL, ad = some ⟨gL, 0, none⟩ ∧ gL < w.heap.size ∧ w.cell? ⟨gL, i * 2, none⟩ = some (.int .i64 (L[i]'(by omega)).kind) ∧ w.cell? ⟨gL, i * 2 + 1, none⟩ = some (.string (L[i]'(by omega)).data)) := by
  refine hide fun i hi => ?_
  rcases hL with ⟨_, _, _, e⟩ | ⟨gL, cp', cur, e, h2, h3, h4⟩
  ·rw [e] at hn
   simp at hn
   omega
  ·cases e
   have q := ocells_get L i (L[i]'(by omega)) (List.getElem?_eq_getElem (by omega))
   exact ⟨gL, rfl, (Array.getElem?_eq_some_iff.1 h2).1, by rw [cell_of_row _ _ _ _ _ _ h2]; exact (h4 _ (by omega)).trans q.1, by rw [cell_of_row _ _ _ _ _ _ h2]; exact (h4 _ (by omega)).trans q.2⟩
 have HK : Hid (∀ i (hi : i < n), ∃ k : Nat, (L[i]'(by omega)).kind = (k : Int) ∧ 1 ≤ k ∧ k ≤ 255 ∧ (L[i]'(by omega)).data.size ≤ 20) := by
  refine hide fun i hi => ?_
  have := of_decide_eq_true (Op.right_all hr (L[i]'(by omega)) (List.getElem_mem _))
  exact ⟨(L[i]'(by omega)).kind.toNat, by omega, by omega, by omega, this.2.2⟩
 have HJ := hide fun k dt i hv => round_fact m a g p c d ha hg k dt L i hv
 rw [hn]
 clear hL hr ha hg
 go_enter Tryz.func158, Tryz.ntmps158
 go_wp2_with fail
 refine (optionRules _).mono ?_
 rintro e w2 ⟨rfl, hm2, hb2⟩
 have hs0 : (w.alloc (.cells #[.int .i64 m, .int .i64 a, .int .i64 g, .bool p, .bool c, .bool d] 24)).heap.size = w.heap.size + 1 := by simp
 rw [hs0] at hm2 hb2
 rw [hs0]
 have hc2 := (hb2.block w.heap.size (by omega)).trans (heap_alloc_last w (.cells #[.int .i64 m, .int .i64 a, .int .i64 g, .bool p, .bool c, .bool d] 24))
 have hB2 := ((Below.refl w.heap.size w).alloc (Nat.le_refl _) (.cells #[.int .i64 m, .int .i64 a, .int .i64 g, .bool p, .bool c, .bool d] 24)).trans (hb2.mono (by omega))
 have hl2 : w.heap.size + 1 < w2.heap.size := (Array.getElem?_eq_some_iff.1 hm2).1
 have HS : Hid (VoS w w.heap.size (w.heap.size + 1) w2.heap.size (w2.heap.size + 1) #[.int .i64 m, .int .i64 a, .int .i64 g, .bool p, .bool c, .bool d] Tryz.zeroCells259 Mk ((w2.alloc (.cells Tryz.zeroCells259 259)).alloc (.cells Mk 258))) := by
  obtain ⟨e1, e2, e3, e4⟩ := start2r w2 (.cells Tryz.zeroCells259 259) (.cells Mk 258)
  exact hide ⟨(e4.block _ (by omega)).trans hc2, (e4.block _ hl2).trans hm2, e2, e3, hB2.trans (e4.mono hB2.size)⟩
 clear hm2 hb2 hs0 hc2 hB2
 go_upto_region 4 with fail
 refine gen_world _ (unhide HS) ?_
 rintro q0 hq0
 have hW0 := was_zero L
 have hL0 : Laid m a g p c d L 0 Mk := ⟨by rw [hMs, hn], fun j hj => by omega⟩
 generalize Tryz.zeroCells259 = Z at *
 generalize w2.heap.size = A at *
 have HI := hide (And.intro hq0 (And.intro hW0 hL0))
 clear HS hmk hMs hq0 hW0 hL0
 go_wp2_with fail
 go_loopw [18] (fun y wr => ∃ (i : Nat) (ws cur : Array Value), i ≤ n ∧ y = .int .i64 i ∧ VoS w w.heap.size (w.heap.size + 1) A (A + 1) #[.int .i64 m, .int .i64 a, .int .i64 g, .bool p, .bool c, .bool d] ws cur wr ∧ Was L i ws ∧ Laid m a g p c d L i cur) (fun y _ => n - (intOf y).toNat)
 case atStart => exact ⟨0, Z, Mk, Nat.zero_le _, rfl, unhide HI⟩
 case round =>
  obtain ⟨i, ws, cur, hi, rfl, hV, hW, hD⟩ := hrel
  clear HI
  by_cases hlt : i < n
  ·have d1 : (i : Int) < (n : Int) := by omega
   have hltL : i < L.length := by omega
   obtain ⟨gL, rfl, hgl, k0, k1⟩ := unhide HL i hlt
   obtain ⟨k, hk, hk1, hk2, hds⟩ := unhide HK i hlt
   have HWP := hide (hW.put hltL k (by omega) hk)
   have HDP := hide fun x t hv => hD.put hltL x (k : Int) t hv
   have HVD := hide (vdAt_lt m a g p c d L i hltL)
   have hwk := hW.2 k (by omega)
   obtain ⟨y0, hy0⟩ : ∃ y0, cur[i * 3]? = some y0 := ⟨_, Array.getElem?_eq_getElem (by rw [hD.1, hn]; omega)⟩
   obtain ⟨y1, hy1⟩ : ∃ y1, cur[i * 3 + 1]? = some y1 := ⟨_, Array.getElem?_eq_getElem (by rw [hD.1, hn]; omega)⟩
   obtain ⟨y2, hy2⟩ : ∃ y2, cur[i * 3 + 2]? = some y2 := ⟨_, Array.getElem?_eq_getElem (by rw [hD.1, hn]; omega)⟩
   replace k0 := (hV.b.cell (p := ⟨gL, i * 2, none⟩) hgl).trans k0
   replace k1 := (hV.b.cell (p := ⟨gL, i * 2 + 1, none⟩) hgl).trans k1
   rw [hk] at k0
   generalize hO : L[i]'(by omega) = o at *
   obtain ⟨kd, dt⟩ := o
   dsimp only at hk k1 hds
   subst hk
   have HV := hide hV
   have hlA : A + 1 < wr.heap.size := (Array.getElem?_eq_some_iff.1 hV.g).1
   clear hV hW hD HL HK
   go_upto_region 7 with fail
   refine gen_world (fun q => VoS w w.heap.size (w.heap.size + 1) A (A + 1) #[.int .i64 m, .int .i64 a, .int .i64 g, .bool p, .bool c, .bool d] ws cur q ∧ q.heap[wr.heap.size]? = some (.cells #[.int .i64 k, .string dt] 116))
    ⟨(unhide HV).step ((Below.refl _ _).alloc (Nat.le_refl _) _), heap_alloc_new wr _⟩ ?_
   rintro q1 ⟨hV1, hO1⟩
   generalize wr.heap.size = N1 at *
   have hl1 : N1 < q1.heap.size := (Array.getElem?_eq_some_iff.1 hO1).1
   have HV1 := hide (And.intro hV1 hO1)
   obtain ⟨c0, c1, _, _⟩ := row2x hO1
   clear hV1 hO1 HV k0 k1
   obtain ⟨x0, x1, x2, x3, x4, x5, bl, hSh, hRule, hNo, hWas, hYes⟩ := unhide HJ k dt i (unhide HVD)
   have HF := hide (And.intro hNo (And.intro hWas hYes))
   clear hNo hWas hYes HVD HJ
   go_cut [10, 11] (fun u v wx => ∃ N2, u = .pointer (some ⟨N2, 0, none⟩) ∧ v = .bool bl ∧ VoS w w.heap.size (w.heap.size + 1) A (A + 1) #[.int .i64 m, .int .i64 a, .int .i64 g, .bool p, .bool c, .bool d] ws cur wx ∧ wx.heap[N1]? = some (.cells #[.int .i64 k, .string dt] 116) ∧ wx.heap[N2]? = some (.cells #[x0, x1, x2, x3, x4, x5] 185))
   case first =>
    rcases hSh with ⟨s, f, f2, f3, f4, f5, rfl, rfl, rfl, rfl, rfl, rfl⟩ | ⟨rfl, rfl, rfl, rfl, rfl, rfl⟩
    all_goals
     go_wp2_with fail
     refine (hRule _ _ (unhide HV1).1.m).mono ?_
     rintro e w3 ⟨rfl, hb3⟩
     have HV3 := hide (And.intro ((unhide HV1).1.step hb3) ((hb3.block N1 hl1).trans (unhide HV1).2))
     have hl3 : N1 < w3.heap.size := Nat.lt_of_lt_of_le hl1 hb3.size
     clear hb3 HV1 hl1 hRule c0 c1
     go_wp2_with fail
     go_meet
     exact ⟨_, rfl, rfl, (unhide HV3).1.step ((Below.refl _ _).alloc (Nat.le_refl _) _), (Below.heap_alloc _ _ _ hl3).trans (unhide HV3).2, heap_alloc_new w3 _⟩
   case rest =>
   obtain ⟨N2, hu10, hu11, hV4, hO4, hR4⟩ := hcut
   subst hu10 hu11
   clear hSh hRule HV1 c0 c1 hl1
   have HV4 := hide (And.intro hV4 (And.intro hO4 hR4))
   obtain ⟨c0, c1, _, _⟩ := row2x hO4
   obtain ⟨r0, r1, r2, r3, r4, r5⟩ := row6 hR4
   obtain ⟨b0, b1, b2, b3, b4, b5⟩ := row6 hV4.c
   have a0 : wc.cell? ⟨A, k, none⟩ = some (.bool (wasIn k (L.take i))) := by rw [cell_of_row _ _ _ _ _ _ hV4.a]; exact hwk
   clear hV4 hO4 hR4
   have hk3 : (k : Int) < 256 := by omega
   have hk0 : (0 : Int) ≤ (k : Int) := by omega
   generalize hwb : wasIn k (L.take i) = wb at *
   cases bl
   ·have HVV := (unhide HF).1 rfl
    have HD := hide (unhide HDP 4 dt HVV)
    clear HF HDP HVV
    go_wp2_with fail
    refine (sameOpt k dt _ hds).mono ?_
    rintro e w5 ⟨rfl, hb5⟩
    have h5 := (unhide HV4).1.step hb5
    have hO5 := (hb5.block N1 (Array.getElem?_eq_some_iff.1 (unhide HV4).2.1).1).trans (unhide HV4).2.1
    have g0 : w5.cell? ⟨A + 1, i * 3, none⟩ = some y0 := by rw [cell_of_row _ _ _ _ _ _ h5.g]; exact hy0
    have g1 : w5.cell? ⟨A + 1, i * 3 + 1, none⟩ = some y1 := by rw [cell_of_row _ _ _ _ _ _ h5.g]; exact hy1
    have g2 : w5.cell? ⟨A + 1, i * 3 + 2, none⟩ = some y2 := by rw [cell_of_row _ _ _ _ _ _ h5.g]; exact hy2
    have f0 := frz h5.g (i * 3)
    have f1 := frz h5.g (i * 3 + 1)
    have f2 := frz h5.g (i * 3 + 2)
    have HV5 := hide (And.intro h5 hO5)
    clear h5 hO5 hb5 HV4 c0 c1 r0 r1 r2 r3 r4 r5 b0 b1 b2 b3 b4 b5 a0 hwk hy0 hy1 hy2
    go_upto_region 11 with fail
    refine gen_world (fun q => VoS w w.heap.size (w.heap.size + 1) A (A + 1) #[.int .i64 m, .int .i64 a, .int .i64 g, .bool p, .bool c, .bool d] ws (((cur.setIfInBounds (i * 3) (.int .i64 4)).setIfInBounds (i * 3 + 1) (.int .i64 k)).setIfInBounds (i * 3 + 2) (.string dt)) q ∧ q.heap[N1]? = some (.cells #[.int .i64 k, .string dt] 116))
     ⟨(unhide HV5).1.putG (by omega) (by omega) (by omega) (by omega) _ _ _ _ _ _, by
      rw [Below.heap_setCell _ _ _ _ (by simp; omega), Below.heap_setCell _ _ _ _ (by simp; omega), Below.heap_setCell _ _ _ _ (by simp; omega)]
      exact (unhide HV5).2⟩ ?_
    rintro q6 ⟨hV6, hO6⟩
    obtain ⟨c0, c1, _, _⟩ := row2x hO6
    obtain ⟨y3, hy3⟩ : ∃ y3, ws[k]? = some y3 := ⟨_, Array.getElem?_eq_getElem (by have := (unhide HWP).1; simp at this; omega)⟩
    have a0 : q6.cell? ⟨A, k, none⟩ = some y3 := by rw [cell_of_row _ _ _ _ _ _ hV6.a]; exact hy3
    have fa := frz hV6.a k
    have HV6 := hide (hV6.putA (by omega) (by omega) (by omega) (by omega) k (.bool true))
    clear hV6 hO6 HV5 g0 g1 g2 f0 f1 f2 hy3
    go_wp2_with fail
    go_roundw
    case rel => exact ⟨i + 1, _, _, by omega, by go_num, unhide HV6, unhide HWP, unhide HD⟩
    case measure => simp [intOf]; omega
   ·cases wb
    ·obtain ⟨x, t', hv, hC⟩ := (unhide HF).2.2 rfl rfl
     have HD := hide (unhide HDP x t' hv)
     have HC := hide hC
     clear HF HDP hv hC
     go_wp2_with fail
     refine (unhide HC _).mono ?_
     rintro e w5 ⟨rfl, hb5⟩
     have h5 := (unhide HV4).1.step hb5
     have hO5 := (hb5.block N1 (Array.getElem?_eq_some_iff.1 (unhide HV4).2.1).1).trans (unhide HV4).2.1
     have g0 : w5.cell? ⟨A + 1, i * 3, none⟩ = some y0 := by rw [cell_of_row _ _ _ _ _ _ h5.g]; exact hy0
     have g1 : w5.cell? ⟨A + 1, i * 3 + 1, none⟩ = some y1 := by rw [cell_of_row _ _ _ _ _ _ h5.g]; exact hy1
     have g2 : w5.cell? ⟨A + 1, i * 3 + 2, none⟩ = some y2 := by rw [cell_of_row _ _ _ _ _ _ h5.g]; exact hy2
     have f0 := frz h5.g (i * 3)
     have f1 := frz h5.g (i * 3 + 1)
     have f2 := frz h5.g (i * 3 + 2)
     have HV5 := hide (And.intro h5 hO5)
     clear h5 hO5 hb5 HV4 c0 c1 r0 r1 r2 r3 r4 r5 b0 b1 b2 b3 b4 b5 a0 hwk hy0 hy1 hy2
     go_upto_region 11 with fail
     refine gen_world (fun q => VoS w w.heap.size (w.heap.size + 1) A (A + 1) #[.int .i64 m, .int .i64 a, .int .i64 g, .bool p, .bool c, .bool d] ws (((cur.setIfInBounds (i * 3) (.int .i64 x)).setIfInBounds (i * 3 + 1) (.int .i64 k)).setIfInBounds (i * 3 + 2) (.string t')) q ∧ q.heap[N1]? = some (.cells #[.int .i64 k, .string dt] 116))
      ⟨(unhide HV5).1.putG (by omega) (by omega) (by omega) (by omega) _ _ _ _ _ _, by
       rw [Below.heap_setCell _ _ _ _ (by simp; omega), Below.heap_setCell _ _ _ _ (by simp; omega), Below.heap_setCell _ _ _ _ (by simp; omega)]
       exact (unhide HV5).2⟩ ?_
     rintro q6 ⟨hV6, hO6⟩
     obtain ⟨c0, c1, _, _⟩ := row2x hO6
     obtain ⟨y3, hy3⟩ : ∃ y3, ws[k]? = some y3 := ⟨_, Array.getElem?_eq_getElem (by have := (unhide HWP).1; simp at this; omega)⟩
     have a0 : q6.cell? ⟨A, k, none⟩ = some y3 := by rw [cell_of_row _ _ _ _ _ _ hV6.a]; exact hy3
     have fa := frz hV6.a k
     have HV6 := hide (hV6.putA (by omega) (by omega) (by omega) (by omega) k (.bool true))
     clear hV6 hO6 HV5 g0 g1 g2 f0 f1 f2 hy3
     go_wp2_with fail
     go_roundw
     case rel => exact ⟨i + 1, _, _, by omega, by go_num, unhide HV6, unhide HWP, unhide HD⟩
     case measure => simp [intOf]; omega
    ·have HVV := (unhide HF).2.1 rfl
     have HD := hide (unhide HDP 4 dt HVV)
     clear HF HDP HVV
     go_wp2_with fail
     refine (sameOpt k dt _ hds).mono ?_
     rintro e w5 ⟨rfl, hb5⟩
     have h5 := (unhide HV4).1.step hb5
     have hO5 := (hb5.block N1 (Array.getElem?_eq_some_iff.1 (unhide HV4).2.1).1).trans (unhide HV4).2.1
     have g0 : w5.cell? ⟨A + 1, i * 3, none⟩ = some y0 := by rw [cell_of_row _ _ _ _ _ _ h5.g]; exact hy0
     have g1 : w5.cell? ⟨A + 1, i * 3 + 1, none⟩ = some y1 := by rw [cell_of_row _ _ _ _ _ _ h5.g]; exact hy1
     have g2 : w5.cell? ⟨A + 1, i * 3 + 2, none⟩ = some y2 := by rw [cell_of_row _ _ _ _ _ _ h5.g]; exact hy2
     have f0 := frz h5.g (i * 3)
     have f1 := frz h5.g (i * 3 + 1)
     have f2 := frz h5.g (i * 3 + 2)
     have HV5 := hide (And.intro h5 hO5)
     clear h5 hO5 hb5 HV4 c0 c1 r0 r1 r2 r3 r4 r5 b0 b1 b2 b3 b4 b5 a0 hwk hy0 hy1 hy2
     go_upto_region 11 with fail
     refine gen_world (fun q => VoS w w.heap.size (w.heap.size + 1) A (A + 1) #[.int .i64 m, .int .i64 a, .int .i64 g, .bool p, .bool c, .bool d] ws (((cur.setIfInBounds (i * 3) (.int .i64 4)).setIfInBounds (i * 3 + 1) (.int .i64 k)).setIfInBounds (i * 3 + 2) (.string dt)) q ∧ q.heap[N1]? = some (.cells #[.int .i64 k, .string dt] 116))
      ⟨(unhide HV5).1.putG (by omega) (by omega) (by omega) (by omega) _ _ _ _ _ _, by
       rw [Below.heap_setCell _ _ _ _ (by simp; omega), Below.heap_setCell _ _ _ _ (by simp; omega), Below.heap_setCell _ _ _ _ (by simp; omega)]
       exact (unhide HV5).2⟩ ?_
     rintro q6 ⟨hV6, hO6⟩
     obtain ⟨c0, c1, _, _⟩ := row2x hO6
     obtain ⟨y3, hy3⟩ : ∃ y3, ws[k]? = some y3 := ⟨_, Array.getElem?_eq_getElem (by have := (unhide HWP).1; simp at this; omega)⟩
     have a0 : q6.cell? ⟨A, k, none⟩ = some y3 := by rw [cell_of_row _ _ _ _ _ _ hV6.a]; exact hy3
     have fa := frz hV6.a k
     have HV6 := hide (hV6.putA (by omega) (by omega) (by omega) (by omega) k (.bool true))
     clear hV6 hO6 HV5 g0 g1 g2 f0 f1 f2 hy3
     go_wp2_with fail
     go_roundw
     case rel => exact ⟨i + 1, _, _, by omega, by go_num, unhide HV6, unhide HWP, unhide HD⟩
     case measure => simp [intOf]; omega
  ·have e : i = n := by omega
   subst e
   have d1 : ¬ ((i : Int) < (i : Int)) := by omega
   have hlA := hl2
   go_wp2
   go_ret
   exact ⟨_, rfl, ⟨A + 1, cur, by rw [vdl_len]; rfl, by omega, hV.g, by rw [vdl_len, hD.1, hn], fun j hj => hD.2 j (by rw [vdl_len] at hj; exact hj)⟩, hV.b⟩
theorem append_opt {wr : World} {ops : Array Oper} {rest : List Oper} {o : Oper} {a : Act} {Q : Exit → Act → World → Prop} (hgd : o.guard = none) (s x : Operand)
  (ho : o.op = .call { callee := .builtin .append, args := #[s, x], argTypes := #[25, 25] })
  (base : Nat) (v : Value) (F : List Op.Opt) (n : Nat) (hn : F.length = n) (hs : a.eval s = v) (hown : wr.ownsRow base 116 2 v n (ocells F)) (kd : Int) (dt : ByteArray) (hx : a.eval x = .slice (some ⟨wr.heap.size, 0, none⟩) 1 1) (hlen : n ≤ 1000) (hbase : base ≤ wr.heap.size)
  (h : ∀ v' w', w'.ownsRow base 116 2 v' (n + 1) (ocells (F ++ [⟨kd, dt⟩])) → (wr.alloc (.cells #[.int .i64 kd, .string dt] 116)).grownBy w' v.ownBlock → wpList Tryz.prog ops Q rest (a.put o.dst v') w') : wpList Tryz.prog ops Q (o :: rest) a (wr.alloc (.cells #[.int .i64 kd, .string dt] 116)) := by
 obtain ⟨i0, hi0, hz0, hz1, hz2⟩ := oinfo
 refine wpList_append_own _ hgd s x 25 ho base 116 i0 _ 2 24 Tryz.underlying25 hi0 hz0 hz1 hz2 rfl (by decide) v n (ocells F) hs (hown.alloc _) ⟨wr.heap.size, 0, none⟩ 1 1 [.int .i64 kd, .string dt] hx rfl ?_ ?_ ?_ ?_ ?_ ?_
 ·intro i u hu
  rw [Addr.add_lit, Nat.zero_add, World.cell?_alloc_at _ _ _ _ rfl, ← hu]
  simp
 ·intro u hu
  simp only [List.mem_cons, List.not_mem_nil, or_false] at hu
  rcases hu with rfl | rfl <;> rfl
 ·unfold maxLen; omega
 ·omega
 ·simp; omega
 ·intro v' w2 hown2 hg2 _
  refine h v' w2 ?_ hg2
  rw [ocells_append]
  exact hown2
theorem own_lower {w : World} {base base' : Nat} {e : TypeId} {size : Nat} {v : Value} {n : Nat} {xs : List Value} (h : w.ownsRow base e size v n xs) (hb : base' ≤ base) : w.ownsRow base' e size v n xs :=
 ⟨h.1, h.2.imp id fun ⟨g, cap, cur, h1, h2, h3⟩ => ⟨g, cap, cur, h1, Nat.le_trans hb h2, h3⟩⟩
set_option maxHeartbeats 4000000 in
theorem implAskYes (m a g : Nat) (p c d : Bool) (w : World) (h : cfgOk m a g = true) :
  Calls Tryz.prog 237 #[cfgV m a g p c d] w fun e w' => ∃ ad cp, e = .returned (.slice ad (askL m a g p c d 6).length cp) ∧ w'.ownsRow w.heap.size 116 2 (.slice ad (askL m a g p c d 6).length cp) (askL m a g p c d 6).length (ocells (askL m a g p c d 6)) ∧ Below w.heap.size w w' := by
 have C := hide fun v => implCfg m a g p c d v
 rw [h] at C
 clear h
 go_enter Tryz.func237, Tryz.ntmps237
 go_wp2_with fail
 refine (unhide C _).mono ?_
 rintro e w1 ⟨rfl, hb1⟩
 have hr1 := (hb1.block w.heap.size (by simp)).trans (heap_alloc_last w (.cells #[.int .i64 m, .int .i64 a, .int .i64 g, .bool p, .bool c, .bool d] 24))
 have hB1 := ((Below.refl w.heap.size w).alloc (Nat.le_refl _) (.cells #[.int .i64 m, .int .i64 a, .int .i64 g, .bool p, .bool c, .bool d] 24)).trans (hb1.mono (by simp))
 clear hb1 C
 go_wp2_with fail
 refine (optionRules _).mono ?_
 rintro e w2 ⟨rfl, hm2, hb2⟩
 have hr2 := (hb2.block w.heap.size (Array.getElem?_eq_some_iff.1 hr1).1).trans hr1
 have hB2 := hB1.trans (hb2.mono hB1.size)
 have hc1 : w.heap.size < w2.heap.size := (Array.getElem?_eq_some_iff.1 hr2).1
 have hc2 : w1.heap.size < w2.heap.size := (Array.getElem?_eq_some_iff.1 hm2).1
 generalize w1.heap.size = M at *
 have HR2 := hide hr2
 have HM2 := hide hm2
 have HB2 := hide hB2
 clear hr1 hr2 hm2 hB1 hB2 hb2
 go_wp2_with fail
 go_loopw [4, 15] (fun x y wr => ∃ (i : Nat) (ad : Option Addr) (cp : Nat), i ≤ 6 ∧ y = .int .i64 i ∧ x = .slice ad (askL m a g p c d i).length cp ∧ wr.ownsRow w2.heap.size 116 2 (.slice ad (askL m a g p c d i).length cp) (askL m a g p c d i).length (ocells (askL m a g p c d i)) ∧ Below w2.heap.size w2 wr) (fun _ y _ => 6 - (intOf y).toNat)
 case atStart => exact ⟨0, none, 0, by omega, rfl, rfl, ⟨rfl, Or.inl ⟨rfl, rfl⟩⟩, Below.refl _ _⟩
 case round =>
  obtain ⟨i, ad, cp, hi, rfl, rfl, ho, hb⟩ := hrel
  by_cases hlt : i < 6
  ·have d1 : (i : Int) < 6 := by omega
   obtain ⟨k, s, f, f2, f3, f4, f5, n, j, b, t, hR⟩ := ask_row m a g p c d i hlt
   have hix := hR.ix
   have hcf := hR.cf
   have hlk := look_at wr M rules 6 j k _ ((hb.block M hc2).trans (unhide HM2)) hR.fd
   have hcr := (hb.block w.heap.size hc1).trans (unhide HR2)
   obtain ⟨c0, c1, c2, c3, c4, c5⟩ := row6 hcr
   have hbs := hb.size
   have HR := hide hR
   have HO := hide ho
   have HB := hide hb
   have hln := askL_len m a g p c d i
   clear hR ho hb c0 c1 c2 c3 c4 c5
   go_upto_region 9 with fail
   refine gen_world (fun q => q.heap[wr.heap.size]? = some (.cells #[.int .i64 s, fnV f, fnV f2, fnV f3, fnV f4, fnV f5] 185) ∧ q.heap[w.heap.size]? = some (.cells #[.int .i64 m, .int .i64 a, .int .i64 g, .bool p, .bool c, .bool d] 24) ∧ Below wr.heap.size wr q)
    ⟨heap_alloc_new wr _, (Below.heap_alloc _ _ _ (by omega)).trans hcr, (Below.refl _ _).alloc (Nat.le_refl _) _⟩ ?_
   rintro q ⟨hrq, hcq, hbq⟩
   obtain ⟨c0, c1, c2, c3, c4, c5⟩ := row6 hcq
   obtain ⟨r0, r1, r2, r3, r4, r5⟩ := row6 hrq
   have HQ := hide (And.intro hrq hbq)
   clear hcr hcq hrq hbq
   go_wp2_with fail
   refine ((unhide HR).ask _).mono ?_
   rintro e w3 ⟨rfl, hb3⟩
   have hR3 := (hb3.block wr.heap.size (Array.getElem?_eq_some_iff.1 (unhide HQ).1).1).trans (unhide HQ).1
   have hbw : Below wr.heap.size wr w3 := (unhide HQ).2.trans (hb3.mono (unhide HQ).2.size)
   have HO3 := hide (own_same (unhide HO) fun q _ hq => hbw.block q hq)
   have HB3 := hide ((unhide HB).trans (hbw.mono hbs))
   clear hb3 HO HB r0 r1 r2 r3 r4 r5 HQ
   obtain ⟨r0, r1, r2, r3, r4, r5⟩ := row6 hR3
   have hbs3 := Nat.le_trans hbs hbw.size
   clear hR3 hbw r1 r2 r3 r4 r5 c0 c1 c2 c3 c4 c5 hix hlk hcf
   have hls := (unhide HR).lst
   have HLS := hide hls
   clear hls
   cases b
   ·go_wp2_with fail
    go_roundw
    case rel => 
     refine ⟨i + 1, ad, cp, by omega, by go_num, ?_, ?_, unhide HB3⟩
     ·rw [unhide HLS, askIf_no, List.append_nil]
     ·rw [unhide HLS, askIf_no, List.append_nil]
      exact unhide HO3
    case measure => simp [intOf]; omega
   ·go_wp2_with fail
    refine ((unhide HR).num _).mono ?_
    rintro e w4 ⟨rfl, hb4⟩
    have HO4 := hide (own_same (unhide HO3) fun q _ hq => hb4.block q hq)
    have HB4 := hide ((unhide HB3).trans (hb4.mono hbs3))
    have hbs4 := Nat.le_trans hbs3 hb4.size
    clear hb4 HO3 HB3 r0
    go_wp2_with (first | (at_builtin; refine append_opt rfl _ _ rfl w2.heap.size (.slice ad (askL m a g p c d i).length cp) (askL m a g p c d i) (askL m a g p c d i).length rfl rfl (unhide HO4) k t rfl (by omega) hbs4 ?_; rintro v6 w6 ho6 hg6; obtain ⟨a6, c6, rfl⟩ := own_form ho6))
    have hb6 : Below w2.heap.size w2 w6 := ((unhide HB4).alloc hbs4 _).grown hg6 (by simp; omega) (fun q hq => (World.ownsRow.lt (unhide HO4) q hq).1)
    go_roundw
    case rel =>
     have hl1 : (askL m a g p c d i).length + 1 = (askL m a g p c d (i + 1)).length := by rw [unhide HLS, askIf_yes, List.length_append]; rfl
     refine ⟨i + 1, a6, c6, by omega, by go_num, ?_, ?_, hb6⟩
     ·rw [← hl1]
     ·rw [← hl1, unhide HLS, askIf_yes]
      exact ho6
    case measure => simp [intOf]; omega
  ·have e : i = 6 := by omega
   subst e
   have d1 : ¬ (((6 : Nat) : Int) < 6) := by omega
   have hB2 := unhide HB2
   have ho6 := own_lower ho hB2.size
   have hb6 := hB2.trans (hb.mono hB2.size)
   clear HR2 HM2 HB2
   go_wp2
   go_ret
   exact ⟨ad, cp, rfl, ho6, hb6⟩
def mx (l : List (Int × Op.Opt)) : Int := l.foldl (fun m v => max m v.1) 2
def fl (x : Int) (l : List (Int × Op.Opt)) : List Op.Opt := (l.filter fun v => v.1 == x).map fun v => v.2
theorem mx_snoc (l : List (Int × Op.Opt)) (v : Int × Op.Opt) : mx (l ++ [v]) = max (mx l) v.1 := by unfold mx; rw [List.foldl_append]; rfl
theorem fl_snoc (x : Int) (l : List (Int × Op.Opt)) (v : Int × Op.Opt) : fl x (l ++ [v]) = fl x l ++ if v.1 == x then [v.2] else [] := by
  unfold fl
  rw [List.filter_append, List.map_append]
  congr 1
  cases h : (v.1 == x) <;> simp [h]
theorem fl_len (x : Int) (l : List (Int × Op.Opt)) : (fl x l).length ≤ l.length := by
  unfold fl
  rw [List.length_map]
  exact List.length_filter_le _ _
theorem infoAn : (Tryz.prog.info? 81).map (·.size) = some 2 := by kernel_rfl
theorem loadAn {W : World} {E : Nat} {x0 x1 : Value} (h : W.heap[E]? = some (.cells #[x0, x1] 81)) : (loadVar 81 ⟨E, 0, none⟩).run Tryz.prog W = .ok (.agg #[x0, x1]) W :=
  run_loadVar_row (P := Tryz.prog) _ _ 81 81 #[x0, x1] (0, 0) _ h Tryz.underlying81 rfl infoAn
structure AnS (w : World) (x : Int) (v : Value) (q : World) : Prop where
  r : q.heap[w.heap.size]? = some (.cells #[.int .i64 0, .slice none 0 0] 81)
  a : q.heap[w.heap.size + 1]? = some (.cells #[.int .i64 x, v] 81)
  b : Below w.heap.size w q
theorem AnS.lt {w : World} {x : Int} {v : Value} {q : World} (h : AnS w x v q) : w.heap.size + 1 < q.heap.size := (Array.getElem?_eq_some_iff.1 h.a).1
theorem AnS.step {w : World} {x : Int} {v : Value} {q q' : World} {N : Nat} (h : AnS w x v q) (hb : Below N q q') (hN : w.heap.size + 1 < N) : AnS w x v q' :=
  ⟨(hb.block _ (by omega)).trans h.r, (hb.block _ (by omega)).trans h.a, h.b.trans (hb.mono (by omega))⟩
theorem AnS.put0 {w : World} {x : Int} {v : Value} {q : World} (h : AnS w x v q) (y : Int) : AnS w y v (q.setCell ⟨w.heap.size + 1, 0, none⟩ (.int .i64 y)) :=
  ⟨by rw [Below.heap_setCell _ _ _ _ (by simp)]; exact h.r, heap_setCell_same _ _ 0 _ _ _ h.a, h.b.setCell (p := ⟨w.heap.size + 1, 0, none⟩) (Nat.le_succ _) _⟩
theorem AnS.put1 {w : World} {x : Int} {v : Value} {q : World} (h : AnS w x v q) (y : Value) : AnS w x y (q.setCell ⟨w.heap.size + 1, 1, none⟩ y) :=
  ⟨by rw [Below.heap_setCell _ _ _ _ (by simp)]; exact h.r, heap_setCell_same _ _ 1 _ _ _ h.a, h.b.setCell (p := ⟨w.heap.size + 1, 1, none⟩) (Nat.le_succ _) _⟩
set_option maxHeartbeats 8000000 in
theorem ansOf_any (V : List (Int × Op.Opt)) (v : Value) (w : World) (hN : V.length ≤ 20) (hv : VRow 0 V v w) :
    Calls Tryz.prog 157 #[v] w fun e w' => ∃ ad cp, e = .returned (.agg #[.int .i64 (mx V), .slice ad (fl (mx V) V).length cp]) ∧ w'.ownsRow w.heap.size 116 2 (.slice ad (fl (mx V) V).length cp) (fl (mx V) V).length (ocells (fl (mx V) V)) ∧ Below w.heap.size w w' := by
  obtain ⟨G, cur, rfl, _, hg, hcs, hcu⟩ := hv
  have hgl : G < w.heap.size := (Array.getElem?_eq_some_iff.1 hg).1
  obtain ⟨n, hn⟩ : ∃ n, V.length = n := ⟨_, rfl⟩
  have HL : Hid (∀ i (hi : i < n) (q : World), Below w.heap.size w q → q.cell? ⟨G, i * 3, none⟩ = some (.int .i64 (V[i]'(by omega)).1) ∧ q.cell? ⟨G, i * 3 + 1, none⟩ = some (.int .i64 (V[i]'(by omega)).2.kind) ∧ q.cell? ⟨G, i * 3 + 2, none⟩ = some (.string (V[i]'(by omega)).2.data)) := by
    refine hide fun i hi q hb => ?_
    have e := (hb.block G hgl).trans hg
    have h3 := vcells_get V i (V[i]'(by omega)) (List.getElem?_eq_getElem (by omega))
    exact ⟨by rw [cell_of_row _ _ _ _ _ _ e]; exact (hcu _ (by omega)).trans h3.1, by rw [cell_of_row _ _ _ _ _ _ e]; exact (hcu _ (by omega)).trans h3.2.1, by rw [cell_of_row _ _ _ _ _ _ e]; exact (hcu _ (by omega)).trans h3.2.2⟩
  have HT : Hid (∀ i (hi : i < n), V.take (i + 1) = V.take i ++ [V[i]'(by omega)]) := hide fun i hi => List.take_succ_eq_append_getElem (by omega)
  have HA : Hid (V.take n = V) := hide (by rw [← hn]; exact List.take_length)
  obtain ⟨X, hX⟩ : ∃ X, mx V = X := ⟨_, rfl⟩
  have HX := hide hX
  rw [hn] at hN
  rw [hn, hX]
  clear hX
  obtain ⟨hs, q0, q1, hb0⟩ := start2r w (.cells #[.int .i64 0, .slice none 0 0] 81) (.cells #[.int .i64 2, .slice none 0 0] 81)
  have HQ : Hid (AnS w 2 (.slice none 0 0) ((w.alloc (.cells #[.int .i64 0, .slice none 0 0] 81)).alloc (.cells #[.int .i64 2, .slice none 0 0] 81))) := hide ⟨q0, q1, hb0⟩
  clear hs q0 q1 hb0 hg hcs hcu hgl
  go_enter Tryz.func157, Tryz.ntmps157
  go_upto_region 2 with fail
  refine gen_world _ (unhide HQ) ?_
  clear HQ
  rintro q0 hq0
  go_wp2_with fail
  go_loopw [11] (fun y wr => ∃ (i : Nat), i ≤ n ∧ y = .int .i64 i ∧ AnS w (mx (V.take i)) (.slice none 0 0) wr) (fun y _ => n - (intOf y).toNat)
  case atStart => exact ⟨0, Nat.zero_le _, rfl, hq0⟩
  case round =>
    obtain ⟨i, hi, rfl, hS⟩ := hrel
    clear hq0
    by_cases hlt : i < n
    · have d1 : (i : Int) < (n : Int) := by omega
      obtain ⟨k0, k1, k2⟩ := unhide HL i hlt wr hS.b
      have HM := hide ((congrArg mx (unhide HT i hlt)).trans (mx_snoc _ _))
      generalize V[i]'(by omega) = o at *
      obtain ⟨x, kd, dt⟩ := o
      dsimp only at k0 k1 k2
      go_upto_region 5 with fail
      refine gen_world (fun q => AnS w (mx (V.take i)) (.slice none 0 0) q ∧ q.heap[wr.heap.size]? = some (.cells #[.int .i64 x, .int .i64 kd, .string dt] 258))
        ⟨hS.step ((Below.refl _ _).alloc (Nat.le_refl _) _) hS.lt, heap_alloc_new wr _⟩ ?_
      rintro q1 ⟨hS1, hv1⟩
      generalize wr.heap.size = N1 at *
      obtain ⟨a0, a1, f0, f1⟩ := row2x hS1.a
      obtain ⟨v0, v1, v2, _, _, _⟩ := row3vd hv1
      have HS1 := hide hS1
      clear hS hS1 hv1 k0 k1 k2
      generalize hm : mx (V.take i) = y at *
      go_wp2_with fail
      all_goals
        go_roundw
        case rel =>
          refine ⟨i + 1, by omega, by go_num, ?_⟩
          rw [unhide HM]
          dsimp only
          exact (unhide HS1).put0 _
        case measure => simp [intOf]; omega
    · have e : i = n := by omega
      subst e
      have d1 : ¬ ((i : Int) < (i : Int)) := by omega
      rw [unhide HA, unhide HX] at hS
      go_wp2_with fail
      go_loopw [24] (fun y wq => ∃ (j : Nat) (ad : Option Addr) (cp : Nat), j ≤ i ∧ y = .int .i64 j ∧ AnS w X (.slice ad (fl X (V.take j)).length cp) wq ∧ wq.ownsRow (w.heap.size + 1 + 1) 116 2 (.slice ad (fl X (V.take j)).length cp) (fl X (V.take j)).length (ocells (fl X (V.take j)))) (fun y _ => i - (intOf y).toNat)
      case atStart => exact ⟨0, none, 0, Nat.zero_le _, rfl, hS, ⟨rfl, Or.inl ⟨rfl, rfl⟩⟩⟩
      case round =>
        obtain ⟨j, ad, cp, hj, rfl, hQ, ho⟩ := hrel
        clear hS
        by_cases hlj : j < i
        · have d2 : (j : Int) < (i : Int) := by omega
          obtain ⟨k0, k1, k2⟩ := unhide HL j hlj wr hQ.b
          have HM := hide ((congrArg (fl X) (unhide HT j hlj)).trans (fl_snoc X _ _))
          have hln : (fl X (V.take j)).length ≤ 20 := Nat.le_trans (fl_len _ _) (by rw [List.length_take]; omega)
          generalize V[j]'(by omega) = o at *
          obtain ⟨x, kd, dt⟩ := o
          dsimp only at k0 k1 k2
          generalize fl X (V.take j) = F at *
          have hwl := hQ.lt
          go_upto_region 10 with fail
          refine gen_world (fun q => AnS w X (.slice ad F.length cp) q ∧ q.heap[wr.heap.size]? = some (.cells #[.int .i64 x, .int .i64 kd, .string dt] 258) ∧ q.ownsRow (w.heap.size + 1 + 1) 116 2 (.slice ad F.length cp) F.length (ocells F))
            ⟨hQ.step ((Below.refl _ _).alloc (Nat.le_refl _) _) hQ.lt, heap_alloc_new wr _, ho.alloc _⟩ ?_
          rintro q1 ⟨hS1, hv1, ho1⟩
          generalize wr.heap.size = N1 at *
          obtain ⟨a0, a1, f0, f1⟩ := row2x hS1.a
          obtain ⟨v0, v1, v2, _, _, _⟩ := row3vd hv1
          have hs1 := hS1.lt
          have HS1 := hide (And.intro hS1 ho1)
          clear hQ hS1 hv1 k0 k1 k2 ho ho1
          cases hx : (x == X)
          · rw [hx] at HM
            go_wp2_with fail
            go_roundw
            case rel =>
              refine ⟨j + 1, ad, cp, by omega, by go_num, ?_, ?_⟩
              · rw [unhide HM, if_neg (by decide), List.append_nil]
                exact (unhide HS1).1
              · rw [unhide HM, if_neg (by decide), List.append_nil]
                exact (unhide HS1).2
            case measure => simp [intOf]; omega
          · rw [hx] at HM
            go_wp2_with (first
              | (at_builtin; refine append_opt rfl _ _ rfl (w.heap.size + 1 + 1) (.slice ad F.length cp) F F.length rfl rfl (unhide HS1).2 kd dt rfl (by omega) hs1 ?_; rintro v6 w6 ho6 hg6; obtain ⟨a6, c6, rfl⟩ := own_form ho6
                 have hb6 : Below (w.heap.size + 1 + 1) q1 w6 := ((Below.refl _ _).alloc (by omega) _).grown hg6 (by simp; omega) (fun q hq => (World.ownsRow.lt (unhide HS1).2 q hq).1)
                 have hS6 := (unhide HS1).1.step hb6 (Nat.lt_succ_self _)
                 obtain ⟨a0, a1, f0, f1⟩ := row2x hS6.a
                 have HS6 := hide (And.intro hS6 ho6)
                 clear hS6 ho6 hg6 hb6))
            go_roundw
            case rel =>
              have hl1 : F.length + 1 = (F ++ [Op.Opt.mk kd dt]).length := by rw [List.length_append]; rfl
              refine ⟨j + 1, a6, c6, by omega, by go_num, ?_, ?_⟩
              · rw [unhide HM, if_pos rfl, ← hl1]
                exact (unhide HS6).1.put1 _
              · rw [unhide HM, if_pos rfl, ← hl1]
                exact own_same (unhide HS6).2 fun q hq _ => Below.heap_setCell _ _ _ _ (by simp; omega)
            case measure => simp [intOf]; omega
        · have e : j = i := by omega
          subst e
          have d2 : ¬ ((j : Int) < (j : Int)) := by omega
          rw [unhide HA] at hQ ho
          obtain ⟨a0, a1, _, _⟩ := row2x hQ.a
          obtain ⟨r0, r1, f0, f1⟩ := row2x hQ.r
          have HQ := hide hQ
          have HO := hide ho
          clear hQ ho
          go_wp2
          refine bodyPost_ret (v := .agg #[.int .i64 X, .slice ad (fl X V).length cp]) (by simp [results, Tryz.results157, asAddr, loadAn (set2_at (unhide HQ).r (.int .i64 X) (.slice ad (fl X V).length cp))]) rfl ⟨ad, cp, rfl, ?_, ?_⟩
          · refine own_lower (own_same (unhide HO) fun q hq _ => ?_) (by omega)
            rw [Below.heap_setCell _ _ _ _ (by simp; omega), Below.heap_setCell _ _ _ _ (by simp; omega)]
          · exact ((unhide HQ).b.setCell (p := ⟨w.heap.size, 0, none⟩) (Nat.le_refl _) _).setCell (p := ⟨w.heap.size, 1, none⟩) (Nat.le_refl _) _
def repV (m a g : Nat) (p c d : Bool) (L : List Op.Opt) : List (Int × Op.Opt) := vdl m a g p c d L L.length
theorem cfg_bd {m a g : Nat} (h : cfgOk m a g = true) : a < 4294967296 ∧ g < 4294967296 := by
 simp only [cfgOk, within, Bool.and_eq_true, decide_eq_true_eq] at h
 omega
set_option maxHeartbeats 2000000 in
theorem implRepNo (m a g : Int) (p c d : Bool) (L : List Op.Opt) (v : Value) (w : World) (hm : L.length ≤ maxLen) (hL : HoldsO w v L) (h : cfgOk m a g = false ∨ Op.right L = false) :
  Calls Tryz.prog 142 #[cfgV m a g p c d, v] w fun e w' => e = .returned (.agg #[.int .i64 0, .slice none 0 0]) ∧ Below w.heap.size w w' := by
 have C1 := hide fun q => implCfg m a g p c d q
 obtain ⟨hs, q0, q1, hb0⟩ := start2r w (.cells #[.int .i64 m, .int .i64 a, .int .i64 g, .bool p, .bool c, .bool d] 24) (.cells #[.int .i64 0, .slice none 0 0] 81)
 have HQ := hide (And.intro hs (And.intro q0 (And.intro q1 hb0)))
 have C2 := hide fun q (hq : Below w.heap.size w q) => implRightAll v L q hm (hL.below hq rfl)
 obtain ⟨ad, cp, rfl⟩ := hL.form
 generalize L.length = n at *
 clear hs q0 q1 hb0 hL
 by_cases hc : cfgOk m a g = true
 ·have hr : Op.right L = false := by
   rcases h with h | h
   ·rw [hc] at h; cases h
   ·exact h
  rw [hc] at C1
  rw [hr] at C2
  go_enter Tryz.func142, Tryz.ntmps142
  go_wp2_with fail
  refine (unhide C1 _).mono ?_
  rintro e w1 ⟨rfl, hb1⟩
  have hB1 := (unhide HQ).2.2.2.trans (hb1.mono (by rw [(unhide HQ).1]; omega))
  have hr1 := (hb1.block (w.heap.size + 1) (by rw [(unhide HQ).1]; omega)).trans (unhide HQ).2.2.1
  have H1 := hide (And.intro hB1 hr1)
  clear hB1 hr1 hb1 HQ
  go_wp2_with fail
  refine (unhide C2 _ (unhide H1).1).mono ?_
  rintro e w2 ⟨rfl, hb2⟩
  have hB2 := (unhide H1).1.trans (hb2.mono (unhide H1).1.size)
  have hr2 := (hb2.block (w.heap.size + 1) (Array.getElem?_eq_some_iff.1 (unhide H1).2).1).trans (unhide H1).2
  obtain ⟨c0, c1, f0, f1⟩ := row2x hr2
  have H2 := hide (And.intro hB2 hr2)
  clear hB2 hr2 hb2 H1
  go_wp2
  refine bodyPost_ret (v := .agg #[.int .i64 0, .slice none 0 0]) (by simp [results, Tryz.results142, asAddr, loadAn (set2_at (unhide H2).2 (.int .i64 0) (.slice none 0 0))]) rfl ⟨rfl, ?_⟩
  exact ((unhide H2).1.setCell (p := ⟨w.heap.size + 1, 0, none⟩) (Nat.le_succ _) _).setCell (p := ⟨w.heap.size + 1, 1, none⟩) (Nat.le_succ _) _
 ·rw [Bool.not_eq_true] at hc
  rw [hc] at C1
  clear C2
  go_enter Tryz.func142, Tryz.ntmps142
  go_wp2_with fail
  refine (unhide C1 _).mono ?_
  rintro e w1 ⟨rfl, hb1⟩
  have hB2 := (unhide HQ).2.2.2.trans (hb1.mono (by rw [(unhide HQ).1]; omega))
  have hr2 := (hb1.block (w.heap.size + 1) (by rw [(unhide HQ).1]; omega)).trans (unhide HQ).2.2.1
  obtain ⟨c0, c1, f0, f1⟩ := row2x hr2
  have H2 := hide (And.intro hB2 hr2)
  clear hB2 hr2 hb1 HQ
  go_wp2
  refine bodyPost_ret (v := .agg #[.int .i64 0, .slice none 0 0]) (by simp [results, Tryz.results142, asAddr, loadAn (set2_at (unhide H2).2 (.int .i64 0) (.slice none 0 0))]) rfl ⟨rfl, ?_⟩
  exact ((unhide H2).1.setCell (p := ⟨w.heap.size + 1, 0, none⟩) (Nat.le_succ _) _).setCell (p := ⟨w.heap.size + 1, 1, none⟩) (Nat.le_succ _) _
set_option maxHeartbeats 4000000 in
theorem implRepYes (m a g : Nat) (p c d : Bool) (L : List Op.Opt) (v : Value) (w : World) (hL : HoldsO w v L) (hc : cfgOk m a g = true) (hr : Op.right L = true) :
  Calls Tryz.prog 142 #[cfgV m a g p c d, v] w fun e w' => ∃ ad cp, e = .returned (.agg #[.int .i64 (mx (repV m a g p c d L)), .slice ad (fl (mx (repV m a g p c d L)) (repV m a g p c d L)).length cp]) ∧ w'.ownsRow w.heap.size 116 2 (.slice ad (fl (mx (repV m a g p c d L)) (repV m a g p c d L)).length cp) (fl (mx (repV m a g p c d L)) (repV m a g p c d L)).length (ocells (fl (mx (repV m a g p c d L)) (repV m a g p c d L))) ∧ Below w.heap.size w w' := by
 have hl20 := Op.right_len hr
 have hm : L.length ≤ maxLen := by unfold maxLen; omega
 obtain ⟨ha, hg⟩ := cfg_bd hc
 have C1 := hide fun q => implCfg m a g p c d q
 obtain ⟨hs, q0, q1, hb0⟩ := start2r w (.cells #[.int .i64 m, .int .i64 a, .int .i64 g, .bool p, .bool c, .bool d] 24) (.cells #[.int .i64 0, .slice none 0 0] 81)
 have HQ := hide (And.intro hs (And.intro q0 (And.intro q1 hb0)))
 have C2 := hide fun q (hq : Below w.heap.size w q) => implRightAll v L q hm (hL.below hq rfl)
 obtain ⟨ad, cp, rfl⟩ := hL.form
 have C3 := hide fun q (hq : Below w.heap.size w q) => verdOn m a g p c d L ad cp q ha hg hr (hL.below hq rfl)
 have hVl : (repV m a g p c d L).length = L.length := vdl_len _ _ _ _ _ _ _ _
 change Hid (∀ q, Below w.heap.size w q → Calls _ _ _ q fun e w' => ∃ v, e = .returned v ∧ VRow q.heap.size (repV m a g p c d L) v w' ∧ Below q.heap.size q w') at C3
 generalize repV m a g p c d L = V at *
 have C4 := hide fun v q hv => ansOf_any V v q (by omega) hv
 clear hVl
 rw [hc] at C1
 rw [hr] at C2
 generalize L.length = n at *
 generalize mx V = X at *
 generalize fl X V = F at *
 clear hs q0 q1 hb0 hL
 go_enter Tryz.func142, Tryz.ntmps142
 go_wp2_with fail
 refine (unhide C1 _).mono ?_
 rintro e w1 ⟨rfl, hb1⟩
 have hB1 := (unhide HQ).2.2.2.trans (hb1.mono (by rw [(unhide HQ).1]; omega))
 have hr1 := (hb1.block (w.heap.size + 1) (by rw [(unhide HQ).1]; omega)).trans (unhide HQ).2.2.1
 have hc1 := (hb1.block w.heap.size (by rw [(unhide HQ).1]; omega)).trans (unhide HQ).2.1
 have H1 := hide (And.intro hB1 (And.intro hr1 hc1))
 clear hB1 hr1 hb1 HQ hc1 C1
 go_wp2_with fail
 refine (unhide C2 _ (unhide H1).1).mono ?_
 rintro e w2 ⟨rfl, hb2⟩
 have hB2 := (unhide H1).1.trans (hb2.mono (unhide H1).1.size)
 have hr2 := (hb2.block (w.heap.size + 1) (Array.getElem?_eq_some_iff.1 (unhide H1).2.1).1).trans (unhide H1).2.1
 have hc2 := (hb2.block w.heap.size (Array.getElem?_eq_some_iff.1 (unhide H1).2.2).1).trans (unhide H1).2.2
 obtain ⟨b0, b1, b2, b3, b4, b5⟩ := row6 hc2
 have H2 := hide (And.intro hB2 hr2)
 clear hB2 hr2 hb2 H1 hc2 C2
 go_wp2_with fail
 refine (unhide C3 _ (unhide H2).1).mono ?_
 rintro e w3 ⟨v3, rfl, hv3, hb3⟩
 have hB3 := (unhide H2).1.trans (hb3.mono (unhide H2).1.size)
 have hr3 := (hb3.block (w.heap.size + 1) (Array.getElem?_eq_some_iff.1 (unhide H2).2).1).trans (unhide H2).2
 have H3 := hide (And.intro hB3 hr3)
 have HV3 : Hid (VRow 0 V v3 w3) := hide (by obtain ⟨G, cur, e1, e2, e3⟩ := hv3; exact ⟨G, cur, e1, Nat.zero_le _, e3⟩)
 obtain ⟨G, cur, rfl, _, _⟩ := hv3
 clear hB3 hr3 hb3 H2 C3 b0 b1 b2 b3 b4 b5
 go_wp2_with fail
 refine (unhide C4 _ _ (unhide HV3)).mono ?_
 rintro e w4 ⟨ad4, cp4, rfl, ho4, hb4⟩
 have hB4 := (unhide H3).1.trans (hb4.mono (unhide H3).1.size)
 have hl3 : w.heap.size + 1 < w3.heap.size := (Array.getElem?_eq_some_iff.1 (unhide H3).2).1
 have hr4 := (hb4.block (w.heap.size + 1) hl3).trans (unhide H3).2
 obtain ⟨c0, c1, f0, f1⟩ := row2x hr4
 have H4 := hide (And.intro hB4 (And.intro hr4 ho4))
 clear hB4 hr4 hb4 H3 ho4 C4 HV3
 go_wp2
 refine bodyPost_ret (v := .agg #[.int .i64 X, .slice ad4 F.length cp4]) (by simp [results, Tryz.results142, asAddr, loadAn (set2_at (unhide H4).2.1 (.int .i64 X) (.slice ad4 F.length cp4))]) rfl ⟨ad4, cp4, rfl, ?_, ?_⟩
 ·refine own_lower (own_same (unhide H4).2.2 fun q hq _ => ?_) (by omega)
  rw [Below.heap_setCell _ _ _ _ (by simp; omega), Below.heap_setCell _ _ _ _ (by simp; omega)]
 ·exact ((unhide H4).1.setCell (p := ⟨w.heap.size + 1, 0, none⟩) (Nat.le_succ _) _).setCell (p := ⟨w.heap.size + 1, 1, none⟩) (Nat.le_succ _) _
abbrev kd (o : Op.Opt) : Int × Nat := (o.kind, o.data.size)
theorem text_size {m a g : Nat} {o : Op.Opt} (n : Nat) (h : sizeK o.kind = some o.data.size) : (textK m a g o.kind n).size = o.data.size := by
 unfold sizeK at h
 unfold textK
 by_cases h1 : o.kind = 1
 ·rw [if_pos h1] at h ⊢; injection h
 rw [if_neg h1] at h ⊢
 by_cases h2 : o.kind = 2
 ·rw [if_pos h2] at h ⊢; injection h
 rw [if_neg h2] at h ⊢
 by_cases h5 : o.kind = 5
 ·rw [if_pos h5] at h ⊢; injection h
 rw [if_neg h5] at h ⊢
 by_cases h7 : o.kind = 7
 ·rw [if_pos h7] at h ⊢; injection h
 rw [if_neg h7] at h ⊢
 by_cases h8 : o.kind = 8
 ·rw [if_pos h8] at h ⊢; injection h
 rw [if_neg h8] at h ⊢
 by_cases h9 : o.kind = 9
 ·rw [if_pos h9] at h; injection h
 rw [if_neg h9] at h
 cases h
theorem one_kd (m a g : Nat) (p c d : Bool) (o : Op.Opt) : kd (one m a g p c d o).2 = kd o := by
 unfold one
 split
 ·next h =>
  show (o.kind, ByteArray.size (if _ then _ else _)) = _
  split
  ·rw [text_size _ h]
  ·rfl
 ·rfl
theorem verd_kd (m a g : Nat) (p c d : Bool) (l : List Op.Opt) (o : Op.Opt) : kd (verd m a g p c d l o).2 = kd o := by
 unfold verd
 split
 ·rfl
 ·exact one_kd _ _ _ _ _ _ _
theorem vdl_kd (m a g : Nat) (p c d : Bool) (L : List Op.Opt) (n : Nat) (hn : n ≤ L.length) : (vdl m a g p c d L n).map (fun v => kd v.2) = (L.take n).map kd := by
 induction n with
 | zero => rfl
 | succ n ih =>
  rw [vdl_succ, List.map_append, ih (by omega), List.take_succ_eq_append_getElem (by omega), List.map_append, vdAt_lt _ _ _ _ _ _ _ _ (by omega)]
  show _ ++ [kd _] = _ ++ [kd _]
  rw [verd_kd]
theorem repV_kd (m a g : Nat) (p c d : Bool) (L : List Op.Opt) : (repV m a g p c d L).map (fun v => kd v.2) = L.map kd := by
 have h := vdl_kd m a g p c d L L.length (Nat.le_refl _)
 rw [List.take_length] at h
 exact h
theorem len_kd (F : List Op.Opt) : (Op.bytes F).length = ((F.map kd).map fun x => x.2 + 2).sum := by
 induction F with
 | nil => rfl
 | cons o F ih =>
  have e1 : (Op.one o).length = 2 + o.data.size := by unfold Op.one; rw [List.length_append]; show 2 + o.data.data.toList.length = _; rfl
  rw [Op.bytes_cons, List.length_append, ih, e1]
  simp
  omega
theorem ok_kd (F : List Op.Opt) : F.all Op.ok = (F.map kd).all fun x => decide (1 ≤ x.1 ∧ x.1 ≤ 255 ∧ x.2 ≤ 20) := by
 rw [List.all_map]
 rfl
theorem sum_sub {l m : List (Int × Nat)} (h : l.Sublist m) : (l.map fun x => x.2 + 2).sum ≤ (m.map fun x => x.2 + 2).sum := by
 induction h with
 | slnil => exact Nat.le_refl _
 | cons a _ ih => simp only [List.map_cons, List.sum_cons]; omega
 | cons_cons a _ ih => simp only [List.map_cons, List.sum_cons]; omega
theorem opOk_sub {F G : List Op.Opt} (h : (F.map kd).Sublist (G.map kd)) (hG : opOk G = true) : opOk F = true := by
 unfold opOk Op.right at hG ⊢
 simp only [Bool.and_eq_true, decide_eq_true_eq] at hG ⊢
 obtain ⟨⟨h1, h2⟩, h3⟩ := hG
 rw [len_kd] at h3
 rw [ok_kd] at h2
 have hl := h.length_le
 rw [List.length_map, List.length_map] at hl
 refine ⟨⟨by omega, ?_⟩, ?_⟩
 ·rw [ok_kd]
  exact List.all_eq_true.2 fun x hx => List.all_eq_true.1 h2 x (h.subset hx)
 ·rw [len_kd]
  exact Nat.le_trans (sum_sub h) h3
theorem fl_sub (x : Int) (V : List (Int × Op.Opt)) : ((fl x V).map kd).Sublist (V.map fun v => kd v.2) := by
 unfold fl
 rw [List.map_map]
 exact List.filter_sublist.map _
theorem repV_ok (m a g : Nat) (p c d : Bool) {L : List Op.Opt} (h : opOk L = true) (x : Int) : opOk (fl x (repV m a g p c d L)) = true := by
 refine opOk_sub ?_ h
 have := fl_sub x (repV m a g p c d L)
 rw [repV_kd] at this
 exact this
def ofKs (F A : List Op.Opt) : List Op.Opt := F.filter fun o => A.any fun x => x.kind == o.kind
theorem ofKs_ok {F : List Op.Opt} (h : opOk F = true) (A : List Op.Opt) : opOk (ofKs F A) = true := opOk_sub (List.filter_sublist.map _) h
theorem foldl_max (l : List (Int × Op.Opt)) (m : Int) : m ≤ l.foldl (fun m v => max m v.1) m ∧ ∀ v ∈ l, v.1 ≤ l.foldl (fun m v => max m v.1) m := by
 induction l generalizing m with
 | nil => exact ⟨Int.le_refl _, fun v hv => by simp at hv⟩
 | cons a l ih =>
  obtain ⟨h1, h2⟩ := ih (max m a.1)
  refine ⟨by simp only [List.foldl_cons]; omega, fun v hv => ?_⟩
  rcases List.mem_cons.1 hv with rfl | hv
  ·simp only [List.foldl_cons]; omega
  ·exact h2 v hv
theorem mx_le {l : List (Int × Op.Opt)} {v : Int × Op.Opt} (h : v ∈ l) : v.1 ≤ mx l := (foldl_max l 2).2 v h
theorem nak_one (m a g : Nat) (p c d : Bool) (L : List Op.Opt) (h : mx (repV m a g p c d L) = 3) : L.Pairwise fun x y => x.kind ≠ y.kind := by
 refine List.pairwise_iff_getElem.2 fun i j hi hj hij e => ?_
 have hm : vdAt m a g p c d L j ∈ repV m a g p c d L := List.mem_map.2 ⟨j, List.mem_range.2 hj, rfl⟩
 have h4 := mx_le hm
 rw [h, vdAt_lt _ _ _ _ _ _ _ _ hj] at h4
 have hw : wasIn L[j].kind (L.take j) = true := by
  refine List.any_eq_true.2 ⟨L[i], ?_, by simpa using e⟩
  exact List.mem_take_iff_getElem.2 ⟨i, by omega, rfl⟩
 unfold verd at h4
 rw [if_pos hw] at h4
 exact absurd (show (4 : Int) ≤ 3 from h4) (by decide)
def nakL (F A : List Op.Opt) : List Op.Opt := F.flatMap fun o => (A.filter fun x => x.kind == o.kind).map fun _ => o
theorem one_of {A : List Op.Opt} (h : A.Pairwise fun x y => x.kind ≠ y.kind) (o : Op.Opt) : ((A.filter fun x => x.kind == o.kind).map fun _ => o) = if (A.any fun x => x.kind == o.kind) = true then [o] else [] := by
 induction A with
 | nil => rfl
 | cons x A ih =>
  have h2 := List.pairwise_cons.1 h
  by_cases e : x.kind = o.kind
  ·have hn : (A.filter fun x => x.kind == o.kind) = [] := List.filter_eq_nil_iff.2 fun y hy hk => h2.1 y hy (e.trans (by simpa using hk : y.kind = o.kind).symm)
   have he : (x.kind == o.kind) = true := by simpa using e
   rw [List.filter_cons, hn, List.any_cons]
   rw [he]
   rfl
  ·have he : (x.kind == o.kind) = false := by simpa using e
   rw [List.filter_cons, List.any_cons]
   rw [he, Bool.false_or]
   exact ih h2.2
theorem nakL_of {F A : List Op.Opt} (h : A.Pairwise fun x y => x.kind ≠ y.kind) : nakL F A = ofKs F A := by
 unfold nakL ofKs
 induction F with
 | nil => rfl
 | cons o F ih =>
  rw [List.flatMap_cons, ih, one_of h, List.filter_cons]
  split
  ·rfl
  ·rfl
theorem fl_one (m a g : Nat) (p c d : Bool) (L : List Op.Opt) (h : mx (repV m a g p c d L) = 3) (x : Int) : (fl x (repV m a g p c d L)).Pairwise fun x y => x.kind ≠ y.kind := by
 have h1 := fl_sub x (repV m a g p c d L)
 rw [repV_kd] at h1
 have h2 : (L.map kd).Pairwise fun x y => x.1 ≠ y.1 := List.pairwise_map.2 (nak_one m a g p c d L h)
 have h3 : ((fl x (repV m a g p c d L)).map kd).Pairwise fun x y => x.1 ≠ y.1 := List.Pairwise.sublist h1 h2
 rw [List.pairwise_map] at h3
 exact h3
end Go.Proofs.YtahpjlbaagkdoaaGreatDoor
