/- The model's end at work: an event happens; what lay in memory stands. -/
import Derived.Test.YtahpjlbaagkdoaaGreatDoorS24
import Derived.Test.YtahpjlbaagkdoaaGreatDoorS19
import Derived.Test.YtahpjlbaagkdoaaGreatDoorShW
namespace Go.Proofs.YtahpjlbaagkdoaaGreatDoor
open Go.RowKit
theorem nr_setRow {B X : Nat} {a w : World} (h : Nr B a w) (hX : a.heap.size ≤ X) (cs : Array Value) : Nr B a (w.setRow X cs) := by
 refine ⟨h.os, h.tape, h.output, ?_, fun k hk hn => ?_⟩
 ·unfold World.setRow
  simpa using h.size
 ·refine Eq.trans ?_ (h.block k hk hn)
  unfold World.setRow
  rw [Array.getElem?_modify, if_neg (by omega)]
set_option maxHeartbeats 8000000 in
set_option maxRecDepth 100000 in
theorem sEventN (w0 w1 : World) (B : Nat) (c : Cx) (s : St) (v1 v2 : Value) (q : World) (h : Lay 89 w0 w1 B c s v1 v2 (.slice none 0 0) (.slice none 0 0) q) (hs : s.sn = []) (ht : s.tl = []) (hf : Fit 0 c s) (t : ByteArray) (hts : t.size ≤ maxLen)
  (hA : ∀ a ∈ (fsmF s.e.st t).2.1, ActOk 89 90 c a) (hl : (fsmF s.e.st t).2.1.length ≤ 30) :
  Calls Tryz.prog 43 #[.pointer (some ⟨B, 0, none⟩), .string t] q fun r q' => EvA w0 (evF c s t) r q' ∧ Nr B q q' := by
 have CF := hide fun W => specFsm s.e.st t W hts
 unfold evF
 generalize fsmF s.e.st t = R at *
 obtain ⟨st', A, cd⟩ := R
 dsimp only at hA hl ⊢
 obtain ⟨X, hXq⟩ : ∃ X, q.heap.size = X := ⟨_, rfl⟩
 have hX := heap_alloc_new q (.cells eoZ 42)
 have hbX : Below q.heap.size q (q.alloc (.cells eoZ 42)) := (Below.refl _ _).alloc (Nat.le_refl _) _
 have h0 := h.step hbX
 have c12 := h0.cell (i := 12) rfl
 have hBX : B < X := hXq ▸ h.lt
 rw [hXq] at hX
 have H0 := hide (And.intro h0 hX)
 have HP := hide (And.intro hf (And.intro hA (And.intro hs ht)))
 clear h h0 hX hbX hf hA hs ht
 go_enter Tryz.func43, Tryz.ntmps43
 go_wp2_with fail
 refine (unhide CF _).mono ?_
 rintro e q1 ⟨ad, cp, rfl, ho, hb1⟩
 dsimp only at ho
 have h1 := (unhide H0).1.step hb1
 have hX1 := (hb1.block X (by simp [hXq])).trans (unhide H0).2
 obtain ⟨Y, hY⟩ : ∃ Y, q1.heap.size = Y := ⟨_, rfl⟩
 have hXY : X < Y := by have := (Array.getElem?_eq_some_iff.1 hX1).1; omega
 go_upto_region 2 with fail
 refine gen_world (fun z => Lay 89 w0 z B c s v1 v2 (.slice none 0 0) (.slice none 0 0) z ∧ z.heap[X]? = some (.cells eoZ 42) ∧ z.heap[Y]? = some (.cells #[.int .i64 st', .slice ad A.length cp, .int .i64 cd] 126) ∧ z.ownsRow 0 9 1 (.slice ad A.length cp) A.length (scells A) ∧ Nr B q z) ?_ ?_
 ·have hb2 : Below q1.heap.size q1 (q1.alloc (.cells #[.int .i64 st', .slice ad A.length cp, .int .i64 cd] 126)) := (Below.refl _ _).alloc (Nat.le_refl _) _
  exact ⟨(h1.step hb2).rebase (unhide HP).2.2.1 (unhide HP).2.2.2, (hb2.block X (Array.getElem?_eq_some_iff.1 hX1).1).trans hX1, hY ▸ heap_alloc_new q1 _, own_mono (own_below ho hb2) (Nat.zero_le _), (((Nr.refl B q).of_below ((Below.refl q.heap.size q).alloc (Nat.le_refl _) _)).of_below hb1).of_below hb2⟩
 have HXq := hide hXq
 clear h1 hX1 ho hb1 H0 CF c12 hY hXq
 rintro q2 ⟨hL2, hX2, hY2, hO2, hN2⟩
 have HN2 := hide hN2
 clear hN2
 have k0 : q2.cell? ⟨Y, 0, none⟩ = some (.int .i64 st') := by rw [cell_of_row _ _ _ _ _ _ hY2]; rfl
 have k1 : q2.cell? ⟨Y, 1, none⟩ = some (.slice ad A.length cp) := by rw [cell_of_row _ _ _ _ _ _ hY2]; rfl
 have k2 : q2.cell? ⟨Y, 2, none⟩ = some (.int .i64 cd) := by rw [cell_of_row _ _ _ _ _ _ hY2]; rfl
 have hBY : B ≠ Y := by omega
 have HQ2 := hide (And.intro hL2 (And.intro hX2 (And.intro hY2 hO2)))
 clear hL2 hX2 hY2 hO2
 by_cases hcd : cd = 0
 ·subst hcd
  obtain ⟨n, hn⟩ : ∃ n, A.length = n := ⟨_, rfl⟩
  rw [hn] at k1 hl HQ2
  have hd0 : ¬ ((0 : Int) < 0) := by decide
  have KY : Hid (∀ wr, Nr B q2 wr → wr.cell? ⟨Y, 0, none⟩ = some (.int .i64 st') ∧ wr.cell? ⟨Y, 1, none⟩ = some (.slice ad n cp)) := by
   have hyl := (Array.getElem?_eq_some_iff.1 (unhide HQ2).2.2.1).1
   refine hide fun wr hw => ?_
   have e := hw.block Y hyl hBY.symm
   exact ⟨(World.cell?_of_block e).trans k0, (World.cell?_of_block e).trans k1⟩
  have KT : Hid (∀ (i : Nat) (hi : i < A.length), ∃ g, ad = some ⟨g, 0, none⟩ ∧ ∀ wr, Nr B q2 wr → wr.cell? ⟨g, i, none⟩ = some (.string A[i])) := by
   refine hide fun i hi => ?_
   have hO := (unhide HQ2).2.2.2
   rw [← hn] at hO
   obtain ⟨g, cp', e1, hgl, hc⟩ := ownT_at hO i hi
   injection e1 with e1 _ _
   refine ⟨g, e1, fun wr hw => (World.cell?_of_block (hw.block g hgl fun e => ?_)).trans hc⟩
   subst e
   exact own_ty hO (unhide HQ2).1.row (unhide HQ2).1.tt.2.2 (by rw [e1]; rfl)
  go_wp2_with fail
  go_loopw [6, 7] (fun x y wr => ∃ i : Nat, i ≤ n ∧ x = .bool ((A.take i).any setT) ∧ y = .int .i64 i ∧ ∃ u1 u2 us ut, Lay 89 w0 q2 B c ((A.take i).foldl (fun s a => actF c a s) s) u1 u2 us ut wr) (fun _ y _ => n - (intOf y).toNat)
  case atStart => exact ⟨0, Nat.zero_le _, rfl, rfl, _, _, _, _, (unhide HQ2).1⟩
  case round =>
   obtain ⟨i, hi, rfl, rfl, u1, u2, us, ut, hLi⟩ := hrel
   obtain ⟨y0, y1⟩ := unhide KY wr hLi.nr
   by_cases hlt : i < n
   ·have d1 : (i : Int) < (n : Int) := by omega
    obtain ⟨g, rfl, hg⟩ := unhide KT i (by omega)
    have t1 := hg wr hLi.nr
    have HI := hide hLi
    have HG := hide hg
    have CA := hide ((unhide HP).2.1 _ (List.getElem_mem (by omega : i < A.length)) w0 q2 B ((A.take i).foldl (fun s a => actF c a s) s) u1 u2 us ut wr i hLi ((unhide HP).1.fold A i) (by omega))
    have HS : Hid (((A.take (i + 1)).any setT = ((A.take i).any setT || setT A[i])) ∧ (A.take (i + 1)).foldl (fun s a => actF c a s) s = actF c A[i] ((A.take i).foldl (fun s a => actF c a s) s)) := by
     exact hide ⟨take_any A i _, take_fold c s A i _⟩
    clear hLi hg
    generalize A[i] = a at *
    generalize ((A.take i).foldl (fun s a => actF c a s) s) = si at *
    generalize (A.take i).any setT = b at *
    go_wp2_with fail
    refine (unhide CA).mono ?_
    rintro r wr2 ⟨rfl, x1, x2, xs, xt, hL2⟩
    obtain ⟨z0, z1⟩ := unhide KY wr2 hL2.nr
    have t2 := unhide HG wr2 hL2.nr
    have HI2 := hide hL2
    clear hL2 y0 y1 t1
    have hst : setT a = (decide (a.toList = [105, 114, 99]) || decide (a.toList = [122, 114, 99])) := rfl
    cases b <;> by_cases ha : a.toList = [105, 114, 99] <;> by_cases hz : a.toList = [122, 114, 99]
    all_goals
     go_wp2_with fail
     go_roundw
     case rel => refine ⟨i + 1, by omega, ?_, by go_num, x1, x2, xs, xt, by rw [(unhide HS).2]; exact unhide HI2⟩; rw [(unhide HS).1, hst]; simp [ha, hz]
     case measure => simp [intOf]; omega
   ·have e : i = n := by omega
    subst e
    have d1 : ¬ ((i : Int) < (i : Int)) := by omega
    have c12 := hLi.cell (i := 12) rfl
    have f12 := hLi.frz 12
    have eT : A.take i = A := by rw [← hn, List.take_length]
    rw [eT] at hLi c12
    rw [eT]
    have h3 := hLi.setRaw 12 (.int .i64 st') { (A.foldl (fun s a => actF c a s) s).e with st := st' } rfl
    obtain ⟨m0, _⟩ := unhide KY _ h3.nr
    have c14 := h3.cell (i := 14) rfl
    have f14 := h3.frz 14
    have c30 := h3.cell (i := 30) rfl
    have H3 := hide h3
    have CR := hide fun W => specRuns st' W
    have HX3 : Hid (∀ z, Nr B q2 z → z.heap[X]? = some (.cells eoZ 42)) := hide fun z hz => (hz.block X (Array.getElem?_eq_some_iff.1 (unhide HQ2).2.1).1 (by omega)).trans (unhide HQ2).2.1
    have hnow := (unhide HP).1.now
    obtain ⟨S, hS⟩ : ∃ S : St, { (A.foldl (fun s a => actF c a s) s) with e := endE c A st' (A.foldl (fun s a => actF c a s) s).e } = S := ⟨_, rfl⟩
    have HS : Hid (S = { (A.foldl (fun s a => actF c a s) s) with e := endE c A st' (A.foldl (fun s a => actF c a s) s).e } ∧ S.e = endE c A st' (A.foldl (fun s a => actF c a s) s).e) := hide ⟨hS.symm, by rw [← hS]⟩
    clear hLi h3 KT hS HP
    dsimp only at c14 c30
    cases hrr : runs st'
    ·rw [hrr] at CR
     have HE : endE c A st' (A.foldl (fun s a => actF c a s) s).e = { (A.foldl (fun s a => actF c a s) s).e with st := st', du := -1 } := by unfold endE; rw [hrr]; rfl
     go_upto_region 15 with (first | (go_at_call 75; refine (unhide CR _).mono ?_; rintro r ws ⟨rfl, hws⟩; replace hws := hws.symm; subst hws))
     refine gen_world (fun z => Lay 89 w0 q2 B c S u1 u2 us ut z ∧ z.heap[X]? = some (.cells eoZ 42)) ?_ ?_
     ·have h4 := (unhide H3).setRaw 14 (.int .i64 (-1)) { (A.foldl (fun s a => actF c a s) s).e with st := st', du := -1 } rfl
      rw [← HE, ← (unhide HS).1] at h4
      exact ⟨h4, unhide HX3 _ h4.nr⟩
     clear H3 c12 f12 c14 f14 c30 m0
     rintro z ⟨hz, hX⟩
     obtain ⟨a1, p1, e1⟩ := own_form hz.o1
     obtain ⟨a2, p2, e2⟩ := own_form hz.o2
     obtain ⟨a3, p3, e3⟩ := own_form hz.os
     obtain ⟨a4, p4, e4⟩ := own_form hz.ot
     subst e1 e2 e3 e4
     have c37 := hz.cell (i := 37) rfl
     have c38 := hz.cell (i := 38) rfl
     have hrg := range_lay hz
     have hall := eoC_all S.e a1 a2 a3 a4 S.F1.length S.F2.length S.sn.length S.tl.length p1 p2 p3 p4 0
     have HZ := hide (And.intro hz hX)
     clear hz hX
     refine wp_region_held_drew (S := fun z => z.rangeAt B 0 (enC S.e (.slice a1 S.F1.length p1) (.slice a2 S.F2.length p2)).toList ∧ z.cell? ⟨B, 37, none⟩ = some (.slice a3 S.sn.length p3) ∧ z.cell? ⟨B, 38, none⟩ = some (.slice a4 S.tl.length p4)) (by kernel_rfl) ?_ (fun hHeld => ?_)
     ·exact ⟨hrg, c37, c38⟩
     refine tk 0 (v := ?vfa0) rfl ?hyfa0 ?_
     case hyfa0 => intro w hSw; (try dsimp only at hSw); go_simp; try with_reducible rfl
     try simp only [Act.put, sA, sZ, sS, gA, gZ]
     refine tk 1 (v := ?vfa1) rfl ?hyfa1 ?_
     case hyfa1 => intro w hSw; (try dsimp only at hSw); go_simp; try with_reducible rfl
     try simp only [Act.put, sA, sZ, sS, gA, gZ, gS]
     refine tk 2 (v := ?vfa2) rfl ?hyfa2 ?_
     case hyfa2 => intro w hSw; (try dsimp only at hSw); go_simp; try with_reducible rfl
     try simp only [Act.put, sA, sZ, sS, gA, gZ, gS]
     refine wpAnyH_take (i := 3) (v := .agg (enC S.e (.slice a1 S.F1.length p1) (.slice a2 S.F2.length p2))) rfl (by kernel_rfl) (by kernel_rfl) (by kernel_rfl) (fun _ _ _ h => h) (yieldsIf_load_mid (by rfl) 29 (.tmp 88) rfl B 0 rfl (enC S.e (.slice a1 S.F1.length p1) (.slice a2 S.F2.length p2)).toList _ (fun z hz => hz.1) Tryz.underlying29 rfl infoE) (by assumption) ?_
     try simp only [Act.put, sA, sZ, sS, gA, gZ, gS]
     refine tk 4 (v := ?vfa4) rfl ?hyfa4 ?_
     case hyfa4 => intro w hSw; (try dsimp only at hSw); go_simp; try with_reducible rfl
     try simp only [Act.put, sA, sZ, sS, gA, gZ, gS]
     refine tk 5 (v := ?vfa5) rfl ?hyfa5 ?_
     case hyfa5 => intro w hSw; (try dsimp only at hSw); go_simp; try with_reducible rfl
     try simp only [Act.put, sA, sZ, sS, gA, gZ, gS]
     refine tk 6 (v := ?vfa6) rfl ?hyfa6 ?_
     case hyfa6 => intro w hSw; (try dsimp only at hSw); go_simp; try with_reducible rfl
     try simp only [Act.put, sA, sZ, sS, gA, gZ, gS]
     refine tk 7 (v := ?vfa7) rfl ?hyfa7 ?_
     case hyfa7 => intro w hSw; (try dsimp only at hSw); go_simp; try with_reducible rfl
     try simp only [Act.put, sA, sZ, sS, gA, gZ, gS]
     refine tk 8 (v := ?vfa8) rfl ?hyfa8 ?_
     case hyfa8 => intro w hSw; (try dsimp only at hSw); go_simp; try with_reducible rfl
     try simp only [Act.put, sA, sZ, sS, gA, gZ, gS]
     refine tk 9 (v := ?vfa9) rfl ?hyfa9 ?_
     case hyfa9 => intro w hSw; (try dsimp only at hSw); go_simp; try with_reducible rfl
     try simp only [Act.put, sA, sZ, sS, gA, gZ, gS]
     refine tk 10 (v := ?vfa10) rfl ?hyfa10 ?_
     case hyfa10 => intro w hSw; (try dsimp only at hSw); go_simp; try with_reducible rfl
     try simp only [Act.put, sA, sZ, sS, gA, gZ, gS]
     refine tk 11 (v := ?vfa11) rfl ?hyfa11 ?_
     case hyfa11 => intro w hSw; (try dsimp only at hSw); go_simp; try with_reducible rfl
     try simp only [Act.put, sA, sZ, sS, gA, gZ, gS]
     refine wpAnyH_take (i := 12) (v := .agg (eoC S.e (.slice a1 S.F1.length p1) (.slice a2 S.F2.length p2) (.slice a3 S.sn.length p3) (.slice a4 S.tl.length p4) 0)) rfl (by kernel_rfl) (by kernel_rfl) (by kernel_rfl) (fun _ _ _ h => h) (Or.inl ⟨by rfl, fun _ _ => by kernel_rfl⟩) (by assumption) ?_
     try simp only [Act.put, sA, sZ, sS, gA, gZ, gS]
     refine r1 13 rfl (fun K hK => ?_)
     rw [if_pos (by rfl)]
     refine wp_store_row 42 (.tmp 4) (.tmp 98) rfl X (eoC S.e (.slice a1 S.F1.length p1) (.slice a2 S.F2.length p2) (.slice a3 S.sn.length p3) (.slice a4 S.tl.length p4) 0) rfl rfl 42 eoZ (unhide HZ).2 infoEo rfl hall ?_
     have bX : Below X z (z.setRow X (eoC S.e (.slice a1 S.F1.length p1) (.slice a2 S.F2.length p2) (.slice a3 S.sn.length p3) (.slice a4 S.tl.length p4) 0)) := below_row (Below.refl _ _) (Nat.le_refl _) _
     refine hK.out _ _ ?_ (fun _ => ?_)
     ·refine ⟨fun j v hv => (bX.cell (p := ⟨B, 0 + j, none⟩) hBX).trans (hrg j v hv), (bX.cell (p := ⟨B, 37, none⟩) hBX).trans c37, (bX.cell (p := ⟨B, 38, none⟩) hBX).trans c38⟩
     clear hK K
     try simp only [Act.put]
     refine wpAnyH_done (by kernel_rfl) ?_ _
     go_wp2
     refine bodyPost_ret (v := .agg (eoC S.e (.slice a1 S.F1.length p1) (.slice a2 S.F2.length p2) (.slice a3 S.sn.length p3) (.slice a4 S.tl.length p4) 0)) (by simp [results, Tryz.results43, asAddr, loadEo (setRow_heap z.drew X _ (eoC S.e (.slice a1 S.F1.length p1) (.slice a2 S.F2.length p2) (.slice a3 S.sn.length p3) (.slice a4 S.tl.length p4) 0) _ _ (unhide HZ).2)]) rfl ?_
     obtain ⟨hz0, hX⟩ := unhide HZ
     have hz := hz0.step (Below.refl _ _).drew
     have hXd : z.drew.heap[X]? = some (.cells eoZ 42) := hX
     have hs := hz.lo.size
     have hSS := (unhide HS).1
     clear HZ HS hHeld hrg c37 c38 hall hz0 bX
     subst hSS
     refine ⟨⟨_, _, _, _, ?_, own_setRow hz.o1 hXd (by decide), own_setRow hz.o2 hXd (by decide), own_mono (own_setRow hz.os hXd (by decide)) hs, own_mono (own_setRow hz.ot hXd (by decide)) hs, hz.ap, hz.low.trans (below_row (Below.refl _ _) (Nat.le_of_lt (Nat.lt_of_le_of_lt hz.hB hBX)) _)⟩, nr_setRow ((unhide HN2).trans hz.nr) (Nat.le_of_eq (unhide HXq)) _⟩
     exact congrArg (fun e => Ending.returned (.agg (eoC e _ _ _ _ 0))) HE
    ·rw [hrr] at CR
     by_cases hdu : (A.foldl (fun s a => actF c a s) s).e.du < 0
     ·have HE : endE c A st' (A.foldl (fun s a => actF c a s) s).e = { (A.foldl (fun s a => actF c a s) s).e with st := st', du := c.now + 3 } := by unfold endE; rw [hrr, decide_eq_true hdu]; rfl
      go_upto_region 15 with (first | (go_at_call 75; refine (unhide CR _).mono ?_; rintro r ws ⟨rfl, hws⟩; replace hws := hws.symm; subst hws))
      refine gen_world (fun z => Lay 89 w0 q2 B c S u1 u2 us ut z ∧ z.heap[X]? = some (.cells eoZ 42)) ?_ ?_
      ·have h4 := (unhide H3).setRaw 14 (.int .i64 (c.now + 3)) { (A.foldl (fun s a => actF c a s) s).e with st := st', du := c.now + 3 } rfl
       rw [← HE, ← (unhide HS).1] at h4
       exact ⟨h4, unhide HX3 _ h4.nr⟩
      clear H3 c12 f12 c14 f14 c30 m0
      rintro z ⟨hz, hX⟩
      obtain ⟨a1, p1, e1⟩ := own_form hz.o1
      obtain ⟨a2, p2, e2⟩ := own_form hz.o2
      obtain ⟨a3, p3, e3⟩ := own_form hz.os
      obtain ⟨a4, p4, e4⟩ := own_form hz.ot
      subst e1 e2 e3 e4
      have c37 := hz.cell (i := 37) rfl
      have c38 := hz.cell (i := 38) rfl
      have hrg := range_lay hz
      have hall := eoC_all S.e a1 a2 a3 a4 S.F1.length S.F2.length S.sn.length S.tl.length p1 p2 p3 p4 0
      have HZ := hide (And.intro hz hX)
      clear hz hX
      refine wp_region_held_drew (S := fun z => z.rangeAt B 0 (enC S.e (.slice a1 S.F1.length p1) (.slice a2 S.F2.length p2)).toList ∧ z.cell? ⟨B, 37, none⟩ = some (.slice a3 S.sn.length p3) ∧ z.cell? ⟨B, 38, none⟩ = some (.slice a4 S.tl.length p4)) (by kernel_rfl) ?_ (fun hHeld => ?_)
      ·exact ⟨hrg, c37, c38⟩
      refine tk 0 (v := ?vfb0) rfl ?hyfb0 ?_
      case hyfb0 => intro w hSw; (try dsimp only at hSw); go_simp; try with_reducible rfl
      try simp only [Act.put, sA, sZ, sS, gA, gZ]
      refine tk 1 (v := ?vfb1) rfl ?hyfb1 ?_
      case hyfb1 => intro w hSw; (try dsimp only at hSw); go_simp; try with_reducible rfl
      try simp only [Act.put, sA, sZ, sS, gA, gZ, gS]
      refine tk 2 (v := ?vfb2) rfl ?hyfb2 ?_
      case hyfb2 => intro w hSw; (try dsimp only at hSw); go_simp; try with_reducible rfl
      try simp only [Act.put, sA, sZ, sS, gA, gZ, gS]
      refine wpAnyH_take (i := 3) (v := .agg (enC S.e (.slice a1 S.F1.length p1) (.slice a2 S.F2.length p2))) rfl (by kernel_rfl) (by kernel_rfl) (by kernel_rfl) (fun _ _ _ h => h) (yieldsIf_load_mid (by rfl) 29 (.tmp 88) rfl B 0 rfl (enC S.e (.slice a1 S.F1.length p1) (.slice a2 S.F2.length p2)).toList _ (fun z hz => hz.1) Tryz.underlying29 rfl infoE) (by assumption) ?_
      try simp only [Act.put, sA, sZ, sS, gA, gZ, gS]
      refine tk 4 (v := ?vfb4) rfl ?hyfb4 ?_
      case hyfb4 => intro w hSw; (try dsimp only at hSw); go_simp; try with_reducible rfl
      try simp only [Act.put, sA, sZ, sS, gA, gZ, gS]
      refine tk 5 (v := ?vfb5) rfl ?hyfb5 ?_
      case hyfb5 => intro w hSw; (try dsimp only at hSw); go_simp; try with_reducible rfl
      try simp only [Act.put, sA, sZ, sS, gA, gZ, gS]
      refine tk 6 (v := ?vfb6) rfl ?hyfb6 ?_
      case hyfb6 => intro w hSw; (try dsimp only at hSw); go_simp; try with_reducible rfl
      try simp only [Act.put, sA, sZ, sS, gA, gZ, gS]
      refine tk 7 (v := ?vfb7) rfl ?hyfb7 ?_
      case hyfb7 => intro w hSw; (try dsimp only at hSw); go_simp; try with_reducible rfl
      try simp only [Act.put, sA, sZ, sS, gA, gZ, gS]
      refine tk 8 (v := ?vfb8) rfl ?hyfb8 ?_
      case hyfb8 => intro w hSw; (try dsimp only at hSw); go_simp; try with_reducible rfl
      try simp only [Act.put, sA, sZ, sS, gA, gZ, gS]
      refine tk 9 (v := ?vfb9) rfl ?hyfb9 ?_
      case hyfb9 => intro w hSw; (try dsimp only at hSw); go_simp; try with_reducible rfl
      try simp only [Act.put, sA, sZ, sS, gA, gZ, gS]
      refine tk 10 (v := ?vfb10) rfl ?hyfb10 ?_
      case hyfb10 => intro w hSw; (try dsimp only at hSw); go_simp; try with_reducible rfl
      try simp only [Act.put, sA, sZ, sS, gA, gZ, gS]
      refine tk 11 (v := ?vfb11) rfl ?hyfb11 ?_
      case hyfb11 => intro w hSw; (try dsimp only at hSw); go_simp; try with_reducible rfl
      try simp only [Act.put, sA, sZ, sS, gA, gZ, gS]
      refine wpAnyH_take (i := 12) (v := .agg (eoC S.e (.slice a1 S.F1.length p1) (.slice a2 S.F2.length p2) (.slice a3 S.sn.length p3) (.slice a4 S.tl.length p4) 0)) rfl (by kernel_rfl) (by kernel_rfl) (by kernel_rfl) (fun _ _ _ h => h) (Or.inl ⟨by rfl, fun _ _ => by kernel_rfl⟩) (by assumption) ?_
      try simp only [Act.put, sA, sZ, sS, gA, gZ, gS]
      refine r1 13 rfl (fun K hK => ?_)
      rw [if_pos (by rfl)]
      refine wp_store_row 42 (.tmp 4) (.tmp 98) rfl X (eoC S.e (.slice a1 S.F1.length p1) (.slice a2 S.F2.length p2) (.slice a3 S.sn.length p3) (.slice a4 S.tl.length p4) 0) rfl rfl 42 eoZ (unhide HZ).2 infoEo rfl hall ?_
      have bX : Below X z (z.setRow X (eoC S.e (.slice a1 S.F1.length p1) (.slice a2 S.F2.length p2) (.slice a3 S.sn.length p3) (.slice a4 S.tl.length p4) 0)) := below_row (Below.refl _ _) (Nat.le_refl _) _
      refine hK.out _ _ ?_ (fun _ => ?_)
      ·refine ⟨fun j v hv => (bX.cell (p := ⟨B, 0 + j, none⟩) hBX).trans (hrg j v hv), (bX.cell (p := ⟨B, 37, none⟩) hBX).trans c37, (bX.cell (p := ⟨B, 38, none⟩) hBX).trans c38⟩
      clear hK K
      try simp only [Act.put]
      refine wpAnyH_done (by kernel_rfl) ?_ _
      go_wp2
      refine bodyPost_ret (v := .agg (eoC S.e (.slice a1 S.F1.length p1) (.slice a2 S.F2.length p2) (.slice a3 S.sn.length p3) (.slice a4 S.tl.length p4) 0)) (by simp [results, Tryz.results43, asAddr, loadEo (setRow_heap z.drew X _ (eoC S.e (.slice a1 S.F1.length p1) (.slice a2 S.F2.length p2) (.slice a3 S.sn.length p3) (.slice a4 S.tl.length p4) 0) _ _ (unhide HZ).2)]) rfl ?_
      obtain ⟨hz0, hX⟩ := unhide HZ
      have hz := hz0.step (Below.refl _ _).drew
      have hXd : z.drew.heap[X]? = some (.cells eoZ 42) := hX
      have hs := hz.lo.size
      have hSS := (unhide HS).1
      clear HZ HS hHeld hrg c37 c38 hall hz0 bX
      subst hSS
      refine ⟨⟨_, _, _, _, ?_, own_setRow hz.o1 hXd (by decide), own_setRow hz.o2 hXd (by decide), own_mono (own_setRow hz.os hXd (by decide)) hs, own_mono (own_setRow hz.ot hXd (by decide)) hs, hz.ap, hz.low.trans (below_row (Below.refl _ _) (Nat.le_of_lt (Nat.lt_of_le_of_lt hz.hB hBX)) _)⟩, nr_setRow ((unhide HN2).trans hz.nr) (Nat.le_of_eq (unhide HXq)) _⟩
      exact congrArg (fun e => Ending.returned (.agg (eoC e _ _ _ _ 0))) HE
     ·cases hset : A.any setT
      ·have HE : endE c A st' (A.foldl (fun s a => actF c a s) s).e = { (A.foldl (fun s a => actF c a s) s).e with st := st' } := by unfold endE; rw [hrr, decide_eq_false hdu, hset]; rfl
       go_upto_region 15 with (first | (go_at_call 75; refine (unhide CR _).mono ?_; rintro r ws ⟨rfl, hws⟩; replace hws := hws.symm; subst hws))
       refine gen_world (fun z => Lay 89 w0 q2 B c S u1 u2 us ut z ∧ z.heap[X]? = some (.cells eoZ 42)) ?_ ?_
       ·have h4 := unhide H3
        rw [← HE, ← (unhide HS).1] at h4
        exact ⟨h4, unhide HX3 _ h4.nr⟩
       clear H3 c12 f12 c14 f14 c30 m0
       rintro z ⟨hz, hX⟩
       obtain ⟨a1, p1, e1⟩ := own_form hz.o1
       obtain ⟨a2, p2, e2⟩ := own_form hz.o2
       obtain ⟨a3, p3, e3⟩ := own_form hz.os
       obtain ⟨a4, p4, e4⟩ := own_form hz.ot
       subst e1 e2 e3 e4
       have c37 := hz.cell (i := 37) rfl
       have c38 := hz.cell (i := 38) rfl
       have hrg := range_lay hz
       have hall := eoC_all S.e a1 a2 a3 a4 S.F1.length S.F2.length S.sn.length S.tl.length p1 p2 p3 p4 0
       have HZ := hide (And.intro hz hX)
       clear hz hX
       refine wp_region_held_drew (S := fun z => z.rangeAt B 0 (enC S.e (.slice a1 S.F1.length p1) (.slice a2 S.F2.length p2)).toList ∧ z.cell? ⟨B, 37, none⟩ = some (.slice a3 S.sn.length p3) ∧ z.cell? ⟨B, 38, none⟩ = some (.slice a4 S.tl.length p4)) (by kernel_rfl) ?_ (fun hHeld => ?_)
       ·exact ⟨hrg, c37, c38⟩
       refine tk 0 (v := ?vfc0) rfl ?hyfc0 ?_
       case hyfc0 => intro w hSw; (try dsimp only at hSw); go_simp; try with_reducible rfl
       try simp only [Act.put, sA, sZ, sS, gA, gZ]
       refine tk 1 (v := ?vfc1) rfl ?hyfc1 ?_
       case hyfc1 => intro w hSw; (try dsimp only at hSw); go_simp; try with_reducible rfl
       try simp only [Act.put, sA, sZ, sS, gA, gZ, gS]
       refine tk 2 (v := ?vfc2) rfl ?hyfc2 ?_
       case hyfc2 => intro w hSw; (try dsimp only at hSw); go_simp; try with_reducible rfl
       try simp only [Act.put, sA, sZ, sS, gA, gZ, gS]
       refine wpAnyH_take (i := 3) (v := .agg (enC S.e (.slice a1 S.F1.length p1) (.slice a2 S.F2.length p2))) rfl (by kernel_rfl) (by kernel_rfl) (by kernel_rfl) (fun _ _ _ h => h) (yieldsIf_load_mid (by rfl) 29 (.tmp 88) rfl B 0 rfl (enC S.e (.slice a1 S.F1.length p1) (.slice a2 S.F2.length p2)).toList _ (fun z hz => hz.1) Tryz.underlying29 rfl infoE) (by assumption) ?_
       try simp only [Act.put, sA, sZ, sS, gA, gZ, gS]
       refine tk 4 (v := ?vfc4) rfl ?hyfc4 ?_
       case hyfc4 => intro w hSw; (try dsimp only at hSw); go_simp; try with_reducible rfl
       try simp only [Act.put, sA, sZ, sS, gA, gZ, gS]
       refine tk 5 (v := ?vfc5) rfl ?hyfc5 ?_
       case hyfc5 => intro w hSw; (try dsimp only at hSw); go_simp; try with_reducible rfl
       try simp only [Act.put, sA, sZ, sS, gA, gZ, gS]
       refine tk 6 (v := ?vfc6) rfl ?hyfc6 ?_
       case hyfc6 => intro w hSw; (try dsimp only at hSw); go_simp; try with_reducible rfl
       try simp only [Act.put, sA, sZ, sS, gA, gZ, gS]
       refine tk 7 (v := ?vfc7) rfl ?hyfc7 ?_
       case hyfc7 => intro w hSw; (try dsimp only at hSw); go_simp; try with_reducible rfl
       try simp only [Act.put, sA, sZ, sS, gA, gZ, gS]
       refine tk 8 (v := ?vfc8) rfl ?hyfc8 ?_
       case hyfc8 => intro w hSw; (try dsimp only at hSw); go_simp; try with_reducible rfl
       try simp only [Act.put, sA, sZ, sS, gA, gZ, gS]
       refine tk 9 (v := ?vfc9) rfl ?hyfc9 ?_
       case hyfc9 => intro w hSw; (try dsimp only at hSw); go_simp; try with_reducible rfl
       try simp only [Act.put, sA, sZ, sS, gA, gZ, gS]
       refine tk 10 (v := ?vfc10) rfl ?hyfc10 ?_
       case hyfc10 => intro w hSw; (try dsimp only at hSw); go_simp; try with_reducible rfl
       try simp only [Act.put, sA, sZ, sS, gA, gZ, gS]
       refine tk 11 (v := ?vfc11) rfl ?hyfc11 ?_
       case hyfc11 => intro w hSw; (try dsimp only at hSw); go_simp; try with_reducible rfl
       try simp only [Act.put, sA, sZ, sS, gA, gZ, gS]
       refine wpAnyH_take (i := 12) (v := .agg (eoC S.e (.slice a1 S.F1.length p1) (.slice a2 S.F2.length p2) (.slice a3 S.sn.length p3) (.slice a4 S.tl.length p4) 0)) rfl (by kernel_rfl) (by kernel_rfl) (by kernel_rfl) (fun _ _ _ h => h) (Or.inl ⟨by rfl, fun _ _ => by kernel_rfl⟩) (by assumption) ?_
       try simp only [Act.put, sA, sZ, sS, gA, gZ, gS]
       refine r1 13 rfl (fun K hK => ?_)
       rw [if_pos (by rfl)]
       refine wp_store_row 42 (.tmp 4) (.tmp 98) rfl X (eoC S.e (.slice a1 S.F1.length p1) (.slice a2 S.F2.length p2) (.slice a3 S.sn.length p3) (.slice a4 S.tl.length p4) 0) rfl rfl 42 eoZ (unhide HZ).2 infoEo rfl hall ?_
       have bX : Below X z (z.setRow X (eoC S.e (.slice a1 S.F1.length p1) (.slice a2 S.F2.length p2) (.slice a3 S.sn.length p3) (.slice a4 S.tl.length p4) 0)) := below_row (Below.refl _ _) (Nat.le_refl _) _
       refine hK.out _ _ ?_ (fun _ => ?_)
       ·refine ⟨fun j v hv => (bX.cell (p := ⟨B, 0 + j, none⟩) hBX).trans (hrg j v hv), (bX.cell (p := ⟨B, 37, none⟩) hBX).trans c37, (bX.cell (p := ⟨B, 38, none⟩) hBX).trans c38⟩
       clear hK K
       try simp only [Act.put]
       refine wpAnyH_done (by kernel_rfl) ?_ _
       go_wp2
       refine bodyPost_ret (v := .agg (eoC S.e (.slice a1 S.F1.length p1) (.slice a2 S.F2.length p2) (.slice a3 S.sn.length p3) (.slice a4 S.tl.length p4) 0)) (by simp [results, Tryz.results43, asAddr, loadEo (setRow_heap z.drew X _ (eoC S.e (.slice a1 S.F1.length p1) (.slice a2 S.F2.length p2) (.slice a3 S.sn.length p3) (.slice a4 S.tl.length p4) 0) _ _ (unhide HZ).2)]) rfl ?_
       obtain ⟨hz0, hX⟩ := unhide HZ
       have hz := hz0.step (Below.refl _ _).drew
       have hXd : z.drew.heap[X]? = some (.cells eoZ 42) := hX
       have hs := hz.lo.size
       have hSS := (unhide HS).1
       clear HZ HS hHeld hrg c37 c38 hall hz0 bX
       subst hSS
       refine ⟨⟨_, _, _, _, ?_, own_setRow hz.o1 hXd (by decide), own_setRow hz.o2 hXd (by decide), own_mono (own_setRow hz.os hXd (by decide)) hs, own_mono (own_setRow hz.ot hXd (by decide)) hs, hz.ap, hz.low.trans (below_row (Below.refl _ _) (Nat.le_of_lt (Nat.lt_of_le_of_lt hz.hB hBX)) _)⟩, nr_setRow ((unhide HN2).trans hz.nr) (Nat.le_of_eq (unhide HXq)) _⟩
       exact congrArg (fun e => Ending.returned (.agg (eoC e _ _ _ _ 0))) HE
      ·have HE : endE c A st' (A.foldl (fun s a => actF c a s) s).e = { (A.foldl (fun s a => actF c a s) s).e with st := st', du := c.now + 3 } := by unfold endE; rw [hrr, decide_eq_false hdu, hset]; rfl
       go_upto_region 15 with (first | (go_at_call 75; refine (unhide CR _).mono ?_; rintro r ws ⟨rfl, hws⟩; replace hws := hws.symm; subst hws))
       refine gen_world (fun z => Lay 89 w0 q2 B c S u1 u2 us ut z ∧ z.heap[X]? = some (.cells eoZ 42)) ?_ ?_
       ·have h4 := (unhide H3).setRaw 14 (.int .i64 (c.now + 3)) { (A.foldl (fun s a => actF c a s) s).e with st := st', du := c.now + 3 } rfl
        rw [← HE, ← (unhide HS).1] at h4
        exact ⟨h4, unhide HX3 _ h4.nr⟩
       clear H3 c12 f12 c14 f14 c30 m0
       rintro z ⟨hz, hX⟩
       obtain ⟨a1, p1, e1⟩ := own_form hz.o1
       obtain ⟨a2, p2, e2⟩ := own_form hz.o2
       obtain ⟨a3, p3, e3⟩ := own_form hz.os
       obtain ⟨a4, p4, e4⟩ := own_form hz.ot
       subst e1 e2 e3 e4
       have c37 := hz.cell (i := 37) rfl
       have c38 := hz.cell (i := 38) rfl
       have hrg := range_lay hz
       have hall := eoC_all S.e a1 a2 a3 a4 S.F1.length S.F2.length S.sn.length S.tl.length p1 p2 p3 p4 0
       have HZ := hide (And.intro hz hX)
       clear hz hX
       refine wp_region_held_drew (S := fun z => z.rangeAt B 0 (enC S.e (.slice a1 S.F1.length p1) (.slice a2 S.F2.length p2)).toList ∧ z.cell? ⟨B, 37, none⟩ = some (.slice a3 S.sn.length p3) ∧ z.cell? ⟨B, 38, none⟩ = some (.slice a4 S.tl.length p4)) (by kernel_rfl) ?_ (fun hHeld => ?_)
       ·exact ⟨hrg, c37, c38⟩
       refine tk 0 (v := ?vfd0) rfl ?hyfd0 ?_
       case hyfd0 => intro w hSw; (try dsimp only at hSw); go_simp; try with_reducible rfl
       try simp only [Act.put, sA, sZ, sS, gA, gZ]
       refine tk 1 (v := ?vfd1) rfl ?hyfd1 ?_
       case hyfd1 => intro w hSw; (try dsimp only at hSw); go_simp; try with_reducible rfl
       try simp only [Act.put, sA, sZ, sS, gA, gZ, gS]
       refine tk 2 (v := ?vfd2) rfl ?hyfd2 ?_
       case hyfd2 => intro w hSw; (try dsimp only at hSw); go_simp; try with_reducible rfl
       try simp only [Act.put, sA, sZ, sS, gA, gZ, gS]
       refine wpAnyH_take (i := 3) (v := .agg (enC S.e (.slice a1 S.F1.length p1) (.slice a2 S.F2.length p2))) rfl (by kernel_rfl) (by kernel_rfl) (by kernel_rfl) (fun _ _ _ h => h) (yieldsIf_load_mid (by rfl) 29 (.tmp 88) rfl B 0 rfl (enC S.e (.slice a1 S.F1.length p1) (.slice a2 S.F2.length p2)).toList _ (fun z hz => hz.1) Tryz.underlying29 rfl infoE) (by assumption) ?_
       try simp only [Act.put, sA, sZ, sS, gA, gZ, gS]
       refine tk 4 (v := ?vfd4) rfl ?hyfd4 ?_
       case hyfd4 => intro w hSw; (try dsimp only at hSw); go_simp; try with_reducible rfl
       try simp only [Act.put, sA, sZ, sS, gA, gZ, gS]
       refine tk 5 (v := ?vfd5) rfl ?hyfd5 ?_
       case hyfd5 => intro w hSw; (try dsimp only at hSw); go_simp; try with_reducible rfl
       try simp only [Act.put, sA, sZ, sS, gA, gZ, gS]
       refine tk 6 (v := ?vfd6) rfl ?hyfd6 ?_
       case hyfd6 => intro w hSw; (try dsimp only at hSw); go_simp; try with_reducible rfl
       try simp only [Act.put, sA, sZ, sS, gA, gZ, gS]
       refine tk 7 (v := ?vfd7) rfl ?hyfd7 ?_
       case hyfd7 => intro w hSw; (try dsimp only at hSw); go_simp; try with_reducible rfl
       try simp only [Act.put, sA, sZ, sS, gA, gZ, gS]
       refine tk 8 (v := ?vfd8) rfl ?hyfd8 ?_
       case hyfd8 => intro w hSw; (try dsimp only at hSw); go_simp; try with_reducible rfl
       try simp only [Act.put, sA, sZ, sS, gA, gZ, gS]
       refine tk 9 (v := ?vfd9) rfl ?hyfd9 ?_
       case hyfd9 => intro w hSw; (try dsimp only at hSw); go_simp; try with_reducible rfl
       try simp only [Act.put, sA, sZ, sS, gA, gZ, gS]
       refine tk 10 (v := ?vfd10) rfl ?hyfd10 ?_
       case hyfd10 => intro w hSw; (try dsimp only at hSw); go_simp; try with_reducible rfl
       try simp only [Act.put, sA, sZ, sS, gA, gZ, gS]
       refine tk 11 (v := ?vfd11) rfl ?hyfd11 ?_
       case hyfd11 => intro w hSw; (try dsimp only at hSw); go_simp; try with_reducible rfl
       try simp only [Act.put, sA, sZ, sS, gA, gZ, gS]
       refine wpAnyH_take (i := 12) (v := .agg (eoC S.e (.slice a1 S.F1.length p1) (.slice a2 S.F2.length p2) (.slice a3 S.sn.length p3) (.slice a4 S.tl.length p4) 0)) rfl (by kernel_rfl) (by kernel_rfl) (by kernel_rfl) (fun _ _ _ h => h) (Or.inl ⟨by rfl, fun _ _ => by kernel_rfl⟩) (by assumption) ?_
       try simp only [Act.put, sA, sZ, sS, gA, gZ, gS]
       refine r1 13 rfl (fun K hK => ?_)
       rw [if_pos (by rfl)]
       refine wp_store_row 42 (.tmp 4) (.tmp 98) rfl X (eoC S.e (.slice a1 S.F1.length p1) (.slice a2 S.F2.length p2) (.slice a3 S.sn.length p3) (.slice a4 S.tl.length p4) 0) rfl rfl 42 eoZ (unhide HZ).2 infoEo rfl hall ?_
       have bX : Below X z (z.setRow X (eoC S.e (.slice a1 S.F1.length p1) (.slice a2 S.F2.length p2) (.slice a3 S.sn.length p3) (.slice a4 S.tl.length p4) 0)) := below_row (Below.refl _ _) (Nat.le_refl _) _
       refine hK.out _ _ ?_ (fun _ => ?_)
       ·refine ⟨fun j v hv => (bX.cell (p := ⟨B, 0 + j, none⟩) hBX).trans (hrg j v hv), (bX.cell (p := ⟨B, 37, none⟩) hBX).trans c37, (bX.cell (p := ⟨B, 38, none⟩) hBX).trans c38⟩
       clear hK K
       try simp only [Act.put]
       refine wpAnyH_done (by kernel_rfl) ?_ _
       go_wp2
       refine bodyPost_ret (v := .agg (eoC S.e (.slice a1 S.F1.length p1) (.slice a2 S.F2.length p2) (.slice a3 S.sn.length p3) (.slice a4 S.tl.length p4) 0)) (by simp [results, Tryz.results43, asAddr, loadEo (setRow_heap z.drew X _ (eoC S.e (.slice a1 S.F1.length p1) (.slice a2 S.F2.length p2) (.slice a3 S.sn.length p3) (.slice a4 S.tl.length p4) 0) _ _ (unhide HZ).2)]) rfl ?_
       obtain ⟨hz0, hX⟩ := unhide HZ
       have hz := hz0.step (Below.refl _ _).drew
       have hXd : z.drew.heap[X]? = some (.cells eoZ 42) := hX
       have hs := hz.lo.size
       have hSS := (unhide HS).1
       clear HZ HS hHeld hrg c37 c38 hall hz0 bX
       subst hSS
       refine ⟨⟨_, _, _, _, ?_, own_setRow hz.o1 hXd (by decide), own_setRow hz.o2 hXd (by decide), own_mono (own_setRow hz.os hXd (by decide)) hs, own_mono (own_setRow hz.ot hXd (by decide)) hs, hz.ap, hz.low.trans (below_row (Below.refl _ _) (Nat.le_of_lt (Nat.lt_of_le_of_lt hz.hB hBX)) _)⟩, nr_setRow ((unhide HN2).trans hz.nr) (Nat.le_of_eq (unhide HXq)) _⟩
       exact congrArg (fun e => Ending.returned (.agg (eoC e _ _ _ _ 0))) HE
 ·have hcn : (cd != 0) = true := by simpa using hcd
  have hall : (eoC enZero (.slice none 0 0) (.slice none 0 0) (.slice none 0 0) (.slice none 0 0) cd).all (·.oneCell') = true := eoC_all _ _ _ _ _ _ _ _ _ _ _ _ _ _
  go_wp2_with (first
   | (refine wpList_buildTo rfl 42 _ rfl (some 20) rfl (eoC enZero (.slice none 0 0) (.slice none 0 0) (.slice none 0 0) (.slice none 0 0) cd) (by as_aux_lemma => kernel_rfl) ?_)
   | (refine wpList_store_rowTo rfl 42 (.tmp 4) (.tmp 20) rfl rfl X (eoC enZero (.slice none 0 0) (.slice none 0 0) (.slice none 0 0) (.slice none 0 0) cd) rfl rfl 42 eoZ (unhide HQ2).2.1 infoEo rfl hall ?_))
  refine bodyPost_ret (v := .agg (eoC enZero (.slice none 0 0) (.slice none 0 0) (.slice none 0 0) (.slice none 0 0) cd)) (by simp [results, Tryz.results43, asAddr, loadEo (setRow_heap q2 X _ (eoC enZero (.slice none 0 0) (.slice none 0 0) (.slice none 0 0) (.slice none 0 0) cd) _ _ (unhide HQ2).2.1)]) rfl ?_
  exact ⟨evErr ((unhide HQ2).1.low.trans (below_row (Below.refl _ _) (by have := (unhide HQ2).1.hB; omega) _)) cd, nr_setRow (unhide HN2) (Nat.le_of_eq (unhide HXq)) _⟩
theorem sEvent (w0 w1 : World) (B : Nat) (c : Cx) (s : St) (v1 v2 : Value) (q : World) (h : Lay 89 w0 w1 B c s v1 v2 (.slice none 0 0) (.slice none 0 0) q) (hs : s.sn = []) (ht : s.tl = []) (hf : Fit 0 c s) (t : ByteArray) (hts : t.size ≤ maxLen)
  (hA : ∀ a ∈ (fsmF s.e.st t).2.1, ActOk 89 90 c a) (hl : (fsmF s.e.st t).2.1.length ≤ 30) :
  Calls Tryz.prog 43 #[.pointer (some ⟨B, 0, none⟩), .string t] q fun r q' => EvA w0 (evF c s t) r q' :=
 (sEventN w0 w1 B c s v1 v2 q h hs ht hf t hts hA hl).mono fun _ _ h => h.1
end Go.Proofs.YtahpjlbaagkdoaaGreatDoor
