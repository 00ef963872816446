/- The model's end at work takes a nak or a reject; what lay in memory stands. -/
import Derived.Test.YtahpjlbaagkdoaaGreatDoorS38
import Derived.Test.YtahpjlbaagkdoaaGreatDoorS40
import Derived.Test.YtahpjlbaagkdoaaGreatDoorS27
import Derived.Test.YtahpjlbaagkdoaaGreatDoorS42
import Derived.Test.YtahpjlbaagkdoaaGreatDoorS39
import Derived.Test.YtahpjlbaagkdoaaGreatDoorShW
namespace Go.Proofs.YtahpjlbaagkdoaaGreatDoor
open Go.RowKit
theorem sReadO (t : ByteArray) (w : World) (h8 : t.size ≤ 250) : Calls Tryz.prog 95 #[.string t] w fun e w' => ∃ ad n cp, e = .returned (.tuple #[.slice ad n cp, .bool (decide ((oread t).2 = 0))]) ∧ ((oread t).2 = 0 → n = (oread t).1.length ∧ w'.ownsRow w.heap.size 116 2 (.slice ad (oread t).1.length cp) (oread t).1.length (ocells (oread t).1)) ∧ Below w.heap.size w w' := by
 refine (specRead t w (by omega)).mono fun e w' h => ?_
 have h8' : ¬ 8000 < t.size := by omega
 have hacc : Op.acc [] t.data.toList = (Op.rd t.data.toList).bind fun L => if Op.right L = true then some L else none := rfl
 rcases h with ⟨hres, rfl, hb⟩ | ⟨L, ad, cp, hres, rfl, ho, hb⟩
 ·rw [oread_none h8' (by rw [hacc, hres]; rfl)]
  exact ⟨none, 0, 0, rfl, fun h => absurd h (by decide), hb⟩
 ·cases hr : Op.right L
  ·rw [oread_none h8' (by rw [hacc, hres]; show (if Op.right L = true then some L else none) = none; rw [hr]; rfl)]
   exact ⟨ad, L.length, cp, rfl, fun h => absurd h (by decide), hb⟩
  ·rw [oread_some (L := L) h8' (by rw [hacc, hres]; show (if Op.right L = true then some L else none) = some L; rw [hr]; rfl)]
   exact ⟨ad, L.length, cp, rfl, fun _ => ⟨rfl, ho⟩, hb⟩
theorem oread_3 {t : ByteArray} (h8 : t.size ≤ 250) (h : (oread t).2 ≠ 0) : (oread t).2 = 3 := by
 unfold oread at h ⊢
 rw [if_neg (by omega)] at h ⊢
 split at h
 ·rfl
 ·exact absurd rfl h
theorem EvA.upN {w q0 q : World} {X B : Nat} {o : EO} {cs : Array Value} (h : EvA w o (.returned (.agg cs)) q) (hn : Nr B q0 q) (hX : q0.heap[X]? = some (.cells eoZ 42)) (hXB : X ≠ B) (hXw : w.heap.size ≤ X) :
  cs.size = 33 ∧ cs.all (·.oneCell') = true ∧ q.heap[X]? = some (.cells eoZ 42) ∧ EvA w o (.returned (.agg cs)) (q.setRow X cs) := by
 obtain ⟨v1, v2, vs, vt, e, o1, o2, os, ot, ap, lo⟩ := h
 have e' : cs = eoC o.e v1 v2 vs vt o.cd := by injection e with e; injection e
 subst e'
 have hX' : q.heap[X]? = some (.cells eoZ 42) := (hn.block X (Array.getElem?_eq_some_iff.1 hX).1 hXB).trans hX
 obtain ⟨a1, p1, e1⟩ := own_form o1
 obtain ⟨a2, p2, e2⟩ := own_form o2
 obtain ⟨a3, p3, e3⟩ := own_form os
 obtain ⟨a4, p4, e4⟩ := own_form ot
 refine ⟨rfl, ?_, hX', v1, v2, vs, vt, rfl, own_setRow o1 hX' (by decide), own_setRow o2 hX' (by decide), own_setRow os hX' (by decide), own_setRow ot hX' (by decide), ap, ?_⟩
 ·rw [e1, e2, e3, e4]
  exact eoC_all _ _ _ _ _ _ _ _ _ _ _ _ _ _
 ·exact below_row lo hXw _
set_option linter.unusedSimpArgs false in
set_option maxHeartbeats 16000000 in
set_option maxRecDepth 100000 in
theorem sRefused {w0 w1 : World} {B : Nat} {now : Int} {p : Op.Pk} {e : En} {F1 F2 : List Op.Opt} {v1 v2 : Value} {q : World} (h : Lay 89 w0 w1 B (cxP now p [] (0, []) nilS nilS) ⟨e, F1, F2, [], []⟩ v1 v2 nilS nilS q) (hf : Fit 0 (cx0 now) ⟨e, F1, F2, [], []⟩) (hp : Op.pok p = true) (hst : 0 ≤ e.st ∧ e.st ≤ 9) (hc : p.code = 3 ∨ p.code = 4) :
  Calls Tryz.prog 49 #[.pointer (some ⟨B, 0, none⟩)] q fun r q' => EvA w0 (hearP now p e F1 F2) r q' := by
 have hs : p.data.size ≤ 250 := by
  have := hp
  unfold Op.pok at this
  exact (of_decide_eq_true this).2.2.2.2
 have hk := hf.ask
 have hf2 : Fit 0 (cxP now p [] (0, []) nilS nilS) ⟨e, F1, F2, [], []⟩ := hf.came p hp rfl rfl _ _
 have CO := hide fun z => sReadO p.data z hs
 have hr := oread_right p.data
 have h1 : p.code ≠ 1 := by omega
 have h2 : p.code ≠ 2 := by omega
 have hX0 := heap_alloc_new q (.cells eoZ 42)
 have hL0 := h.step ((Below.refl q.heap.size q).alloc (Nat.le_refl _) (.cells eoZ 42))
 have hXw : w0.heap.size ≤ q.heap.size := h.low.size
 have hXB : q.heap.size ≠ B := Nat.ne_of_gt h.lt
 have HST := hide hst
 have KC : Hid (∀ z, Lay 89 w0 w1 B (cxP now p [] (0, []) nilS nilS) ⟨e, F1, F2, [], []⟩ v1 v2 nilS nilS z → z.cell? ⟨B, 6, none⟩ = some (.int .i64 e.m2) ∧ z.cell? ⟨B, 7, none⟩ = some (.int .i64 e.a2) ∧ z.cell? ⟨B, 8, none⟩ = some (.int .i64 e.g2) ∧ z.cell? ⟨B, 9, none⟩ = some (.bool e.p2) ∧ z.cell? ⟨B, 10, none⟩ = some (.bool e.c2) ∧ z.cell? ⟨B, 11, none⟩ = some (.bool e.d2)) := hide fun z hz => ⟨hz.cell (i := 6) rfl, hz.cell (i := 7) rfl, hz.cell (i := 8) rfl, hz.cell (i := 9) rfl, hz.cell (i := 10) rfl, hz.cell (i := 11) rfl⟩
 have H0 := hide (And.intro hL0 hX0)
 clear h hX0 hL0 hst
 go_enter Tryz.func49, Tryz.ntmps49
 go_upto_region 1 with fail
 refine gen_world (fun z => Lay 89 w0 w1 B (cxP now p [] (0, []) nilS nilS) ⟨e, F1, F2, [], []⟩ v1 v2 nilS nilS z ∧ z.heap[q.heap.size]? = some (.cells eoZ 42)) (unhide H0) ?_
 clear H0
 generalize q.heap.size = X at *
 intro z1 hz1
 have E1 := hide hz1
 have c32 : z1.cell? ⟨B, 32, none⟩ = some (.int .i64 p.id) := hz1.1.cell (i := 32) rfl
 have c15 : z1.cell? ⟨B, 15, none⟩ = some (.int .i64 e.id) := hz1.1.cell (i := 15) rfl
 clear hz1
 by_cases hi : p.id = e.id
 ·rw [hi] at c32
  go_quiet (fail)
  have E2 : Hid (Lay 89 w0 w1 B (cxP now p [] (0, []) nilS nilS) ⟨e, F1, F2, [], []⟩ v1 v2 nilS nilS (z1.drewN nq) ∧ (z1.drewN nq).heap[X]? = some (.cells eoZ 42)) := hide ⟨(unhide E1).1.step (below_drewN (Below.refl _ _) _), (unhide E1).2⟩
  generalize z1.drewN nq = z2 at *
  have c33 : z2.cell? ⟨B, 33, none⟩ = some (.string p.data) := (unhide E2).1.cell (i := 33) rfl
  clear E1 c32 c15
  go_wp2_with fail
  refine (unhide CO _).mono ?_
  rintro r z3 ⟨ad, n, cp, rfl, hyes, hb3⟩
  by_cases h0 : (oread p.data).2 = 0
  ·obtain ⟨hn, ho⟩ := hyes h0
   subst hn
   have E3 := hide (And.intro ((unhide E2).1.step hb3) (And.intro ((hb3.block _ (Array.getElem?_eq_some_iff.1 (unhide E2).2).1).trans (unhide E2).2) (HoldsO.own ho)))
   have hd0 : decide ((oread p.data).2 = 0) = true := decide_eq_true h0
   have c31 : z3.cell? ⟨B, 31, none⟩ = some (.int .i64 p.code) := (unhide E3).1.cell (i := 31) rfl
   rw [hd0]
   clear hyes ho hb3 E2 c33 CO hd0
   have CL : Hid (∀ (z : World), HoldsO z (.slice ad (oread p.data).1.length cp) (oread p.data).1 → Calls Tryz.prog 97 #[.agg #[.int .i64 e.m2, .int .i64 e.a2, .int .i64 e.g2, .bool e.p2, .bool e.c2, .bool e.d2], .slice ad (oread p.data).1.length cp] z fun r w' => r = .returned (.agg (cfC (lessF (cfA e) (oread p.data).1))) ∧ Below z.heap.size z w') := hide fun z hz => by
    have := specLess (cfA e) _ (oread p.data).1 z (cfA_ok hk) hr hz
    rwa [cfA_cells hk] at this
   have CW : Hid (∀ (z : World), HoldsO z (.slice ad (oread p.data).1.length cp) (oread p.data).1 → Calls Tryz.prog 98 #[.agg #[.int .i64 e.m2, .int .i64 e.a2, .int .i64 e.g2, .bool e.p2, .bool e.c2, .bool e.d2], .slice ad (oread p.data).1.length cp] z fun r w' => r = .returned (.agg (cfC (woF (cfA e) (oread p.data).1))) ∧ Below z.heap.size z w') := hide fun z hz => by
    have := specWithout (cfA e) _ (oread p.data).1 z (cfA_ok hk) hr hz
    rwa [cfA_cells hk] at this
   by_cases h3 : p.code = 3
   ·have HH : Hid (hearP now p e F1 F2 = evF (cxP now p [] (0, []) nilS nilS) ⟨setA e (lessF (cfA e) (oread p.data).1), F1, F2, [], []⟩ (evT 9)) := hide (by unfold hearP; rw [if_neg h1, if_neg h2, if_pos hc, if_pos hi, if_pos h0, if_pos h3])
    have HFX : Hid (Fit 0 (cxP now p [] (0, []) nilS nilS) ⟨setA e (lessF (cfA e) (oread p.data).1), F1, F2, [], []⟩) := hide (hf2.asks (lessF_ok (cfA_ok hk) _))
    rw [h3] at c31
    clear hk hf2 hf hp hs hr h1 h2 hc hi h0 h3 CW
    generalize lessF (cfA e) (oread p.data).1 = XX at *
    obtain ⟨k6, k7, k8, k9, k10, k11⟩ := unhide KC _ (unhide E3).1
    have f6 := (unhide E3).1.frz 6
    go_wp2_with fail
    refine (unhide CL _ (unhide E3).2.2).mono ?_
    rintro r z4 ⟨rfl, hb4⟩
    have E4 := hide (And.intro ((unhide E3).1.step hb4) ((hb4.block _ (Array.getElem?_eq_some_iff.1 (unhide E3).2.1).1).trans (unhide E3).2.1))
    clear hb4 k6 k7 k8 k9 k10 k11 f6 CL E3
    obtain ⟨k6, k7, k8, k9, k10, k11⟩ := unhide KC _ (unhide E4).1
    have f6 := (unhide E4).1.frz 6
    have f7 := (unhide E4).1.frz 7
    have f8 := (unhide E4).1.frz 8
    have f9 := (unhide E4).1.frz 9
    have f10 := (unhide E4).1.frz 10
    have f11 := (unhide E4).1.frz 11
    go_upto_region 9 with fail
    refine gen_world (fun z => Lay 89 w0 w1 B (cxP now p [] (0, []) nilS nilS) ⟨setA e XX, F1, F2, [], []⟩ v1 v2 nilS nilS z ∧ z.heap[X]? = some (.cells eoZ 42)) ?_ ?_
    ·exact ⟨(unhide E4).1.asks9 XX, (set6b_ot hXB _ _ _ _ _ _).trans (unhide E4).2⟩
    clear k6 k7 k8 k9 k10 k11 f6 f7 f8 f9 f10 f11 E4 KC
    intro z5 hz5
    have E5 := hide hz5
    have CE := hide (sEventN w0 w1 B (cxP now p [] (0, []) nilS nilS) ⟨setA e XX, F1, F2, [], []⟩ v1 v2 z5 hz5.1 rfl rfl (unhide HFX) ⟨#[82, 67, 78]⟩ (by decide) (fun a ha => actSAll _ a ((fsmAll (i := 9) (c := cxP now p [] (0, []) nilS nilS) rfl (unhide HST).1 (unhide HST).2 (fun h => absurd h (by decide)) (fun h => absurd h (by decide))).1 a ha)) (fsmAll (i := 9) (c := cxP now p [] (0, []) nilS nilS) rfl (unhide HST).1 (unhide HST).2 (fun h => absurd h (by decide)) (fun h => absurd h (by decide))).2)
    clear hz5
    have HH2 : Hid (hearP now p e F1 F2 = evF (cxP now p [] (0, []) nilS nilS) ⟨setA e XX, F1, F2, [], []⟩ ⟨#[82, 67, 78]⟩) := HH
    clear HH
    generalize evF (cxP now p [] (0, []) nilS nilS) ⟨setA e XX, F1, F2, [], []⟩ ⟨#[82, 67, 78]⟩ = EV at *
    go_wp2_with fail
    refine (unhide CE).mono ?_
    rintro r z6 ⟨⟨u1, u2, us, ut, rfl, hE'⟩, hnr⟩
    have hE : EvA w0 EV (.returned (.agg (eoC EV.e u1 u2 us ut EV.cd))) z6 := ⟨u1, u2, us, ut, rfl, hE'⟩
    clear hE' CE
    generalize eoC EV.e u1 u2 us ut EV.cd = cs at *
    obtain ⟨hsz, hall, hX2, hEv⟩ := hE.upN hnr (unhide E5).2 hXB hXw
    have HE2 := hide (And.intro hX2 hEv)
    clear hE hX2 hEv hnr
    go_wp2_with (first
     | (refine wpList_store_rowTo rfl 42 (.tmp 2) (.tmp 58) rfl rfl X cs rfl rfl 42 eoZ (unhide HE2).1 (by rw [hsz]; exact infoEo) (by rw [hsz]; rfl) hall ?_))
    refine bodyPost_ret (v := .agg cs) (by simp [results, Tryz.results49, asAddr, Act.put, loadEo (setRow_heap z6 X _ cs _ _ (unhide HE2).1) hsz]) rfl ?_
    rw [unhide HH2]
    exact (unhide HE2).2
   ·have HH : Hid (hearP now p e F1 F2 = evF (cxP now p [] (0, []) nilS nilS) ⟨setA e (woF (cfA e) (oread p.data).1), F1, F2, [], []⟩ (evT 9)) := hide (by unfold hearP; rw [if_neg h1, if_neg h2, if_pos hc, if_pos hi, if_pos h0, if_neg h3])
    have HFX : Hid (Fit 0 (cxP now p [] (0, []) nilS nilS) ⟨setA e (woF (cfA e) (oread p.data).1), F1, F2, [], []⟩) := hide (hf2.asks (woF_ok (cfA_ok hk) _))
    have h4 : p.code = 4 := by omega
    rw [h4] at c31
    clear hk hf2 hf hp hs hr h1 h2 hc hi h0 h3 h4 CL
    generalize woF (cfA e) (oread p.data).1 = XX at *
    obtain ⟨k6, k7, k8, k9, k10, k11⟩ := unhide KC _ (unhide E3).1
    have f6 := (unhide E3).1.frz 6
    go_wp2_with fail
    refine (unhide CW _ (unhide E3).2.2).mono ?_
    rintro r z4 ⟨rfl, hb4⟩
    have E4 := hide (And.intro ((unhide E3).1.step hb4) ((hb4.block _ (Array.getElem?_eq_some_iff.1 (unhide E3).2.1).1).trans (unhide E3).2.1))
    clear hb4 k6 k7 k8 k9 k10 k11 f6 CW E3
    obtain ⟨k6, k7, k8, k9, k10, k11⟩ := unhide KC _ (unhide E4).1
    have f6 := (unhide E4).1.frz 6
    have f7 := (unhide E4).1.frz 7
    have f8 := (unhide E4).1.frz 8
    have f9 := (unhide E4).1.frz 9
    have f10 := (unhide E4).1.frz 10
    have f11 := (unhide E4).1.frz 11
    go_upto_region 9 with fail
    refine gen_world (fun z => Lay 89 w0 w1 B (cxP now p [] (0, []) nilS nilS) ⟨setA e XX, F1, F2, [], []⟩ v1 v2 nilS nilS z ∧ z.heap[X]? = some (.cells eoZ 42)) ?_ ?_
    ·exact ⟨(unhide E4).1.asks9 XX, (set6b_ot hXB _ _ _ _ _ _).trans (unhide E4).2⟩
    clear k6 k7 k8 k9 k10 k11 f6 f7 f8 f9 f10 f11 E4 KC
    intro z5 hz5
    have E5 := hide hz5
    have CE := hide (sEventN w0 w1 B (cxP now p [] (0, []) nilS nilS) ⟨setA e XX, F1, F2, [], []⟩ v1 v2 z5 hz5.1 rfl rfl (unhide HFX) ⟨#[82, 67, 78]⟩ (by decide) (fun a ha => actSAll _ a ((fsmAll (i := 9) (c := cxP now p [] (0, []) nilS nilS) rfl (unhide HST).1 (unhide HST).2 (fun h => absurd h (by decide)) (fun h => absurd h (by decide))).1 a ha)) (fsmAll (i := 9) (c := cxP now p [] (0, []) nilS nilS) rfl (unhide HST).1 (unhide HST).2 (fun h => absurd h (by decide)) (fun h => absurd h (by decide))).2)
    clear hz5
    have HH2 : Hid (hearP now p e F1 F2 = evF (cxP now p [] (0, []) nilS nilS) ⟨setA e XX, F1, F2, [], []⟩ ⟨#[82, 67, 78]⟩) := HH
    clear HH
    generalize evF (cxP now p [] (0, []) nilS nilS) ⟨setA e XX, F1, F2, [], []⟩ ⟨#[82, 67, 78]⟩ = EV at *
    go_wp2_with fail
    refine (unhide CE).mono ?_
    rintro r z6 ⟨⟨u1, u2, us, ut, rfl, hE'⟩, hnr⟩
    have hE : EvA w0 EV (.returned (.agg (eoC EV.e u1 u2 us ut EV.cd))) z6 := ⟨u1, u2, us, ut, rfl, hE'⟩
    clear hE' CE
    generalize eoC EV.e u1 u2 us ut EV.cd = cs at *
    obtain ⟨hsz, hall, hX2, hEv⟩ := hE.upN hnr (unhide E5).2 hXB hXw
    have HE2 := hide (And.intro hX2 hEv)
    clear hE hX2 hEv hnr
    go_wp2_with (first
     | (refine wpList_store_rowTo rfl 42 (.tmp 2) (.tmp 58) rfl rfl X cs rfl rfl 42 eoZ (unhide HE2).1 (by rw [hsz]; exact infoEo) (by rw [hsz]; rfl) hall ?_))
    refine bodyPost_ret (v := .agg cs) (by simp [results, Tryz.results49, asAddr, Act.put, loadEo (setRow_heap z6 X _ cs _ _ (unhide HE2).1) hsz]) rfl ?_
    rw [unhide HH2]
    exact (unhide HE2).2
  ·have HH : Hid (hearP now p e F1 F2 = eoErr 3) := hide (by unfold hearP; rw [if_neg h1, if_neg h2, if_pos hc, if_pos hi, if_neg h0, oread_3 hs h0])
   have hd0 : decide ((oread p.data).2 = 0) = false := decide_eq_false h0
   have E3 := hide (And.intro ((unhide E2).1.step hb3) ((hb3.block _ (Array.getElem?_eq_some_iff.1 (unhide E2).2).1).trans (unhide E2).2))
   rw [hd0]
   clear hyes hb3 E2 c33 CO hd0 hk hf2 hf hp hs hr h1 h2 hc hi h0 KC
   go_wp2_with (first
    | (refine wpList_buildTo rfl 42 _ rfl (some 28) rfl (eoC enZero (.slice none 0 0) (.slice none 0 0) (.slice none 0 0) (.slice none 0 0) 3) (by as_aux_lemma => kernel_rfl) ?_)
    | (refine wpList_store_rowTo rfl 42 (.tmp 2) (.tmp 28) rfl rfl X (eoC enZero (.slice none 0 0) (.slice none 0 0) (.slice none 0 0) (.slice none 0 0) 3) rfl rfl 42 eoZ (unhide E3).2 infoEo rfl (eoC_all _ _ _ _ _ _ _ _ _ _ _ _ _ _) ?_))
   refine bodyPost_ret (v := .agg (eoC enZero (.slice none 0 0) (.slice none 0 0) (.slice none 0 0) (.slice none 0 0) 3)) (by simp [results, Tryz.results49, asAddr, Act.put, loadEo (setRow_heap z3 X _ (eoC enZero (.slice none 0 0) (.slice none 0 0) (.slice none 0 0) (.slice none 0 0) 3) _ _ (unhide E3).2)]) rfl ?_
   rw [unhide HH]
   exact evErr (below_row (unhide E3).1.low hXw _) 3
 ·have HH : Hid (hearP now p e F1 F2 = eoErr 8) := hide (by unfold hearP; rw [if_neg h1, if_neg h2, if_pos hc, if_neg hi])
  have hb0 : (p.id != e.id) = true := by simpa using hi
  have hb1 : (p.id == e.id) = false := by simpa using hi
  clear hk hf2 hf hp hs hr h1 h2 hc hi KC CO
  go_quiet (fail)
  have E2 : Hid (Lay 89 w0 w1 B (cxP now p [] (0, []) nilS nilS) ⟨e, F1, F2, [], []⟩ v1 v2 nilS nilS (z1.drewN nq) ∧ (z1.drewN nq).heap[X]? = some (.cells eoZ 42)) := hide ⟨(unhide E1).1.step (below_drewN (Below.refl _ _) _), (unhide E1).2⟩
  generalize z1.drewN nq = z2 at *
  clear E1 c32 c15
  go_wp2_with (first
   | (refine wpList_buildTo rfl 42 _ rfl (some 16) rfl (eoC enZero (.slice none 0 0) (.slice none 0 0) (.slice none 0 0) (.slice none 0 0) 8) (by as_aux_lemma => kernel_rfl) ?_)
   | (refine wpList_store_rowTo rfl 42 (.tmp 2) (.tmp 16) rfl rfl X (eoC enZero (.slice none 0 0) (.slice none 0 0) (.slice none 0 0) (.slice none 0 0) 8) rfl rfl 42 eoZ (unhide E2).2 infoEo rfl (eoC_all _ _ _ _ _ _ _ _ _ _ _ _ _ _) ?_))
  refine bodyPost_ret (v := .agg (eoC enZero (.slice none 0 0) (.slice none 0 0) (.slice none 0 0) (.slice none 0 0) 8)) (by simp [results, Tryz.results49, asAddr, Act.put, loadEo (setRow_heap z2 X _ (eoC enZero (.slice none 0 0) (.slice none 0 0) (.slice none 0 0) (.slice none 0 0) 8) _ _ (unhide E2).2)]) rfl ?_
  rw [unhide HH]
  exact evErr (below_row (unhide E2).1.low hXw _) 8
end Go.Proofs.YtahpjlbaagkdoaaGreatDoor
