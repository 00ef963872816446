/- The model's LapbPut; what lay in memory stands. -/
import Derived.Test.YtjgnldkncoighaaLpG
import Derived.Test.YtjgnldkncoighaaLwU
namespace Go.Proofs.Ytjgnldkncoighaa
open Go.RowKit
set_option maxHeartbeats 16000000 in
set_option linter.unusedSimpArgs false in
theorem sPutL (p : Lp) (x : Option Addr) (y : Nat) (L : List ByteArray) (t : ByteArray) (w : World) (hl : L.length ≤ 1048576) (ht : t.size ≤ 1048576) (h : HoldsS w (.slice x L.length y) L) :
    Calls Try.prog 10 #[.agg (lpC p (.slice x L.length y)), .string t] w fun e q => AnsW w (putLF p L t) e q := by
  have C1 := hide fun W (hb : Below w.heap.size w W) => sLpRight p x y L W hl (h.below hb)
  have C2 := hide fun W (hb : Below w.heap.size w W) => sCopyL p x y L W hl (h.below hb)
  obtain ⟨hN0, hN1, hbW, hsW⟩ := new2l w (.cells (lpC p (.slice x L.length y)) 25) (.cells #[.int .i64 0, .int .i64 0, .int .i64 0, .int .i64 0, .slice none 0 0, .bool false, .slice none 0 0, .slice none 0 0, .int .i64 0] 35)
  unfold putLF
  clear h
  by_cases h8 : 8000 < t.size
  · rw [if_pos h8]
    have d8 : (8000 : Int) < (t.size : Int) := by omega
    obtain ⟨wi, vs, va, vr, ak⟩ := p
    unfold lpC at hN0 hN1 hbW hsW ⊢
    dsimp only at *
    clear hN0 hN1 hbW hsW C1 C2
    generalize L.length = n at *
    go_enter Try.func10, Try.ntmps10
    go_wp2
    refine bodyPost_ret (v := .agg (loC lpZero (.slice none 0 0) (.slice none 0 0) (.slice none 0 0) 2)) (by simp [results, Try.results10, go_sem, loC, lpZero]) rfl ?_
    exact ⟨.slice none 0 0, .slice none 0 0, .slice none 0 0, rfl, holdsR_nil _, holdsN_nil _ _ _, holdsS_nil _ _ _, (fun g hg => by cases hg), (fun g hg => by cases hg), (fun g hg => by cases hg), ((Below.refl _ _).alloc (Nat.le_refl _) _).alloc (by simp) _⟩
  rw [if_neg h8]
  have d8 : ¬ ((8000 : Int) < (t.size : Int)) := by omega
  cases hk : lpOk p L
  · rw [if_neg (by simp)]
    rw [hk] at C1
    clear hk C2
    generalize L.length = n at *
    obtain ⟨wi, vs, va, vr, ak⟩ := p
    unfold lpC at hN0 hN1 hbW hsW C1 ⊢
    dsimp only at *
    have H0 := hide (And.intro hN0 (And.intro hN1 (And.intro hbW hsW)))
    clear hN0 hN1 hbW hsW
    go_enter Try.func10, Try.ntmps10
    go_wp2_with fail
    refine (unhide C1 _ (unhide H0).2.2.1).mono ?_
    rintro e w1 ⟨rfl, hb1⟩
    have k00 := (hb1.block w.heap.size (Array.getElem?_eq_some_iff.1 (unhide H0).1).1).trans (unhide H0).1
    have k0 := (hb1.block (w.heap.size + 1) (Array.getElem?_eq_some_iff.1 (unhide H0).2.1).1).trans (unhide H0).2.1
    have hB1 := (unhide H0).2.2.1.trans (hb1.mono (unhide H0).2.2.1.size)
    obtain ⟨b0, b1, b2, b3, b4, b5⟩ := row6l k00
    obtain ⟨r0, r1, r2, r3, r4, r5, r6, r7, r8⟩ := row9l k0
    obtain ⟨f0, f1, f2, f3, f4, f5, f6, f7, f8⟩ := frz9l k0
    have HX := hide (And.intro k0 (And.intro hB1 k00))
    clear k00 k0 hB1 hb1 H0 C1
    go_wp2
    obtain ⟨k0, hB1, _⟩ := unhide HX
    refine bodyPost_ret (v := .agg (loC lpZero (.slice none 0 0) (.slice none 0 0) (.slice none 0 0) 1)) (by simp [results, Try.results10, asAddr, loC, lpZero, loadLo (set9_lo k0 _ _ _ _ _ _ _ _ _)]) rfl ?_
    exact AnsW.put (o := loErr 1) (holdsR_nil _) (holdsN_nil _ _ _) (holdsS_nil _ _ _) (fun g hg => by cases hg) (fun g hg => by cases hg) (fun g hg => by cases hg) hB1 k0 (by omega) _ _ _ _ _ _ _ _ _
  rw [hk] at C1
  by_cases h2 : ¬ t.size ≤ 200
  · rw [if_neg (fun e => h2 e.2)]
    have d2 : (200 : Int) < (t.size : Int) := by omega
    clear hk C2
    generalize L.length = n at *
    obtain ⟨wi, vs, va, vr, ak⟩ := p
    unfold lpC at hN0 hN1 hbW hsW C1 ⊢
    dsimp only at *
    have H0 := hide (And.intro hN0 (And.intro hN1 (And.intro hbW hsW)))
    clear hN0 hN1 hbW hsW
    go_enter Try.func10, Try.ntmps10
    go_wp2_with fail
    refine (unhide C1 _ (unhide H0).2.2.1).mono ?_
    rintro e w1 ⟨rfl, hb1⟩
    have k00 := (hb1.block w.heap.size (Array.getElem?_eq_some_iff.1 (unhide H0).1).1).trans (unhide H0).1
    have k0 := (hb1.block (w.heap.size + 1) (Array.getElem?_eq_some_iff.1 (unhide H0).2.1).1).trans (unhide H0).2.1
    have hB1 := (unhide H0).2.2.1.trans (hb1.mono (unhide H0).2.2.1.size)
    obtain ⟨b0, b1, b2, b3, b4, b5⟩ := row6l k00
    obtain ⟨r0, r1, r2, r3, r4, r5, r6, r7, r8⟩ := row9l k0
    obtain ⟨f0, f1, f2, f3, f4, f5, f6, f7, f8⟩ := frz9l k0
    have HX := hide (And.intro k0 (And.intro hB1 k00))
    clear k00 k0 hB1 hb1 H0 C1
    go_wp2
    obtain ⟨k0, hB1, _⟩ := unhide HX
    refine bodyPost_ret (v := .agg (loC lpZero (.slice none 0 0) (.slice none 0 0) (.slice none 0 0) 1)) (by simp [results, Try.results10, asAddr, loC, lpZero, loadLo (set9_lo k0 _ _ _ _ _ _ _ _ _)]) rfl ?_
    exact AnsW.put (o := loErr 1) (holdsR_nil _) (holdsN_nil _ _ _) (holdsS_nil _ _ _) (fun g hg => by cases hg) (fun g hg => by cases hg) (fun g hg => by cases hg) hB1 k0 (by omega) _ _ _ _ _ _ _ _ _
  replace h2 : t.size ≤ 200 := by omega
  rw [if_pos ⟨rfl, h2⟩]
  have d2 : ¬ ((200 : Int) < (t.size : Int)) := by omega
  by_cases h20 : L.length = 20
  · rw [if_pos h20]
    clear hk C2
    rw [h20] at hN0 hN1 hbW hsW C1 ⊢
    obtain ⟨wi, vs, va, vr, ak⟩ := p
    unfold lpC at hN0 hN1 hbW hsW C1 ⊢
    dsimp only at *
    have H0 := hide (And.intro hN0 (And.intro hN1 (And.intro hbW hsW)))
    clear hN0 hN1 hbW hsW
    go_enter Try.func10, Try.ntmps10
    go_wp2_with fail
    refine (unhide C1 _ (unhide H0).2.2.1).mono ?_
    rintro e w1 ⟨rfl, hb1⟩
    have k00 := (hb1.block w.heap.size (Array.getElem?_eq_some_iff.1 (unhide H0).1).1).trans (unhide H0).1
    have k0 := (hb1.block (w.heap.size + 1) (Array.getElem?_eq_some_iff.1 (unhide H0).2.1).1).trans (unhide H0).2.1
    have hB1 := (unhide H0).2.2.1.trans (hb1.mono (unhide H0).2.2.1.size)
    obtain ⟨b0, b1, b2, b3, b4, b5⟩ := row6l k00
    obtain ⟨r0, r1, r2, r3, r4, r5, r6, r7, r8⟩ := row9l k0
    obtain ⟨f0, f1, f2, f3, f4, f5, f6, f7, f8⟩ := frz9l k0
    have HX := hide (And.intro k0 (And.intro hB1 k00))
    clear k00 k0 hB1 hb1 H0 C1
    go_wp2
    obtain ⟨k0, hB1, _⟩ := unhide HX
    refine bodyPost_ret (v := .agg (loC lpZero (.slice none 0 0) (.slice none 0 0) (.slice none 0 0) 7)) (by simp [results, Try.results10, asAddr, loC, lpZero, loadLo (set9_lo k0 _ _ _ _ _ _ _ _ _)]) rfl ?_
    exact AnsW.put (o := loErr 7) (holdsR_nil _) (holdsN_nil _ _ _) (holdsS_nil _ _ _) (fun g hg => by cases hg) (fun g hg => by cases hg) (fun g hg => by cases hg) hB1 k0 (by omega) _ _ _ _ _ _ _ _ _
  rw [if_neg h20]
  have l20 := (lpRt hk).l20
  have d20 : ¬ ((20 : Int) ≤ (L.length : Int)) := by omega
  clear hk
  obtain ⟨wi, vs, va, vr, ak⟩ := p
  unfold lpC at hN0 hN1 hbW hsW C1 C2 ⊢
  dsimp only at *
  have H0 := hide (And.intro hN0 (And.intro hN1 (And.intro hbW hsW)))
  clear hN0 hN1 hbW hsW
  generalize hn : L.length = n at *
  go_enter Try.func10, Try.ntmps10
  go_wp2_with fail
  refine (unhide C1 _ (unhide H0).2.2.1).mono ?_
  rintro e w1 ⟨rfl, hb1⟩
  have k00 := (hb1.block w.heap.size (Array.getElem?_eq_some_iff.1 (unhide H0).1).1).trans (unhide H0).1
  have k0 := (hb1.block (w.heap.size + 1) (Array.getElem?_eq_some_iff.1 (unhide H0).2.1).1).trans (unhide H0).2.1
  have hB1 := (unhide H0).2.2.1.trans (hb1.mono (unhide H0).2.2.1.size)
  obtain ⟨b0, b1, b2, b3, b4, b5⟩ := row6l k00
  obtain ⟨r0, r1, r2, r3, r4, r5, r6, r7, r8⟩ := row9l k0
  obtain ⟨f0, f1, f2, f3, f4, f5, f6, f7, f8⟩ := frz9l k0
  have HX := hide (And.intro k0 (And.intro hB1 k00))
  clear k00 k0 hB1 hb1 H0 C1
  go_wp2_with fail
  refine (unhide C2 _ (unhide HX).2.1).mono ?_
  rintro e w2 ⟨ua, uc, rfl, ho, hb2⟩
  have k1 := (hb2.block (w.heap.size + 1) (Array.getElem?_eq_some_iff.1 (unhide HX).1).1).trans (unhide HX).1
  have hbW := (unhide HX).2.1.trans (hb2.mono (unhide HX).2.1.size)
  have hl1 : w.heap.size + 1 < w2.heap.size := (Array.getElem?_eq_some_iff.1 k1).1
  have kN := heap_alloc_new w2 (.cells #[.int .i64 wi, .int .i64 vs, .int .i64 va, .int .i64 vr, .slice ua n uc, .bool ak] 25)
  have hbN : Below w2.heap.size w2 (w2.alloc (.cells #[.int .i64 wi, .int .i64 vs, .int .i64 va, .int .i64 vr, .slice ua n uc, .bool ak] 25)) := (Below.refl _ _).alloc (Nat.le_refl _) _
  have ho' : w2.ownsRow w.heap.size 9 1 (.slice ua n uc) n (scells L) := ⟨ho.1, ho.2.imp id fun ⟨g, cap, cur, a1, a2, a3⟩ => ⟨g, cap, cur, a1, by have := (unhide HX).2.1.size; omega, a3⟩⟩
  have ho2 := own_at ho' (w' := w2.alloc (.cells #[.int .i64 wi, .int .i64 vs, .int .i64 va, .int .i64 vr, .slice ua n uc, .bool ak] 25)) (fun g _ _ e => hbN.block g (Array.getElem?_eq_some_iff.1 e).1)
  have HY := hide (And.intro ho2 (And.intro ((hbN.block _ hl1).trans k1) (And.intro (hbW.trans (hbN.mono hbW.size)) kN)))
  clear k1 hbW ho hb2 C2 kN hbN ho' ho2 HX b0 b1 b2 b3 b4 b5 r0 r1 r2 r3 r4 r5 r6 r7 r8 f0 f1 f2 f3 f4 f5 f6 f7 f8
  go_upto_region 8 with fail
  refine gen_world (fun q => q.ownsRow w.heap.size 9 1 (.slice ua n uc) n (scells L) ∧ q.heap[w.heap.size + 1]? = some (.cells #[.int .i64 0, .int .i64 0, .int .i64 0, .int .i64 0, .slice none 0 0, .bool false, .slice none 0 0, .slice none 0 0, .int .i64 0] 35) ∧ Below w.heap.size w q ∧ q.heap[w2.heap.size]? = some (.cells #[.int .i64 wi, .int .i64 vs, .int .i64 va, .int .i64 vr, .slice ua n uc, .bool ak] 25)) (unhide HY) ?_
  clear HY
  rintro q ⟨q1, q2, q3, q4⟩
  obtain ⟨a0, a1, a2, a3, a4, a5⟩ := row6l q4
  have HQ := hide (And.intro q1 (And.intro q2 (And.intro q3 q4)))
  clear q1 q2 q3 q4
  go_upto_region 9 with (first
    | (at_builtin; refine append_txt rfl _ _ rfl w.heap.size _ L n hn rfl (unhide HQ).1 t rfl (by omega) (unhide HQ).2.2.1.size ?_; rintro v4 w4 ho4 hg4
       obtain ⟨ua4, uc4, rfl⟩ := own_form ho4
       have hB4 : Below w.heap.size w w4 := ((unhide HQ).2.2.1.alloc (unhide HQ).2.2.1.size _).grown hg4 (by simp; have := (unhide HQ).2.2.1.size; omega) (fun k hk => (World.ownsRow.lt (unhide HQ).1 k hk).1)
       have kk : ∀ (k : Nat) (cur : Array Value) (T : TypeId), T ≠ 9 → q.heap[k]? = some (.cells cur T) → w4.heap[k]? = some (.cells cur T) := fun k cur T hT h1 => by
         have hlt := (Array.getElem?_eq_some_iff.1 h1).1
         refine (hg4.block k (by simp; omega) (fun e => ?_)).trans ((Below.heap_alloc _ _ _ hlt).trans h1)
         rcases (unhide HQ).1.2 with ⟨e1, _⟩ | ⟨g, cap, cur', e1, _, e3, _⟩
         · rw [e1] at e; cases e
         · rw [e1] at e
           have e' : k = g := Option.some.inj e
           rw [e', e3] at h1
           cases h1
           exact hT rfl
       have m1 := kk _ _ _ (by decide) (unhide HQ).2.1
       have m2 := kk _ _ _ (by decide) (unhide HQ).2.2.2
       have g4 : w4.cell? ⟨w2.heap.size, 4, none⟩ = some (.slice ua n uc) := (row6l m2).2.2.2.2.1
       have p4 := frz m2 4
       have ho5 : HoldsR (w4.setCell ⟨w2.heap.size, 4, none⟩ (.slice ua4 (n + 1) uc4)) (.slice ua4 (n + 1) uc4) (L ++ [t]) := (HoldsR.own (L := L ++ [t]) (by rw [List.length_append, hn]; exact ho4)).other (fun g cur _ e => heap_setCell_other _ _ _ _ (fun e0 => by rw [e0] at e; have e := e.symm.trans m2; cases e))
       have hlo : ∀ g, (Value.slice ua4 (n + 1) uc4).ownBlock = some g → w.heap.size ≤ g := fun g hg => (ho4.lt g hg).1
       have HZ := hide (And.intro ho5 (And.intro ((heap_setCell_other w4 ⟨w2.heap.size, 4, none⟩ (w.heap.size + 1) (.slice ua4 (n + 1) uc4) (by show w.heap.size + 1 ≠ w2.heap.size; omega)).trans m1) (And.intro (hB4.setCell (p := ⟨w2.heap.size, 4, none⟩) (by show w.heap.size ≤ w2.heap.size; omega) (.slice ua4 (n + 1) uc4)) (And.intro (heap_setCell_same _ _ 4 _ _ (.slice ua4 (n + 1) uc4) m2) hlo))))
       clear ho4 hg4 hB4 kk m1 m2 ho5 hlo HQ a0 a1 a2 a3 a4 a5))
  refine gen_world (fun q => HoldsR q (.slice ua4 (n + 1) uc4) (L ++ [t]) ∧ q.heap[w.heap.size + 1]? = some (.cells #[.int .i64 0, .int .i64 0, .int .i64 0, .int .i64 0, .slice none 0 0, .bool false, .slice none 0 0, .slice none 0 0, .int .i64 0] 35) ∧ Below w.heap.size w q ∧ q.heap[w2.heap.size]? = some (.cells #[.int .i64 wi, .int .i64 vs, .int .i64 va, .int .i64 vr, .slice ua4 (n + 1) uc4, .bool ak] 25)) ⟨(unhide HZ).1, (unhide HZ).2.1, (unhide HZ).2.2.1, (unhide HZ).2.2.2.1⟩ ?_
  clear g4 p4
  rintro q' ⟨q1, q2, q3, q4⟩
  obtain ⟨c0, c1, c2, c3, c4, c5⟩ := row6l q4
  obtain ⟨r0, r1, r2, r3, r4, r5, r6, r7, r8⟩ := row9l q2
  obtain ⟨f0, f1, f2, f3, f4, f5, f6, f7, f8⟩ := frz9l q2
  have HV := hide (And.intro (unhide HZ).2.2.2.2 (And.intro q1 (And.intro q2 q3)))
  have n2 : ¬ (w.heap.size + 1 = w2.heap.size) := by omega
  have n4 : ¬ (w2.heap.size = w.heap.size + 1) := by omega
  clear q1 q2 q3 q4 HZ
  go_wp2_with fail
  obtain ⟨hlo, q1, q2, q3⟩ := unhide HV
  refine bodyPost_ret (v := .agg (loC ⟨wi, vs, va, vr, ak⟩ (.slice ua4 (n + 1) uc4) (.slice none 0 0) (.slice none 0 0) 0)) (by simp [results, Try.results10, asAddr, loC, loadLo (set9_lo q2 _ _ _ _ _ _ _ _ _)]) rfl ?_
  exact AnsW.put (o := ⟨⟨wi, vs, va, vr, ak⟩, L ++ [t], [], [], 0⟩) q1 (holdsN_nil _ _ _) (holdsS_nil _ _ _) hlo (fun g hg => by cases hg) (fun g hg => by cases hg) q3 q2 (by omega) _ _ _ _ _ _ _ _ _
end Go.Proofs.Ytjgnldkncoighaa
