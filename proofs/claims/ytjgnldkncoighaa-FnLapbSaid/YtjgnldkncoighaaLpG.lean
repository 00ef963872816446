/- The model's LapbAgain; what lay in memory stands. -/
import Derived.Test.YtjgnldkncoighaaLpM
namespace Go.Proofs.Ytjgnldkncoighaa
open Go.RowKit
/-- The model's answer is laid in the result's block. -/
theorem AnsW.put {w q : World} {o : LO} {v vf vg : Value} {R : Nat} {cs : Array Value}
    (h1 : HoldsR q v o.Q) (h2 : HoldsN q vf o.sn) (h3 : HoldsS q vg o.gt) (l1 : ∀ g, v.ownBlock = some g → w.heap.size ≤ g) (l2 : ∀ g, vf.ownBlock = some g → w.heap.size ≤ g) (l3 : ∀ g, vg.ownBlock = some g → w.heap.size ≤ g)
    (hb : Below w.heap.size w q) (hR : q.heap[R]? = some (.cells cs 35)) (hRw : w.heap.size ≤ R) (x0 x1 x2 x3 x4 x5 x6 x7 x8 : Value) :
    AnsW w o (.returned (.agg (loC o.p v vf vg o.cd))) (((((((((q.setCell ⟨R, 0, none⟩ x0).setCell ⟨R, 1, none⟩ x1).setCell ⟨R, 2, none⟩ x2).setCell ⟨R, 3, none⟩ x3).setCell ⟨R, 4, none⟩ x4).setCell ⟨R, 5, none⟩ x5).setCell ⟨R, 6, none⟩ x6).setCell ⟨R, 7, none⟩ x7).setCell ⟨R, 8, none⟩ x8) := by
  refine ⟨v, vf, vg, rfl, h1.other (fun g cur _ e => set9_ot ?_ _ _ _ _ _ _ _ _ _), h2.other (fun g cur _ e => set9_ot ?_ _ _ _ _ _ _ _ _ _), h3.other (fun g cur _ e => set9_ot ?_ _ _ _ _ _ _ _ _ _), l1, l2, l3, set9_bl hb hRw _ _ _ _ _ _ _ _ _⟩
  all_goals
    intro e0
    rw [e0, hR] at e
    cases e
set_option maxHeartbeats 8000000 in
theorem sAgain (p : Lp) (x : Option Addr) (y : Nat) (L : List ByteArray) (w : World) (hl : L.length ≤ 1048576) (h : HoldsS w (.slice x L.length y) L) :
    Calls Try.prog 13 #[.agg (lpC p (.slice x L.length y))] w fun e q => AnsW w (againF p L) e q := by
  have C1 := hide fun W (hb : Below w.heap.size w W) => sLpRight p x y L W hl (h.below hb)
  have C2 := hide fun W (hb : Below w.heap.size w W) => sCopyL p x y L W hl (h.below hb)
  obtain ⟨hN0, hN1, hbW, hsW⟩ := new2l w (.cells (lpC p (.slice x L.length y)) 25) (.cells #[.int .i64 0, .int .i64 0, .int .i64 0, .int .i64 0, .slice none 0 0, .bool false, .slice none 0 0, .slice none 0 0, .int .i64 0] 35)
  unfold againF
  clear h
  cases hk : lpOk p L
  · rw [if_neg (by decide)]
    rw [hk] at C1
    obtain ⟨wi, vs, va, vr, ak⟩ := p
    unfold lpC at hN0 hN1 hbW hsW C1 ⊢
    dsimp only at *
    have H0 := hide (And.intro hN1 hbW)
    clear hN0 hN1 hbW hsW hk C2
    generalize L.length = n at *
    go_enter Try.func13, Try.ntmps13
    go_wp2_with fail
    refine (unhide C1 _ (unhide H0).2).mono ?_
    rintro e w1 ⟨rfl, hb1⟩
    have k0 := (hb1.block (w.heap.size + 1) (Array.getElem?_eq_some_iff.1 (unhide H0).1).1).trans (unhide H0).1
    have hB1 := (unhide H0).2.trans (hb1.mono (unhide H0).2.size)
    obtain ⟨r0, r1, r2, r3, r4, r5, r6, r7, r8⟩ := row9l k0
    obtain ⟨f0, f1, f2, f3, f4, f5, f6, f7, f8⟩ := frz9l k0
    have HX := hide (And.intro k0 hB1)
    clear k0 hB1 hb1 H0 C1
    go_wp2
    obtain ⟨k0, hB1⟩ := unhide HX
    refine bodyPost_ret (v := .agg (loC lpZero (.slice none 0 0) (.slice none 0 0) (.slice none 0 0) 1)) (by simp [results, Try.results13, asAddr, loC, lpZero, loadLo (set9_lo k0 _ _ _ _ _ _ _ _ _)]) rfl ?_
    exact AnsW.put (o := loErr 1) (holdsR_nil _) (holdsN_nil _ _ _) (holdsS_nil _ _ _) (fun g hg => by cases hg) (fun g hg => by cases hg) (fun g hg => by cases hg) hB1 k0 (by omega) _ _ _ _ _ _ _ _ _
  · rw [if_pos rfl]
    rw [hk] at C1
    obtain ⟨wi, vs, va, vr, ak⟩ := p
    unfold lpC at hN0 hN1 hbW hsW C1 C2 ⊢
    dsimp only at *
    have H0 := hide (And.intro hN0 (And.intro hN1 (And.intro hbW hsW)))
    clear hN0 hN1 hbW hsW hk
    generalize hn : L.length = n at *
    go_enter Try.func13, Try.ntmps13
    go_wp2_with fail
    refine (unhide C1 _ (unhide H0).2.2.1).mono ?_
    rintro e w1 ⟨rfl, hb1⟩
    have k0 := (hb1.block w.heap.size (Array.getElem?_eq_some_iff.1 (unhide H0).1).1).trans (unhide H0).1
    have k1 := (hb1.block (w.heap.size + 1) (Array.getElem?_eq_some_iff.1 (unhide H0).2.1).1).trans (unhide H0).2.1
    have hbW := (unhide H0).2.2.1.trans (hb1.mono (unhide H0).2.2.1.size)
    obtain ⟨a0, a1, a2, a3, a4, a5⟩ := row6l k0
    have H1 := hide (And.intro k0 (And.intro k1 hbW))
    clear k0 k1 hbW hb1 H0 C1
    go_wp2_with fail
    refine (unhide C2 _ (unhide H1).2.2).mono ?_
    rintro e w2 ⟨ua, uc, rfl, ho, hb2⟩
    have k0 := (hb2.block w.heap.size (Array.getElem?_eq_some_iff.1 (unhide H1).1).1).trans (unhide H1).1
    have k1 := (hb2.block (w.heap.size + 1) (Array.getElem?_eq_some_iff.1 (unhide H1).2.1).1).trans (unhide H1).2.1
    have hbW := (unhide H1).2.2.trans (hb2.mono (unhide H1).2.2.size)
    have hl0 : w.heap.size < w2.heap.size := (Array.getElem?_eq_some_iff.1 k0).1
    have hl1 : w.heap.size + 1 < w2.heap.size := (Array.getElem?_eq_some_iff.1 k1).1
    have hlo : ∀ g, (Value.slice ua n uc).ownBlock = some g → w.heap.size ≤ g := fun g hg => by have := (ho.lt g hg).1; have := (unhide H1).2.2.size; omega
    have hS : HoldsR w2 (.slice ua n uc) L := by
      have := HoldsR.own (L := L) (by rw [hn]; exact ho)
      exact this
    clear a0 a1 a2 a3 a4 a5
    obtain ⟨a0, a1, a2, a3, a4, a5⟩ := row6l k0
    obtain ⟨r0, r1, r2, r3, r4, r5, r6, r7, r8⟩ := row9l k1
    obtain ⟨f0, f1, f2, f3, f4, f5, f6, f7, f8⟩ := frz9l k1
    have n1 : ¬ (w.heap.size = w2.heap.size) := by omega
    have n2 : ¬ (w.heap.size + 1 = w2.heap.size) := by omega
    have n3 : ¬ (w2.heap.size = w.heap.size) := by omega
    have n4 : ¬ (w2.heap.size = w.heap.size + 1) := by omega
    have kN := heap_alloc_new w2 (.cells #[.int .i64 wi, .int .i64 vs, .int .i64 va, .int .i64 vr, .slice ua n uc, .bool ak] 25)
    have hbN : Below w2.heap.size w2 (w2.alloc (.cells #[.int .i64 wi, .int .i64 vs, .int .i64 va, .int .i64 vr, .slice ua n uc, .bool ak] 25)) := (Below.refl _ _).alloc (Nat.le_refl _) _
    have HX := hide (And.intro hlo (And.intro (hS.below hbN) (And.intro ((hbN.block _ hl1).trans k1) (And.intro (hbW.trans (hbN.mono hbW.size)) (And.intro kN ((hbN.block _ hl0).trans k0))))))
    clear k0 k1 hbW ho hb2 H1 C2 hS hlo kN hbN
    go_upto_region 4 with fail
    refine gen_world (fun q => HoldsR q (.slice ua n uc) L ∧ q.heap[w.heap.size + 1]? = some (.cells #[.int .i64 0, .int .i64 0, .int .i64 0, .int .i64 0, .slice none 0 0, .bool false, .slice none 0 0, .slice none 0 0, .int .i64 0] 35) ∧ Below w.heap.size w q ∧ q.heap[w2.heap.size]? = some (.cells #[.int .i64 wi, .int .i64 vs, .int .i64 va, .int .i64 vr, .slice ua n uc, .bool ak] 25) ∧ q.heap[w.heap.size]? = some (.cells #[.int .i64 wi, .int .i64 vs, .int .i64 va, .int .i64 vr, .slice x n y, .bool ak] 25)) (unhide HX).2 ?_
    clear a0 a1 a2 a3 a4 a5 r0 r1 r2 r3 r4 r5 r6 r7 r8 f0 f1 f2 f3 f4 f5 f6 f7 f8
    rintro q ⟨q1, q2, q3, q4, q5⟩
    obtain ⟨a0, a1, a2, a3, a4, a5⟩ := row6l q5
    obtain ⟨c0, c1, c2, c3, c4, c5⟩ := row6l q4
    have p1 := frz q4 1
    have HY := hide (And.intro (unhide HX).1 (And.intro (q1.other (w' := q.setCell ⟨w2.heap.size, 1, none⟩ (.int .i64 va)) (fun g cur _ e => heap_setCell_other _ _ _ _ (fun e0 => by rw [e0] at e; have e := e.symm.trans q4; cases e))) (And.intro ((heap_setCell_other q ⟨w2.heap.size, 1, none⟩ (w.heap.size + 1) (.int .i64 va) n2).trans q2) (And.intro (q3.setCell (p := ⟨w2.heap.size, 1, none⟩) (Nat.le_of_lt hl0) (.int .i64 va)) (heap_setCell_same _ _ 1 _ _ (.int .i64 va) q4)))))
    clear q1 q2 q3 q4 q5 HX
    go_upto_region 5 with fail
    refine gen_world (fun q => HoldsR q (.slice ua n uc) L ∧ q.heap[w.heap.size + 1]? = some (.cells #[.int .i64 0, .int .i64 0, .int .i64 0, .int .i64 0, .slice none 0 0, .bool false, .slice none 0 0, .slice none 0 0, .int .i64 0] 35) ∧ Below w.heap.size w q ∧ q.heap[w2.heap.size]? = some (.cells #[.int .i64 wi, .int .i64 va, .int .i64 va, .int .i64 vr, .slice ua n uc, .bool ak] 25)) (unhide HY).2 ?_
    clear a0 a1 a2 a3 a4 a5 c0 c1 c2 c3 c4 c5 p1
    rintro q' ⟨q1, q2, q3, q4⟩
    obtain ⟨c0, c1, c2, c3, c4, c5⟩ := row6l q4
    obtain ⟨r0, r1, r2, r3, r4, r5, r6, r7, r8⟩ := row9l q2
    obtain ⟨f0, f1, f2, f3, f4, f5, f6, f7, f8⟩ := frz9l q2
    have HZ := hide (And.intro (unhide HY).1 (And.intro q1 (And.intro q2 q3)))
    clear q1 q2 q3 q4 HY
    go_wp2_with fail
    obtain ⟨hlo, q1, q2, q3⟩ := unhide HZ
    refine bodyPost_ret (v := .agg (loC ⟨wi, va, va, vr, ak⟩ (.slice ua n uc) (.slice none 0 0) (.slice none 0 0) 0)) (by simp [results, Try.results13, asAddr, loC, loadLo (set9_lo q2 _ _ _ _ _ _ _ _ _)]) rfl ?_
    exact AnsW.put (o := ⟨⟨wi, va, va, vr, ak⟩, L, [], [], 0⟩) q1 (holdsN_nil _ _ _) (holdsS_nil _ _ _) hlo (fun g hg => by cases hg) (fun g hg => by cases hg) q3 q2 (by omega) _ _ _ _ _ _ _ _ _
end Go.Proofs.Ytjgnldkncoighaa
