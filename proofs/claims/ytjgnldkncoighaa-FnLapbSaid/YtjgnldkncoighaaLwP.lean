/- LapbAgain, the program's; what lay in memory stands. -/
import Derived.Test.YtjgnldkncoighaaLwG
namespace Go.Proofs.Ytjgnldkncoighaa
open Go.RowKit
/-- What LapbAgain answers. -/
def againF (p : Lp) (L : List ByteArray) : LO := if lpOk p L = true then ⟨⟨p.wi, p.va, p.va, p.vr, p.ak⟩, L, [], [], 0⟩ else loErr 1
/-- The answer is laid in the result's block. -/
theorem AnsL.put {w W1 q : World} {o : LO} {v vf vg : Value} {R : Nat}
    (o1 : q.ownsRow W1.heap.size 9 1 v o.Q.length (scells o.Q)) (o2 : q.ownsRow W1.heap.size 30 4 vf o.sn.length (nbcells o.sn)) (o3 : q.ownsRow W1.heap.size 9 1 vg o.gt.length (scells o.gt))
    (hap : ∀ g, v.ownBlock = some g → vg.ownBlock ≠ some g) (lo : Below W1.heap.size W1 q) (hR : R < W1.heap.size) (hRw : w.heap.size ≤ R) (hb : Below w.heap.size w W1) (x0 x1 x2 x3 x4 x5 x6 x7 x8 : Value) :
    AnsL w o (.returned (.agg (loC o.p v vf vg o.cd))) (((((((((q.setCell ⟨R, 0, none⟩ x0).setCell ⟨R, 1, none⟩ x1).setCell ⟨R, 2, none⟩ x2).setCell ⟨R, 3, none⟩ x3).setCell ⟨R, 4, none⟩ x4).setCell ⟨R, 5, none⟩ x5).setCell ⟨R, 6, none⟩ x6).setCell ⟨R, 7, none⟩ x7).setCell ⟨R, 8, none⟩ x8) := by
  have hs := hb.size
  have low : ∀ {e : TypeId} {size n : Nat} {u : Value} {xs : List Value}, q.ownsRow W1.heap.size e size u n xs → (((((((((q.setCell ⟨R, 0, none⟩ x0).setCell ⟨R, 1, none⟩ x1).setCell ⟨R, 2, none⟩ x2).setCell ⟨R, 3, none⟩ x3).setCell ⟨R, 4, none⟩ x4).setCell ⟨R, 5, none⟩ x5).setCell ⟨R, 6, none⟩ x6).setCell ⟨R, 7, none⟩ x7).setCell ⟨R, 8, none⟩ x8).ownsRow w.heap.size e size u n xs := by
    intro e size n u xs h
    refine own_at ⟨h.1, h.2.imp id fun ⟨g, cap, cur, a1, a2, a3⟩ => ⟨g, cap, cur, a1, by omega, a3⟩⟩ (fun g _ hg _ => ?_)
    have := (h.lt g hg).1
    exact set9_ot (by omega) _ _ _ _ _ _ _ _ _
  exact ⟨v, vf, vg, rfl, low o1, low o2, low o3, hap, set9_bl (hb.trans (lo.mono hs)) hRw _ _ _ _ _ _ _ _ _⟩
set_option maxHeartbeats 8000000 in
theorem iAgain (p : Lp) (x : Option Addr) (y : Nat) (L : List ByteArray) (w : World) (hl : L.length ≤ 1048576) (h : HoldsS w (.slice x L.length y) L) :
    Calls Try.prog 12 #[.agg (lpC p (.slice x L.length y))] w fun e q => AnsL w (againF p L) e q := by
  have C1 := hide fun W (hb : Below w.heap.size w W) => iLpRight p x y L W hl (h.below hb)
  obtain ⟨hN0, hN1, hbW, hsW⟩ := new2l w (.cells (lpC p (.slice x L.length y)) 25) (.cells #[.int .i64 0, .int .i64 0, .int .i64 0, .int .i64 0, .slice none 0 0, .bool false, .slice none 0 0, .slice none 0 0, .int .i64 0] 35)
  have HS := hide h
  unfold againF
  clear h
  cases hk : lpOk p L
  · rw [if_neg (by decide)]
    rw [hk] at C1
    obtain ⟨wi, vs, va, vr, ak⟩ := p
    unfold lpC at hN0 hN1 hbW hsW C1 ⊢
    dsimp only at *
    have H0 := hide (And.intro hN1 hbW)
    clear hN0 hN1 hbW hsW HS hk
    generalize L.length = n at *
    go_enter Try.func12, Try.ntmps12
    go_wp2_with fail
    refine (unhide C1 _ (unhide H0).2).mono ?_
    rintro e w1 ⟨rfl, hb1⟩
    have k0 := (hb1.block (w.heap.size + 1) (Array.getElem?_eq_some_iff.1 (unhide H0).1).1).trans (unhide H0).1
    have hB1 := (unhide H0).2.trans (hb1.mono (unhide H0).2.size)
    obtain ⟨r0, r1, r2, r3, r4, r5, r6, r7, r8⟩ := row9l k0
    obtain ⟨f0, f1, f2, f3, f4, f5, f6, f7, f8⟩ := frz9l k0
    have HX := hide (And.intro k0 hB1)
    clear k0 hB1 hb1 H0 C1
    go_wp2
    obtain ⟨k0, hB1⟩ := unhide HX
    refine bodyPost_ret (v := .agg #[.int .i64 0, .int .i64 0, .int .i64 0, .int .i64 0, .slice none 0 0, .bool false, .slice none 0 0, .slice none 0 0, .int .i64 1]) (by simp [results, Try.results12, asAddr, loadLo (set9_lo k0 (.int .i64 0) (.int .i64 0) (.int .i64 0) (.int .i64 0) (.slice none 0 0) (.bool false) (.slice none 0 0) (.slice none 0 0) (.int .i64 1))]) rfl ?_
    exact ⟨.slice none 0 0, .slice none 0 0, .slice none 0 0, rfl, World.ownsRow_nil _ _ _ _, World.ownsRow_nil _ _ _ _, World.ownsRow_nil _ _ _ _, (fun g hg => by cases hg), set9_bl hB1 (by omega) _ _ _ _ _ _ _ _ _⟩
  · rw [if_pos rfl]
    rw [hk] at C1
    have hr := lpRt hk
    have hS7 : sentN p ≤ 7 := by have := sentN_eq (p := p); have := (far_lt p.vs p.va).2; omega
    have C2 := hide fun W (hb : Below w.heap.size w W) => iWorkOn p x y L W hr ((unhide HS).below hb)
    have HR := hide hr
    obtain ⟨wi, vs, va, vr, ak⟩ := p
    unfold lpC at hN0 hN1 hbW hsW C1 C2 ⊢
    dsimp only at *
    have H0 := hide (And.intro hN0 (And.intro hN1 (And.intro hbW hsW)))
    clear hN0 hN1 hbW hsW HS hk hr
    generalize hn : L.length = n at *
    go_enter Try.func12, Try.ntmps12
    go_wp2_with fail
    refine (unhide C1 _ (unhide H0).2.2.1).mono ?_
    rintro e w1 ⟨rfl, hb1⟩
    have k0 := (hb1.block w.heap.size (Array.getElem?_eq_some_iff.1 (unhide H0).1).1).trans (unhide H0).1
    have kR1 := (hb1.block (w.heap.size + 1) (Array.getElem?_eq_some_iff.1 (unhide H0).2.1).1).trans (unhide H0).2.1
    have hbW := (unhide H0).2.2.1.trans (hb1.mono (unhide H0).2.2.1.size)
    have hsW : w.heap.size + 2 ≤ w1.heap.size := by have := hb1.size; rw [(unhide H0).2.2.2] at this; exact this
    obtain ⟨a0, a1, a2, a3, a4, a5⟩ := row6l k0
    have H1 := hide (And.intro kR1 (And.intro hbW hsW))
    clear k0 kR1 hbW hsW hb1 H0 C1
    go_wp2_with fail
    refine (unhide C2 _ (unhide H1).2.1).mono ?_
    rintro e w2 ⟨rfl, vq, hL2⟩
    have C3 := hide (iGoBack hL2 (unhide HR).va (by rw [List.length_take]; omega) (by rw [List.length_drop]; have := (unhide HR).l20; omega))
    clear C2 a0 a1 a2 a3 a4 a5
    go_wp2_with fail
    refine (unhide C3).mono ?_
    rintro e w3 ⟨rfl, vq', hL3⟩
    have CO := hide (iOutL hL3 (unhide HR).va (by simp) (by rw [List.take_append_drop]; have := (unhide HR).l20; omega))
    clear C3 hL3
    rw [List.take_append_drop, List.nil_append] at CO
    go_wp2_with fail
    refine (unhide CO).mono ?_
    rintro e q5 ⟨v, vf, vg, rfl, o1, o2, o3, hap, lo5⟩
    obtain ⟨va1, vc1, rfl⟩ := own_form o1
    obtain ⟨va2, vc2, rfl⟩ := own_form o2
    obtain ⟨va3, vc3, rfl⟩ := own_form o3
    have kR := (lo5.block (w.heap.size + 1) (by have := (unhide H1).2.2; omega)).trans (unhide H1).1
    obtain ⟨r0, r1, r2, r3, r4, r5, r6, r7, r8⟩ := row9l kR
    obtain ⟨f0, f1, f2, f3, f4, f5, f6, f7, f8⟩ := frz9l kR
    have HX := hide (And.intro o1 (And.intro o2 (And.intro o3 (And.intro hap (And.intro lo5 kR)))))
    clear o1 o2 o3 hap lo5 kR CO
    dsimp only [loC]
    go_wp2_with fail
    obtain ⟨o1, o2, o3, hap, lo5, kR⟩ := unhide HX
    obtain ⟨_, hbW, hsW⟩ := unhide H1
    refine bodyPost_ret (v := .agg (loC ⟨wi, va, va, vr, ak⟩ (.slice va1 L.length vc1) (.slice va2 0 vc2) (.slice va3 0 vc3) 0)) (by simp [results, Try.results12, asAddr, loC, hn, loadLo (set9_lo kR _ _ _ _ _ _ _ _ _)]) rfl ?_
    exact AnsL.put (o := ⟨⟨wi, va, va, vr, ak⟩, L, [], [], 0⟩) o1 o2 o3 hap lo5 (by omega) (by omega) hbW _ _ _ _ _ _ _ _ _
end Go.Proofs.Ytjgnldkncoighaa
