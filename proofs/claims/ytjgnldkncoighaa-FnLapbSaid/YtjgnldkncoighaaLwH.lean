/- The program's LapbHear; what lay in memory stands. -/
import Derived.Test.YtjgnldkncoighaaLwE
namespace Go.Proofs.Ytjgnldkncoighaa
open Go.RowKit
set_option maxHeartbeats 16000000 in
set_option linter.unusedSimpArgs false in
theorem iHearL (p : Lp) (x : Option Addr) (y : Nat) (L : List ByteArray) (f : Nb) (w : World) (hl : L.length ≤ 1048576) (h : HoldsS w (.slice x L.length y) L) :
    Calls Try.prog 14 #[.agg (lpC p (.slice x L.length y)), nbV f] w fun e q => AnsL w (hearLF p L f) e q := by
  have C1 := hide fun W (hb : Below w.heap.size w W) => iLpRight p x y L W hl (h.below hb)
  have C0 := hide fun W => iNbRight f W
  obtain ⟨hN0, hN1, hN2, hbW, hsW⟩ := new3l w (.cells (lpC p (.slice x L.length y)) 25) (.cells #[.int .i64 f.kind, .int .i64 f.ns, .int .i64 f.nr, .string f.text] 30) (.cells #[.int .i64 0, .int .i64 0, .int .i64 0, .int .i64 0, .slice none 0 0, .bool false, .slice none 0 0, .slice none 0 0, .int .i64 0] 35)
  have HS := hide h
  unfold hearLF
  clear h
  cases hk : lpOk p L
  · rw [if_neg (by simp)]
    rw [hk] at C1
    clear HS hk C0
    generalize L.length = n at *
    obtain ⟨wi, vs, va, vr, ak⟩ := p
    obtain ⟨kf, nf, rf, t⟩ := f
    unfold lpC at hN0 hN1 hN2 hbW hsW C1 ⊢
    dsimp only [nbV] at *
    have H0 := hide (And.intro hN0 (And.intro hN1 (And.intro hN2 hbW)))
    clear hN0 hN1 hN2 hbW hsW
    go_enter Try.func14, Try.ntmps14
    go_wp2_with fail
    refine (unhide C1 _ (unhide H0).2.2.2).mono ?_
    rintro e w1 ⟨rfl, hb1⟩
    have H1 := hide (And.intro ((hb1.block _ (Array.getElem?_eq_some_iff.1 (unhide H0).1).1).trans (unhide H0).1) (And.intro ((hb1.block _ (Array.getElem?_eq_some_iff.1 (unhide H0).2.1).1).trans (unhide H0).2.1) (And.intro ((hb1.block _ (Array.getElem?_eq_some_iff.1 (unhide H0).2.2.1).1).trans (unhide H0).2.2.1) ((unhide H0).2.2.2.trans (hb1.mono (unhide H0).2.2.2.size)))))
    obtain ⟨b0, b1, b2, b3, b4, b5⟩ := row6l (unhide H1).1
    obtain ⟨m0, m1, m2, m3⟩ := row4h (unhide H1).2.1
    obtain ⟨r0, r1, r2, r3, r4, r5, r6, r7, r8⟩ := row9l (unhide H1).2.2.1
    obtain ⟨f0, f1, f2, f3, f4, f5, f6, f7, f8⟩ := frz9l (unhide H1).2.2.1
    clear hb1 H0 C1
    go_wp2
    obtain ⟨_, _, k2, hB1⟩ := unhide H1
    refine bodyPost_ret (v := .agg (loC lpZero (.slice none 0 0) (.slice none 0 0) (.slice none 0 0) 1)) (by simp [results, Try.results14, asAddr, loC, lpZero, loadLo (set9_lo k2 _ _ _ _ _ _ _ _ _)]) rfl ?_
    exact ⟨.slice none 0 0, .slice none 0 0, .slice none 0 0, rfl, World.ownsRow_nil _ _ _ _, World.ownsRow_nil _ _ _ _, World.ownsRow_nil _ _ _ _, (fun g hg => by cases hg), set9_bl hB1 (by omega) _ _ _ _ _ _ _ _ _⟩
  rw [hk] at C1
  cases hf : nbOk f
  · rw [if_neg (by simp)]
    rw [hf] at C0
    clear HS hk hf
    generalize L.length = n at *
    obtain ⟨wi, vs, va, vr, ak⟩ := p
    obtain ⟨kf, nf, rf, t⟩ := f
    unfold lpC at hN0 hN1 hN2 hbW hsW C1 ⊢
    dsimp only [nbV] at *
    have H0 := hide (And.intro hN0 (And.intro hN1 (And.intro hN2 hbW)))
    clear hN0 hN1 hN2 hbW hsW
    go_enter Try.func14, Try.ntmps14
    go_wp2_with fail
    refine (unhide C1 _ (unhide H0).2.2.2).mono ?_
    rintro e w1 ⟨rfl, hb1⟩
    have H1 := hide (And.intro ((hb1.block _ (Array.getElem?_eq_some_iff.1 (unhide H0).1).1).trans (unhide H0).1) (And.intro ((hb1.block _ (Array.getElem?_eq_some_iff.1 (unhide H0).2.1).1).trans (unhide H0).2.1) (And.intro ((hb1.block _ (Array.getElem?_eq_some_iff.1 (unhide H0).2.2.1).1).trans (unhide H0).2.2.1) ((unhide H0).2.2.2.trans (hb1.mono (unhide H0).2.2.2.size)))))
    obtain ⟨b0, b1, b2, b3, b4, b5⟩ := row6l (unhide H1).1
    obtain ⟨m0, m1, m2, m3⟩ := row4h (unhide H1).2.1
    clear hb1 H0 C1
    go_wp2_with fail
    refine (unhide C0 _).mono ?_
    rintro e w2 ⟨rfl, hb1⟩
    have H2 := hide (And.intro ((hb1.block _ (Array.getElem?_eq_some_iff.1 (unhide H1).1).1).trans (unhide H1).1) (And.intro ((hb1.block _ (Array.getElem?_eq_some_iff.1 (unhide H1).2.1).1).trans (unhide H1).2.1) (And.intro ((hb1.block _ (Array.getElem?_eq_some_iff.1 (unhide H1).2.2.1).1).trans (unhide H1).2.2.1) ((unhide H1).2.2.2.trans (hb1.mono (unhide H1).2.2.2.size)))))
    clear b0 b1 b2 b3 b4 b5 m0 m1 m2 m3
    obtain ⟨b0, b1, b2, b3, b4, b5⟩ := row6l (unhide H2).1
    obtain ⟨m0, m1, m2, m3⟩ := row4h (unhide H2).2.1
    obtain ⟨r0, r1, r2, r3, r4, r5, r6, r7, r8⟩ := row9l (unhide H2).2.2.1
    obtain ⟨f0, f1, f2, f3, f4, f5, f6, f7, f8⟩ := frz9l (unhide H2).2.2.1
    clear hb1 H1 C0
    go_wp2
    obtain ⟨_, _, k2, hB1⟩ := unhide H2
    refine bodyPost_ret (v := .agg (loC lpZero (.slice none 0 0) (.slice none 0 0) (.slice none 0 0) 1)) (by simp [results, Try.results14, asAddr, loC, lpZero, loadLo (set9_lo k2 _ _ _ _ _ _ _ _ _)]) rfl ?_
    exact ⟨.slice none 0 0, .slice none 0 0, .slice none 0 0, rfl, World.ownsRow_nil _ _ _ _, World.ownsRow_nil _ _ _ _, World.ownsRow_nil _ _ _ _, (fun g hg => by cases hg), set9_bl hB1 (by omega) _ _ _ _ _ _ _ _ _⟩
  rw [hf] at C0
  rw [if_pos ⟨rfl, rfl⟩]
  have hr := lpRt hk
  have hfr := of_decide_eq_true hf
  have CA := hide fun v => iFar f.nr p.va hfr.1 hr.va v
  have CB := hide fun v => iFar p.vs p.va hr.vs hr.va v
  obtain ⟨l1, u1⟩ := far_lt f.nr p.va
  obtain ⟨l2, u2⟩ := far_lt p.vs p.va
  by_cases hg : far p.vs p.va < far f.nr p.va
  · rw [if_pos hg]
    clear HS hk hf hr hfr
    generalize hfa : far f.nr p.va = fa at *
    generalize hfb : far p.vs p.va = fb at *
    clear hfa hfb
    generalize L.length = n at *
    obtain ⟨wi, vs, va, vr, ak⟩ := p
    obtain ⟨kf, nf, rf, t⟩ := f
    unfold lpC at hN0 hN1 hN2 hbW hsW C1 ⊢
    dsimp only [nbV] at *
    have H0 := hide (And.intro hN0 (And.intro hN1 (And.intro hN2 hbW)))
    clear hN0 hN1 hN2 hbW hsW
    go_enter Try.func14, Try.ntmps14
    go_wp2_with fail
    refine (unhide C1 _ (unhide H0).2.2.2).mono ?_
    rintro e w1 ⟨rfl, hb1⟩
    have H1 := hide (And.intro ((hb1.block _ (Array.getElem?_eq_some_iff.1 (unhide H0).1).1).trans (unhide H0).1) (And.intro ((hb1.block _ (Array.getElem?_eq_some_iff.1 (unhide H0).2.1).1).trans (unhide H0).2.1) (And.intro ((hb1.block _ (Array.getElem?_eq_some_iff.1 (unhide H0).2.2.1).1).trans (unhide H0).2.2.1) ((unhide H0).2.2.2.trans (hb1.mono (unhide H0).2.2.2.size)))))
    obtain ⟨b0, b1, b2, b3, b4, b5⟩ := row6l (unhide H1).1
    obtain ⟨m0, m1, m2, m3⟩ := row4h (unhide H1).2.1
    clear hb1 H0 C1
    go_wp2_with fail
    refine (unhide C0 _).mono ?_
    rintro e w2 ⟨rfl, hb1⟩
    have H2 := hide (And.intro ((hb1.block _ (Array.getElem?_eq_some_iff.1 (unhide H1).1).1).trans (unhide H1).1) (And.intro ((hb1.block _ (Array.getElem?_eq_some_iff.1 (unhide H1).2.1).1).trans (unhide H1).2.1) (And.intro ((hb1.block _ (Array.getElem?_eq_some_iff.1 (unhide H1).2.2.1).1).trans (unhide H1).2.2.1) ((unhide H1).2.2.2.trans (hb1.mono (unhide H1).2.2.2.size)))))
    clear b0 b1 b2 b3 b4 b5 m0 m1 m2 m3
    obtain ⟨b0, b1, b2, b3, b4, b5⟩ := row6l (unhide H2).1
    obtain ⟨m0, m1, m2, m3⟩ := row4h (unhide H2).2.1
    obtain ⟨r0, r1, r2, r3, r4, r5, r6, r7, r8⟩ := row9l (unhide H2).2.2.1
    obtain ⟨f0, f1, f2, f3, f4, f5, f6, f7, f8⟩ := frz9l (unhide H2).2.2.1
    clear hb1 H1 C0
    go_wp2_with fail
    go_quiet (first
      | (go_at_call 39; exact Calls.quiet_of_same (unhide CA _))
      | (go_at_call 39; exact Calls.quiet_of_same (unhide CB _)))
    go_wp2
    obtain ⟨_, _, k2', hB0⟩ := unhide H2
    have k2 : (w2.drewN nq).heap[w.heap.size + 1 + 1]? = _ := k2'
    have hB1 : Below w.heap.size w (w2.drewN nq) := ⟨hB0.os, hB0.tape, hB0.output, hB0.size, hB0.block⟩
    refine bodyPost_ret (v := .agg (loC lpZero (.slice none 0 0) (.slice none 0 0) (.slice none 0 0) 5)) (by simp [results, Try.results14, asAddr, loC, lpZero, loadLo (set9_lo k2 _ _ _ _ _ _ _ _ _)]) rfl ?_
    exact ⟨.slice none 0 0, .slice none 0 0, .slice none 0 0, rfl, World.ownsRow_nil _ _ _ _, World.ownsRow_nil _ _ _ _, World.ownsRow_nil _ _ _ _, (fun g hg => by cases hg), set9_bl hB1 (by omega) _ _ _ _ _ _ _ _ _⟩
  rw [if_neg hg]
  exact iHearM p x y L f w hl (unhide HS) hk hf (by omega)
end Go.Proofs.Ytjgnldkncoighaa
