/- LapbNext, the program's; what lay in memory stands. -/
import Derived.Test.YtjgnldkncoighaaLwN
namespace Go.Proofs.Ytjgnldkncoighaa
open Go.RowKit
/-- How many go out. -/
def nextM (p : Lp) (L : List ByteArray) : Nat := min (p.wi.toNat - sentN p) (L.length - sentN p)
/-- What LapbNext answers. -/
def nextF (p : Lp) (L : List ByteArray) : LO := if lpOk p L = true then ⟨⟨p.wi, (p.vs + (nextM p L : Nat)) % 8, p.va, p.vr, p.ak⟩, L, outs p.vs p.vr (L.drop (sentN p)) (nextM p L), [], 0⟩ else loErr 1
theorem fill_of {W1 : World} {B M : Nat} {p : Lp} {L : List ByteArray} {vq : Value} {q : World} (hL : Lw W1 B M p (L.take (sentN p)) (L.drop (sentN p)) [] [] vq (.slice none 0 0) (.slice none 0 0) q) (hr : LpRt p L) :
    Calls Try.prog 31 #[.pointer (some ⟨B, 0, none⟩)] q fun e q' => e = .returned (.tuple #[]) ∧ ∃ vq' vf', Lw W1 B M ⟨p.wi, (p.vs + (nextM p L : Nat)) % 8, p.va, p.vr, p.ak⟩ (L.take (sentN p) ++ (L.drop (sentN p)).take (nextM p L)) ((L.drop (sentN p)).drop (nextM p L)) (outs p.vs p.vr (L.drop (sentN p)) (nextM p L)) [] vq' vf' (.slice none 0 0) q' := by
  have hk := sentN_eq (p := p)
  have h1 := hr.fw
  have h2 := hr.fl
  have h3 := hr.va
  have h4 := hr.vs
  have hl : (L.take (sentN p)).length = sentN p := by rw [List.length_take]; omega
  refine iFill hL hr.va hr.wi (by rw [hl]; omega) (by rw [hl]; unfold far at hk; omega) (by rw [List.length_drop]; have := hr.l20; omega) (fun t ht => by have := hr.z t (List.mem_of_mem_drop ht); omega) (nextM p L) (by rw [hl, List.length_drop]; rfl)
theorem out_of {W1 : World} {B M : Nat} {p : Lp} {L : List ByteArray} {vq' vf' : Value} {q : World} (hL : Lw W1 B M ⟨p.wi, (p.vs + (nextM p L : Nat)) % 8, p.va, p.vr, p.ak⟩ (L.take (sentN p) ++ (L.drop (sentN p)).take (nextM p L)) ((L.drop (sentN p)).drop (nextM p L)) (outs p.vs p.vr (L.drop (sentN p)) (nextM p L)) [] vq' vf' (.slice none 0 0) q) (hr : LpRt p L) :
    Calls Try.prog 32 #[.pointer (some ⟨B, 0, none⟩)] q fun e q' => AnsL W1 ⟨⟨p.wi, (p.vs + (nextM p L : Nat)) % 8, p.va, p.vr, p.ak⟩, L, outs p.vs p.vr (L.drop (sentN p)) (nextM p L), [], 0⟩ e q' := by
  have hk := sentN_eq (p := p)
  have h1 := hr.fw
  have h2 := hr.wi
  have hm : nextM p L ≤ p.wi.toNat - sentN p := Nat.min_le_left _ _
  have e : (L.take (sentN p) ++ (L.drop (sentN p)).take (nextM p L)) ++ (L.drop (sentN p)).drop (nextM p L) = L := by rw [List.append_assoc, List.take_append_drop, List.take_append_drop]
  have := iOutL hL hr.va (by rw [List.length_append, List.length_take, List.length_take]; omega) (by rw [List.length_drop, List.length_drop]; have := hr.l20; omega)
  rw [e] at this
  exact this
set_option maxHeartbeats 8000000 in
theorem iNextL (p : Lp) (x : Option Addr) (y : Nat) (L : List ByteArray) (w : World) (hl : L.length ≤ 1048576) (h : HoldsS w (.slice x L.length y) L) :
    Calls Try.prog 7 #[.agg (lpC p (.slice x L.length y))] w fun e q => AnsL w (nextF p L) e q := by
  have C1 := hide fun W (hb : Below w.heap.size w W) => iLpRight p x y L W hl (h.below hb)
  obtain ⟨hN0, hN1, hbW, hsW⟩ := new2l w (.cells (lpC p (.slice x L.length y)) 25) (.cells #[.int .i64 0, .int .i64 0, .int .i64 0, .int .i64 0, .slice none 0 0, .bool false, .slice none 0 0, .slice none 0 0, .int .i64 0] 35)
  have HS := hide h
  unfold nextF
  clear h
  cases hk : lpOk p L
  · rw [if_neg (by decide)]
    rw [hk] at C1
    obtain ⟨wi, vs, va, vr, ak⟩ := p
    unfold lpC at hN0 hN1 hbW hsW C1 ⊢
    dsimp only at *
    have H0 := hide (And.intro hN1 hbW)
    clear hN0 hN1 hbW hsW HS hk
    generalize L.length = n at *
    go_enter Try.func7, Try.ntmps7
    go_wp2_with fail
    refine (unhide C1 _ (unhide H0).2).mono ?_
    rintro e w1 ⟨rfl, hb1⟩
    have k0 := (hb1.block (w.heap.size + 1) (Array.getElem?_eq_some_iff.1 (unhide H0).1).1).trans (unhide H0).1
    have hB1 := (unhide H0).2.trans (hb1.mono (unhide H0).2.size)
    obtain ⟨r0, r1, r2, r3, r4, r5, r6, r7, r8⟩ := row9l k0
    obtain ⟨f0, f1, f2, f3, f4, f5, f6, f7, f8⟩ := frz9l k0
    have HX := hide (And.intro k0 hB1)
    clear k0 hB1 hb1 H0 C1
    go_wp2
    obtain ⟨k0, hB1⟩ := unhide HX
    refine bodyPost_ret (v := .agg #[.int .i64 0, .int .i64 0, .int .i64 0, .int .i64 0, .slice none 0 0, .bool false, .slice none 0 0, .slice none 0 0, .int .i64 1]) (by simp [results, Try.results7, asAddr, loadLo (set9_lo k0 (.int .i64 0) (.int .i64 0) (.int .i64 0) (.int .i64 0) (.slice none 0 0) (.bool false) (.slice none 0 0) (.slice none 0 0) (.int .i64 1))]) rfl ?_
    exact ⟨.slice none 0 0, .slice none 0 0, .slice none 0 0, rfl, World.ownsRow_nil _ _ _ _, World.ownsRow_nil _ _ _ _, World.ownsRow_nil _ _ _ _, (fun g hg => by cases hg), set9_bl hB1 (by omega) _ _ _ _ _ _ _ _ _⟩
  · rw [if_pos rfl]
    rw [hk] at C1
    have hr := lpRt hk
    have hS7 : sentN p ≤ 7 := by have := sentN_eq (p := p); have := (far_lt p.vs p.va).2; omega
    have C2 := hide fun W (hb : Below w.heap.size w W) => iWorkOn p x y L W hr ((unhide HS).below hb)
    have HR := hide hr
    have CF := hide fun W1 B M vq q hL => fill_of (W1 := W1) (B := B) (M := M) (vq := vq) (q := q) hL hr
    have CO0 := hide fun W1 B M vq' vf' q hL => out_of (W1 := W1) (B := B) (M := M) (vq' := vq') (vf' := vf') (q := q) hL hr
    generalize outs p.vs p.vr (L.drop (sentN p)) (nextM p L) = F at *
    generalize nextM p L = m at *
    obtain ⟨wi, vs, va, vr, ak⟩ := p
    unfold lpC at hN0 hN1 hbW hsW C1 C2 ⊢
    dsimp only at *
    obtain ⟨vz, hvz⟩ : ∃ vz, (vs + (m : Int)) % 8 = vz := ⟨_, rfl⟩
    rw [hvz] at CF CO0 ⊢
    clear hvz
    obtain ⟨nf, hnf⟩ : ∃ nf, F.length = nf := ⟨_, rfl⟩
    have H0 := hide (And.intro hN0 (And.intro hN1 (And.intro hbW hsW)))
    clear hN0 hN1 hbW hsW HS hk hr
    generalize hn : L.length = n at *
    go_enter Try.func7, Try.ntmps7
    go_wp2_with fail
    refine (unhide C1 _ (unhide H0).2.2.1).mono ?_
    rintro e w1 ⟨rfl, hb1⟩
    have k0 := (hb1.block w.heap.size (Array.getElem?_eq_some_iff.1 (unhide H0).1).1).trans (unhide H0).1
    have kR1 := (hb1.block (w.heap.size + 1) (Array.getElem?_eq_some_iff.1 (unhide H0).2.1).1).trans (unhide H0).2.1
    have hbW := (unhide H0).2.2.1.trans (hb1.mono (unhide H0).2.2.1.size)
    have hsW : w.heap.size + 2 ≤ w1.heap.size := by have := hb1.size; rw [(unhide H0).2.2.2] at this; exact this
    obtain ⟨a0, a1, a2, a3, a4, a5⟩ := row6l k0
    have H1 := hide (And.intro kR1 (And.intro hbW hsW))
    clear k0 kR1 hbW hsW hb1 H0 C1
    go_wp2_with fail
    refine (unhide C2 _ (unhide H1).2.1).mono ?_
    rintro e w2 ⟨rfl, vq, hL2⟩
    have C3 := hide (unhide CF _ _ _ _ _ hL2)
    clear C2 a0 a1 a2 a3 a4 a5
    go_wp2_with fail
    refine (unhide C3).mono ?_
    rintro e w3 ⟨rfl, vq', vf', hL3⟩
    have CO := hide (unhide CO0 _ _ _ _ _ _ hL3)
    clear C3 hL3
    go_wp2_with fail
    refine (unhide CO).mono ?_
    rintro e q5 ⟨v, vf, vg, rfl, o1, o2, o3, hap, lo5⟩
    obtain ⟨va1, vc1, rfl⟩ := own_form o1
    dsimp only at o2
    rw [hnf] at o2
    obtain ⟨va2, vc2, rfl⟩ := own_form o2
    obtain ⟨va3, vc3, rfl⟩ := own_form o3
    have kR := (lo5.block (w.heap.size + 1) (by have := (unhide H1).2.2; omega)).trans (unhide H1).1
    obtain ⟨r0, r1, r2, r3, r4, r5, r6, r7, r8⟩ := row9l kR
    obtain ⟨f0, f1, f2, f3, f4, f5, f6, f7, f8⟩ := frz9l kR
    have HX := hide (And.intro o1 (And.intro o2 (And.intro o3 (And.intro hap (And.intro lo5 kR)))))
    clear o1 o2 o3 hap lo5 kR CO
    dsimp only [loC]
    go_wp2_with fail
    obtain ⟨o1, o2, o3, hap, lo5, kR⟩ := unhide HX
    obtain ⟨_, hbW, hsW⟩ := unhide H1
    refine bodyPost_ret (v := .agg (loC ⟨wi, vz, va, vr, ak⟩ (.slice va1 L.length vc1) (.slice va2 nf vc2) (.slice va3 0 vc3) 0)) (by simp [results, Try.results7, asAddr, loC, hn, loadLo (set9_lo kR _ _ _ _ _ _ _ _ _)]) rfl ?_
    exact AnsL.put (o := ⟨⟨wi, vz, va, vr, ak⟩, L, F, [], 0⟩) o1 (by rw [hnf]; exact o2) o3 hap lo5 (by omega) (by omega) hbW _ _ _ _ _ _ _ _ _
end Go.Proofs.Ytjgnldkncoighaa
