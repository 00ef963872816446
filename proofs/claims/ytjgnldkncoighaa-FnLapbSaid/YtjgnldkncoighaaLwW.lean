/- The program begins to work on an end: texts of its own, and those that were sent by their numbers; what lay in memory stands. -/
import Derived.Test.YtjgnldkncoighaaLwS
import Derived.Test.YtjgnldkncoighaaLpR
namespace Go.Proofs.Ytjgnldkncoighaa
open Go.RowKit
/-- What a right end is. -/
structure LpRt (p : Lp) (L : List ByteArray) : Prop where
  wi : 1 ≤ p.wi ∧ p.wi ≤ 7
  vs : 0 ≤ p.vs ∧ p.vs ≤ 7
  va : 0 ≤ p.va ∧ p.va ≤ 7
  vr : 0 ≤ p.vr ∧ p.vr ≤ 7
  l20 : L.length ≤ 20
  z : ∀ t ∈ L, t.size ≤ 200
  fw : far p.vs p.va ≤ p.wi
  fl : far p.vs p.va ≤ L.length
theorem lpRt {p : Lp} {L : List ByteArray} (h : lpOk p L = true) : LpRt p L := by
  unfold lpOk qOk at h
  simp only [Bool.and_eq_true, decide_eq_true_eq, List.all_eq_true] at h
  obtain ⟨h1, h2, h3, h4, ⟨h5, h6⟩, h7, h8⟩ := h
  exact ⟨winOk_iff h1, numOk_iff h2, numOk_iff h3, numOk_iff h4, h5, h6, h7, h8⟩
/-- How many were sent. -/
def sentN (p : Lp) : Nat := (far p.vs p.va).toNat
theorem sentN_eq {p : Lp} : ((sentN p : Nat) : Int) = far p.vs p.va := by
  have := far_lt p.vs p.va
  unfold sentN
  omega
/-- The number Vs that lies in memory. -/
def vsOf (B : Nat) (w : World) : Int := match w.cell? ⟨B, 1, none⟩ with
  | some v => intOf v
  | none => 0
theorem vsOf_at {B : Nat} {w : World} {n : Int} (h : w.cell? ⟨B, 1, none⟩ = some (.int .i64 n)) : vsOf B w = n := by
  unfold vsOf
  rw [h]
  rfl
theorem drop_cons' {L : List ByteArray} {i : Nat} (h : i < L.length) : L.drop i = L[i] :: L.drop (i + 1) := List.drop_eq_getElem_cons h
theorem run_mk (W : World) : (Instr.makeMap 57 none).run Try.prog W = .ok (.map (some W.heap.size)) (W.alloc (.map #[] 0)) := by
  rfl
set_option maxHeartbeats 8000000 in
theorem iWorkOn (p : Lp) (x : Option Addr) (y : Nat) (L : List ByteArray) (w : World) (hr : LpRt p L) (h : HoldsS w (.slice x L.length y) L) :
    Calls Try.prog 30 #[.agg (lpC p (.slice x L.length y))] w fun e w' => e = .returned (.pointer (some ⟨w.heap.size + 1 + 1, 0, none⟩)) ∧ ∃ vq, Lw w (w.heap.size + 1 + 1) (w.heap.size + 1) p (L.take (sentN p)) (L.drop (sentN p)) [] [] vq (.slice none 0 0) (.slice none 0 0) w' := by
  have hk := sentN_eq (p := p)
  obtain ⟨k, ek⟩ : ∃ k, sentN p = k := ⟨_, rfl⟩
  rw [ek] at hk ⊢
  have hkl : k ≤ L.length := by have := hr.fl; omega
  have hk7 : k ≤ 7 := by have := (far_lt p.vs p.va).2; omega
  have hvs := hr.vs
  have hva := hr.va
  unfold far at hk
  obtain ⟨hQ0, hQ1, hb0, hsz⟩ := new3l w (.cells (lpC p (.slice x L.length y)) 25) (.map #[] 0) (.cells (lwC p (w.heap.size + 1) (.slice x L.length y) (.slice none 0 0) (.slice none 0 0)) 59)
  have C := hide fun W (hb : Below w.heap.size w W) => iSameT _ L W hr.l20 hr.z (h.below hb)
  have l20 := hr.l20
  obtain ⟨wi, vs, va, vr, ak⟩ := p
  unfold lpC at hQ0 hb0 hQ1 hsz ⊢
  unfold lwC at hQ0 hb0 hQ1 hsz
  dsimp only at *
  clear h hr
  generalize hn : L.length = n at *
  have H0 := hide (And.intro hQ0 (And.intro hQ1 (And.intro hb0 hsz)))
  clear hQ0 hQ1 hb0 hsz
  have hmk := run_mk
  go_enter Try.func30, Try.ntmps30
  go_wp2_with fail
  refine (unhide C _ (unhide H0).2.2.2.1).mono ?_
  rintro e w1 ⟨u, rfl, hu, hb1⟩
  obtain ⟨ua, uc, rfl⟩ := own_form hu
  rw [(unhide H0).2.2.2.2] at hu
  have hl1 : HoldsQ w1 w.heap.size (.slice ua n uc) L := by
    rw [← hn] at hu ⊢
    exact HoldsQ.own ⟨hu.1, hu.2.imp id fun ⟨g, cap, cur, a1, a2, a3⟩ => ⟨g, cap, cur, a1, by omega, a3⟩⟩
  have hM : MapH w1 (w.heap.size + 1) va [] := ⟨_, _, (hb1.block (w.heap.size + 1) (Array.getElem?_eq_some_iff.1 (unhide H0).2.1).1).trans (unhide H0).2.1, rfl⟩
  have hA := (hb1.block w.heap.size (Array.getElem?_eq_some_iff.1 (unhide H0).1).1).trans (unhide H0).1
  have hB := (hb1.block (w.heap.size + 1 + 1) (Array.getElem?_eq_some_iff.1 (unhide H0).2.2.1).1).trans (unhide H0).2.2.1
  have hlo := (unhide H0).2.2.2.1.trans (hb1.mono (unhide H0).2.2.2.1.size)
  have hne : ∀ (g : Nat) (cur : Array Value), w1.heap[g]? = some (.cells cur 9) → g ≠ w.heap.size + 1 + 1 := fun g cur h1 e => by
    rw [e, hB] at h1
    cases h1
  have hL2 : Lw w (w.heap.size + 1 + 1) (w.heap.size + 1) ⟨wi, va, va, vr, ak⟩ [] L [] [] (.slice ua n uc) (.slice none 0 0) (.slice none 0 0) ((w1.setCell ⟨w.heap.size + 1 + 1, 4, none⟩ (.slice ua n uc)).setCell ⟨w.heap.size + 1 + 1, 1, none⟩ (.int .i64 va)) := by
    have hk : ∀ k, k ≠ w.heap.size + 1 + 1 → ((w1.setCell ⟨w.heap.size + 1 + 1, 4, none⟩ (.slice ua n uc)).setCell ⟨w.heap.size + 1 + 1, 1, none⟩ (.int .i64 va)).heap[k]? = w1.heap[k]? := fun k hk => (heap_setCell_other _ _ _ _ hk).trans (heap_setCell_other _ _ _ _ hk)
    refine ⟨?_, hM.other (hk _ (by omega)), hl1.other fun g cur _ h2 => hk g (hne g cur h2), World.ownsRow_nil _ _ _ _, World.ownsRow_nil _ _ _ _, by omega, by omega, (hlo.setCell (p := ⟨w.heap.size + 1 + 1, 4, none⟩) (by show w.heap.size ≤ w.heap.size + 1 + 1; omega) _).setCell (p := ⟨w.heap.size + 1 + 1, 1, none⟩) (by show w.heap.size ≤ w.heap.size + 1 + 1; omega) _⟩
    exact heap_setCell_same _ _ 1 _ _ _ (heap_setCell_same _ _ 4 _ _ _ hB)
  have hA2 : ((w1.setCell ⟨w.heap.size + 1 + 1, 4, none⟩ (.slice ua n uc)).setCell ⟨w.heap.size + 1 + 1, 1, none⟩ (.int .i64 va)).heap[w.heap.size]? = some (.cells #[.int .i64 wi, .int .i64 vs, .int .i64 va, .int .i64 vr, .slice x n y, .bool ak] 25) :=
    (heap_setCell_other _ _ _ _ (by show w.heap.size ≠ w.heap.size + 1 + 1; omega)).trans ((heap_setCell_other _ _ _ _ (by show w.heap.size ≠ w.heap.size + 1 + 1; omega)).trans hA)
  obtain ⟨a0, a1, a2, a3, a4, a5⟩ := row6l hA
  obtain ⟨c0, c1, c2, c3, c4, c5, c6, c7, c8⟩ := row9l hB
  have f4 := frz hB 4
  have f1 := frz hB 1
  have H2 := hide (And.intro hL2 hA2)
  have n1 : ¬ (w.heap.size = w.heap.size + 1 + 1) := by omega
  have n2 : ¬ (w.heap.size + 1 + 1 = w.heap.size) := by omega
  clear hL2 hA2 hne hl1 hM hA hB hlo hu hb1 H0 C hmk
  go_wp2_with fail
  refine gen_world (fun q => Lw w (w.heap.size + 1 + 1) (w.heap.size + 1) ⟨wi, va, va, vr, ak⟩ [] L [] [] (.slice ua n uc) (.slice none 0 0) (.slice none 0 0) q ∧ q.heap[w.heap.size]? = some (.cells #[.int .i64 wi, .int .i64 vs, .int .i64 va, .int .i64 vr, .slice x n y, .bool ak] 25)) (unhide H2) ?_
  clear H2 a0 a1 a2 a3 a4 a5 c0 c1 c2 c3 c4 c5 c6 c7 c8 f4 f1 w1
  rintro q0 hq0
  generalize hB : w.heap.size + 1 + 1 = B at *
  have HQ := hide hq0
  clear hq0
  go_loopw [21] (fun _ wr => ∃ (i : Nat) (vq : Value), i ≤ k ∧ Lw w B (w.heap.size + 1) ⟨wi, (va + i) % 8, va, vr, ak⟩ (L.take i) (L.drop i) [] [] vq (.slice none 0 0) (.slice none 0 0) wr ∧ wr.heap[w.heap.size]? = some (.cells #[.int .i64 wi, .int .i64 vs, .int .i64 va, .int .i64 vr, .slice x n y, .bool ak] 25)) (fun _ wr => k - ((vsOf B wr - va) % 8).toNat)
  case atStart =>
    refine ⟨0, .slice ua n uc, Nat.zero_le _, ?_, (unhide HQ).2⟩
    rw [show (va + ((0 : Nat) : Int)) % 8 = va by omega, List.take_zero, List.drop_zero]
    exact (unhide HQ).1
  case round =>
    obtain ⟨i, vq, hi, hL, hA⟩ := hrel
    obtain ⟨a0, a1, a2, a3, a4, a5⟩ := row6l hA
    obtain ⟨c0, c1, c2, c3, c4, c5, c6, c7, c8⟩ := row9l hL.row
    dsimp only at c1
    by_cases hlt : i < k
    · have d1 : ((va + (i : Int)) % 8 != vs) = true := bne_iff_ne.2 (by omega)
      have hil : i < L.length := by omega
      have hL' := hL
      rw [drop_cons' hil] at hL'
      have HT : Hid (L.take (i + 1) = L.take i ++ [L[i]]) := hide (List.take_succ_eq_append_getElem hil)
      have hti : (L.take i).length = i := by rw [List.length_take]; omega
      have CN := hide (fun W (hW : Lw w B (w.heap.size + 1) ⟨wi, (va + i) % 8, va, vr, ak⟩ (L.take i) (L[i] :: L.drop (i + 1)) [] [] vq (.slice none 0 0) (.slice none 0 0) W) => iNumF hW hva (by rw [hti]; omega) (by rw [hti]))
      have HL := hide hL'
      have HA := hide hA
      clear hL hL' hA
      go_wp2_with fail
      go_region
      clear a0 a1 a2 a3 a4 a5 c0 c1 c2 c3 c4 c5 c6 c7 c8
      go_wp2_with fail
      refine (unhide CN _ (unhide HL).drew).mono ?_
      rintro e w5 ⟨rfl, ⟨vq', h5⟩, hk5, _⟩
      have hA5 := (hk5 w.heap.size (by omega) (by omega)).trans (unhide HA)
      have hv5 : vsOf B w5 = ((va + (i : Int)) % 8 + 1) % 8 := vsOf_at (row9l h5.row).2.1
      have hv0 : vsOf B wr = (va + (i : Int)) % 8 := vsOf_at (row9l (unhide HL).row).2.1
      have HX := hide (And.intro h5 (And.intro hA5 (And.intro hv5 hv0)))
      clear h5 hk5 hA5 hv5 hv0 HL HA CN
      go_wp2_with fail
      go_roundw
      case rel =>
        refine ⟨i + 1, vq', by omega, ?_, (unhide HX).2.1⟩
        have := (unhide HX).1
        rw [← unhide HT, show ((va + (i : Int)) % 8 + 1) % 8 = (va + ((i + 1 : Nat) : Int)) % 8 by omega] at this
        exact this
      case measure =>
        rw [(unhide HX).2.2.1, (unhide HX).2.2.2]
        omega
    · have e : i = k := by omega
      subst e
      have d1 : ((va + (i : Int)) % 8 != vs) = false := by
        rw [bne_eq_false_iff_eq]
        omega
      have HV : Hid ((va + (i : Int)) % 8 = vs) := hide (by omega)
      have HL := hide hL
      clear hL hA
      go_wp2_with fail
      go_region
      go_wp2
      go_ret
      have hf := (unhide HL).drew
      rw [unhide HV] at hf
      exact ⟨by rw [← hB]; rfl, vq, by rw [hB]; exact hf⟩
end Go.Proofs.Ytjgnldkncoighaa
