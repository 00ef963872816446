/- The program's EndTick: what is answered, in plain words; what lay in memory stands. -/
import Derived.Test.YtghopihgnmnlcaaGreatDoorS27
import Derived.Test.YtghopihgnmnlcaaGreatDoorS28
import Derived.Test.YtghopihgnmnlcaaGreatDoorS30
namespace Go.Proofs.YtghopihgnmnlcaaGreatDoor
open Go.RowKit
theorem implEndRightE (e : En) (x1 x2 : Option Addr) (y1 y2 : Nat) (F1 F2 : List Op.Opt) (w : World) (l1 : F1.length ≤ maxLen) (l2 : F2.length ≤ maxLen) (h1 : HoldsO w (.slice x1 F1.length y1) F1) (h2 : HoldsO w (.slice x2 F2.length y2) F2) :
    Calls Tryz.prog 37 #[.agg (enC e (.slice x1 F1.length y1) (.slice x2 F2.length y2))] w fun r w' => r = .returned (.bool (enOk e F1 F2)) ∧ Below w.heap.size w w' :=
  implEndRight_of e x1 x2 y1 y2 F1 F2 w l1 l2 h1 h2 eqL
theorem enOk_rights {e : En} {F1 F2 : List Op.Opt} (h : enOk e F1 F2 = true) : Op.right F1 = true ∧ Op.right F2 = true := by
  simp only [enOk, Bool.and_eq_true] at h
  exact ⟨opOk_right h.2.2.2.2.2.2.1, opOk_right h.2.2.2.2.2.2.2.1⟩
set_option maxHeartbeats 8000000 in
set_option maxRecDepth 100000 in
theorem iEndTick (e : En) (x1 x2 : Option Addr) (y1 y2 : Nat) (F1 F2 : List Op.Opt) (now : Int) (w : World) (l1 : F1.length ≤ 1048576) (l2 : F2.length ≤ 1048576) (h1 : HoldsO w (.slice x1 F1.length y1) F1) (h2 : HoldsO w (.slice x2 F2.length y2) F2) (hEv : EvT w) (hNx : NxT w) (hSp : SpT w) :
    Calls Tryz.prog 13 #[.agg (enC e (.slice x1 F1.length y1) (.slice x2 F2.length y2)), .int .i64 now] w fun r w' => EvA w (tickF e F1 F2 now) r w' := by
  have CR := hide fun W (hb : Below w.heap.size w W) => implEndRightE e x1 x2 y1 y2 F1 F2 W (by unfold maxLen; omega) (by unfold maxLen; omega) (h1.below hb rfl) (h2.below hb rfl)
  have CW := hide fun W (hb : Below w.heap.size w W) (r : Op.right F1 = true ∧ Op.right F2 = true) => iWork e x1 x2 y1 y2 F1 F2 now W r.1 r.2 (h1.below hb rfl) (h2.below hb rfl)
  have CT := hide fun W => iTime now W
  clear h1 h2
  have HF := hide (fit0 (e := e) (F1 := F1) (F2 := F2) (now := now))
  have HG := hide (enOk_rights (e := e) (F1 := F1) (F2 := F2))
  obtain ⟨_, hA, hX, hb⟩ := start2r w (.cells (enC e (.slice x1 F1.length y1) (.slice x2 F2.length y2)) 29) (.cells eoZ 42)
  obtain ⟨A, eA⟩ : ∃ A, w.heap.size = A := ⟨_, rfl⟩
  have hXw : w.heap.size ≤ A + 1 := by omega
  rw [eA] at hA hX
  have H0 := hide (And.intro hA (And.intro hX hb))
  clear hA hX hb
  unfold tickF
  generalize enOk e F1 F2 = ok1 at *
  generalize within 0 1000000000 now = ok2 at *
  obtain ⟨n1, e1⟩ : ∃ n, F1.length = n := ⟨_, rfl⟩
  obtain ⟨n2, e2⟩ : ∃ n, F2.length = n := ⟨_, rfl⟩
  rw [e1] at CR CW H0 ⊢
  rw [e2] at CR CW H0 ⊢
  go_enter Tryz.func13, Tryz.ntmps13
  go_upto_region 1 with fail
  refine gen_world (fun z => z.heap[A]? = some (.cells (enC e (.slice x1 n1 y1) (.slice x2 n2 y2)) 29) ∧ z.heap[A + 1]? = some (.cells eoZ 42) ∧ Below w.heap.size w z) ?_ ?_
  · exact unhide H0
  clear H0
  rintro z hz
  have HZ := hide hz
  clear hz
  go_wp2_with (first
    | (refine wpList_load_row rfl 29 (.tmp 2) rfl A rfl 29 (enC e (.slice x1 n1 y1) (.slice x2 n2 y2)) (0, 0) _ (unhide HZ).1 Tryz.underlying29 rfl infoE ?_))
  refine (unhide CR _ (unhide HZ).2.2).mono ?_
  rintro r z1 ⟨rfl, hb1⟩
  have hA1 := (hb1.block A (Array.getElem?_eq_some_iff.1 (unhide HZ).1).1).trans (unhide HZ).1
  have hX1 := (hb1.block (A + 1) (Array.getElem?_eq_some_iff.1 (unhide HZ).2.1).1).trans (unhide HZ).2.1
  have H1 := hide (And.intro hA1 (And.intro hX1 ((unhide HZ).2.2.trans (hb1.mono (unhide HZ).2.2.size))))
  have c13 : z1.cell? ⟨A, 13, none⟩ = some (.int .i64 e.tr) := by rw [cell_of_row _ _ _ _ _ _ hA1]; rfl
  have c14 : z1.cell? ⟨A, 14, none⟩ = some (.int .i64 e.du) := by rw [cell_of_row _ _ _ _ _ _ hA1]; rfl
  clear hA1 hX1 hb1 CR HZ
  have CTX : Hid (∀ W, Calls Tryz.prog 39 #[.int .i64 now] W fun e w' => e = .returned (.bool ok2) ∧ w' = W) := CT
  cases ok1
  · go_wp2_with (first
      | (refine wpList_buildTo rfl 42 _ rfl (some 14) rfl (eoC enZero (.slice none 0 0) (.slice none 0 0) (.slice none 0 0) (.slice none 0 0) 1) (by as_aux_lemma => kernel_rfl) ?_)
      | (refine wpList_store_rowTo rfl 42 (.tmp 4) (.tmp 14) rfl rfl (A + 1) (eoC enZero (.slice none 0 0) (.slice none 0 0) (.slice none 0 0) (.slice none 0 0) 1) rfl rfl 42 eoZ (unhide H1).2.1 infoEo rfl (eoC_all _ _ _ _ _ _ _ _ _ _ _ _ _ _) ?_))
    refine bodyPost_ret (v := .agg (eoC enZero (.slice none 0 0) (.slice none 0 0) (.slice none 0 0) (.slice none 0 0) 1)) (by simp [results, Tryz.results13, asAddr, loadEo (setRow_heap z1 (A + 1) _ (eoC enZero (.slice none 0 0) (.slice none 0 0) (.slice none 0 0) (.slice none 0 0) 1) _ _ (unhide H1).2.1)]) rfl ?_
    exact evErr (below_row (unhide H1).2.2 hXw _) 1
  · cases ok2
    · go_wp2_with (first
        | (go_at_call 39; refine (unhide CT _).mono ?_; rintro r ws ⟨rfl, hws⟩; replace hws := hws.symm; subst hws)
        | (refine wpList_buildTo rfl 42 _ rfl (some 14) rfl (eoC enZero (.slice none 0 0) (.slice none 0 0) (.slice none 0 0) (.slice none 0 0) 1) (by as_aux_lemma => kernel_rfl) ?_)
        | (refine wpList_store_rowTo rfl 42 (.tmp 4) (.tmp 14) rfl rfl (A + 1) (eoC enZero (.slice none 0 0) (.slice none 0 0) (.slice none 0 0) (.slice none 0 0) 1) rfl rfl 42 eoZ (unhide H1).2.1 infoEo rfl (eoC_all _ _ _ _ _ _ _ _ _ _ _ _ _ _) ?_))
      refine bodyPost_ret (v := .agg (eoC enZero (.slice none 0 0) (.slice none 0 0) (.slice none 0 0) (.slice none 0 0) 1)) (by simp [results, Tryz.results13, asAddr, loadEo (setRow_heap z1 (A + 1) _ (eoC enZero (.slice none 0 0) (.slice none 0 0) (.slice none 0 0) (.slice none 0 0) 1) _ _ (unhide H1).2.1)]) rfl ?_
      exact evErr (below_row (unhide H1).2.2 hXw _) 1
    · replace HF := hide (unhide HF rfl)
      replace CW := hide fun W hb => unhide CW W hb (unhide HG rfl)
      have hdu := (unhide HF).2.2
      by_cases hd : e.du < 0 ∨ now < e.du
      · by_cases hd0 : e.du = -1
        · have hd9 : e.du < 0 := by omega
          go_wp2_with (first
            | (go_at_call 39; refine (unhide CT _).mono ?_; rintro r ws ⟨rfl, hws⟩; replace hws := hws.symm; subst hws)
            | (refine wpList_buildTo rfl 42 _ rfl (some 24) rfl (eoC enZero (.slice none 0 0) (.slice none 0 0) (.slice none 0 0) (.slice none 0 0) 8) (by as_aux_lemma => kernel_rfl) ?_)
            | (refine wpList_store_rowTo rfl 42 (.tmp 4) (.tmp 24) rfl rfl (A + 1) (eoC enZero (.slice none 0 0) (.slice none 0 0) (.slice none 0 0) (.slice none 0 0) 8) rfl rfl 42 eoZ (unhide H1).2.1 infoEo rfl (eoC_all _ _ _ _ _ _ _ _ _ _ _ _ _ _) ?_))
          refine bodyPost_ret (v := .agg (eoC enZero (.slice none 0 0) (.slice none 0 0) (.slice none 0 0) (.slice none 0 0) 8)) (by simp [results, Tryz.results13, asAddr, loadEo (setRow_heap z1 (A + 1) _ (eoC enZero (.slice none 0 0) (.slice none 0 0) (.slice none 0 0) (.slice none 0 0) 8) _ _ (unhide H1).2.1)]) rfl ?_
          exact evErr (below_row (unhide H1).2.2 hXw _) 8
        · have hd1 : now < e.du := hd.resolve_left (by omega)
          have hd9 : ¬ (e.du < 0) := by omega
          have hd2 : (e.du == -1) = false := beq_eq_false_iff_ne.2 hd0
          go_wp2_with (first
            | (go_at_call 39; refine (unhide CT _).mono ?_; rintro r ws ⟨rfl, hws⟩; replace hws := hws.symm; subst hws)
            | (refine wpList_buildTo rfl 42 _ rfl (some 24) rfl (eoC enZero (.slice none 0 0) (.slice none 0 0) (.slice none 0 0) (.slice none 0 0) 8) (by as_aux_lemma => kernel_rfl) ?_)
            | (refine wpList_store_rowTo rfl 42 (.tmp 4) (.tmp 24) rfl rfl (A + 1) (eoC enZero (.slice none 0 0) (.slice none 0 0) (.slice none 0 0) (.slice none 0 0) 8) rfl rfl 42 eoZ (unhide H1).2.1 infoEo rfl (eoC_all _ _ _ _ _ _ _ _ _ _ _ _ _ _) ?_))
          refine bodyPost_ret (v := .agg (eoC enZero (.slice none 0 0) (.slice none 0 0) (.slice none 0 0) (.slice none 0 0) 8)) (by simp [results, Tryz.results13, asAddr, loadEo (setRow_heap z1 (A + 1) _ (eoC enZero (.slice none 0 0) (.slice none 0 0) (.slice none 0 0) (.slice none 0 0) 8) _ _ (unhide H1).2.1)]) rfl ?_
          exact evErr (below_row (unhide H1).2.2 hXw _) 8
      · have hd0 : ¬ (e.du < 0) := fun h => hd (Or.inl h)
        have hd1 : ¬ (now < e.du) := fun h => hd (Or.inr h)
        have hd2 : (e.du == -1) = false := beq_eq_false_iff_ne.2 (by omega)
        go_wp2_with (first
          | (go_at_call 39; refine (unhide CT _).mono ?_; rintro r ws ⟨rfl, hws⟩; replace hws := hws.symm; subst hws)
          | (refine wpList_load_row rfl 29 (.tmp 2) rfl A rfl 29 (enC e (.slice x1 n1 y1) (.slice x2 n2 y2)) (0, 0) _ (unhide H1).1 Tryz.underlying29 rfl infoE ?_))
        refine (unhide CW _ (unhide H1).2.2).mono ?_
        rintro r z2 ⟨B, v1, v2, rfl, hL⟩
        have hl := hL.low
        have hA2 := (hl.block A (Array.getElem?_eq_some_iff.1 (unhide H1).1).1).trans (unhide H1).1
        have d13 : z2.cell? ⟨A, 13, none⟩ = some (.int .i64 e.tr) := by rw [cell_of_row _ _ _ _ _ _ hA2]; rfl
        have HL := hide hL
        clear hL hl hA2 c13 c14
        by_cases ht : 0 < e.tr
        · have hE0 := iHappen z1 z2 B (cx0 now) ⟨e, F1, F2, [], []⟩ v1 v2 z2 (unhide HL) rfl rfl (unhide HF).1 4 ⟨#[84, 79, 43]⟩ rfl (hEv.below (unhide H1).2.2) (hNx.below (unhide H1).2.2) (hSp.below (unhide H1).2.2) (fsm6 (i := 4) (by decide) rfl (unhide HF).2.1.1 (unhide HF).2.1.2).1 (fsm6 (i := 4) (by decide) rfl (unhide HF).2.1.1 (unhide HF).2.1.2).2
          have CE := hide hE0
          clear hE0
          go_wp2_with fail
          refine (unhide CE).mono ?_
          rintro r z3 ⟨u1, u2, us, ut, rfl, hE'⟩
          have hE : EvA z1 (evF (cx0 now) ⟨e, F1, F2, [], []⟩ ⟨#[84, 79, 43]⟩) (.returned (.agg (eoC (evF (cx0 now) ⟨e, F1, F2, [], []⟩ ⟨#[84, 79, 43]⟩).e u1 u2 us ut (evF (cx0 now) ⟨e, F1, F2, [], []⟩ ⟨#[84, 79, 43]⟩).cd))) z3 := ⟨u1, u2, us, ut, rfl, hE'⟩
          clear hE'
          generalize eoC (evF (cx0 now) ⟨e, F1, F2, [], []⟩ ⟨#[84, 79, 43]⟩).e u1 u2 us ut (evF (cx0 now) ⟨e, F1, F2, [], []⟩ ⟨#[84, 79, 43]⟩).cd = cs at *
          obtain ⟨hsz, hall, hX2, hEv⟩ := hE.up (unhide H1).2.2 (unhide H1).2.1 hXw
          have HE2 := hide (And.intro hX2 hEv)
          clear hE hX2 hEv
          go_wp2_with (first
            | (refine wpList_store_rowTo rfl 42 (.tmp 4) (.tmp 32) rfl rfl (A + 1) cs rfl rfl 42 eoZ (unhide HE2).1 (by rw [hsz]; exact infoEo) (by rw [hsz]; rfl) hall ?_))
          refine bodyPost_ret (v := .agg cs) (by simp [results, Tryz.results13, asAddr, loadEo (setRow_heap z3 (A + 1) _ cs _ _ (unhide HE2).1) hsz]) rfl ?_
          exact (unhide HE2).2
        · have hE0 := iHappen z1 z2 B (cx0 now) ⟨e, F1, F2, [], []⟩ v1 v2 z2 (unhide HL) rfl rfl (unhide HF).1 5 ⟨#[84, 79, 45]⟩ rfl (hEv.below (unhide H1).2.2) (hNx.below (unhide H1).2.2) (hSp.below (unhide H1).2.2) (fsm6 (i := 5) (by decide) rfl (unhide HF).2.1.1 (unhide HF).2.1.2).1 (fsm6 (i := 5) (by decide) rfl (unhide HF).2.1.1 (unhide HF).2.1.2).2
          have CE := hide hE0
          clear hE0
          go_wp2_with fail
          refine (unhide CE).mono ?_
          rintro r z3 ⟨u1, u2, us, ut, rfl, hE'⟩
          have hE : EvA z1 (evF (cx0 now) ⟨e, F1, F2, [], []⟩ ⟨#[84, 79, 45]⟩) (.returned (.agg (eoC (evF (cx0 now) ⟨e, F1, F2, [], []⟩ ⟨#[84, 79, 45]⟩).e u1 u2 us ut (evF (cx0 now) ⟨e, F1, F2, [], []⟩ ⟨#[84, 79, 45]⟩).cd))) z3 := ⟨u1, u2, us, ut, rfl, hE'⟩
          clear hE'
          generalize eoC (evF (cx0 now) ⟨e, F1, F2, [], []⟩ ⟨#[84, 79, 45]⟩).e u1 u2 us ut (evF (cx0 now) ⟨e, F1, F2, [], []⟩ ⟨#[84, 79, 45]⟩).cd = cs at *
          obtain ⟨hsz, hall, hX2, hEv⟩ := hE.up (unhide H1).2.2 (unhide H1).2.1 hXw
          have HE2 := hide (And.intro hX2 hEv)
          clear hE hX2 hEv
          go_wp2_with (first
            | (refine wpList_store_rowTo rfl 42 (.tmp 4) (.tmp 34) rfl rfl (A + 1) cs rfl rfl 42 eoZ (unhide HE2).1 (by rw [hsz]; exact infoEo) (by rw [hsz]; rfl) hall ?_))
          refine bodyPost_ret (v := .agg cs) (by simp [results, Tryz.results13, asAddr, loadEo (setRow_heap z3 (A + 1) _ cs _ _ (unhide HE2).1) hsz]) rfl ?_
          exact (unhide HE2).2
end Go.Proofs.YtghopihgnmnlcaaGreatDoor
