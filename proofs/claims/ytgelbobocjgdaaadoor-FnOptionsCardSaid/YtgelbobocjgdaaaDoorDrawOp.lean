/- The draw of an option: a kind and a text; only the drawer and new memory are turned. -/
import Derived.Test.YtgelbobocjgdaaaDoorDrawPut
import Derived.Deep.DeepCutAuto
namespace Go.Proofs.YtgelbobocjgdaaaDoor
open Go.RowKit
/-- A cell that holds a number of 32 bits. -/
def okU32 : Value → Bool
  | .int .i64 n => decide (0 ≤ n ∧ n ≤ 4294967295)
  | _ => false
theorem lit_u32 {w : World} {g : Nat} {cs : Array Value} {T : TypeId} (h : w.heap[g]? = some (.cells cs T)) (ha : ∀ v ∈ cs.toList, okU32 v = true) (r : Nat) (hr : r < cs.size) :
    ∃ x : Int, w.cell? ⟨g, r, none⟩ = some (.int .i64 x) ∧ 0 ≤ x ∧ x ≤ 4294967295 := by
  have h1 := ha cs[r] (by simp)
  unfold okU32 at h1
  split at h1
  · rename_i n hn
    have h2 := of_decide_eq_true h1
    exact ⟨n, by rw [cell_of_row w g r cs T (0, 0) h, Array.getElem?_eq_getElem hr, hn], h2.1, h2.2⟩
  · cases h1
theorem row2o {w : World} {B : Nat} {x0 x1 : Value} {T : TypeId} (h : w.heap[B]? = some (.cells #[x0, x1] T)) :
    w.cell? ⟨B, 0, none⟩ = some x0 ∧ w.cell? ⟨B, 1, none⟩ = some x1 ∧ w.frozen? ⟨B, 0, none⟩ = false ∧ w.frozen? ⟨B, 1, none⟩ = false :=
  ⟨by rw [cell_of_row _ _ _ _ _ _ h]; rfl, by rw [cell_of_row _ _ _ _ _ _ h]; rfl, frz h _, frz h _⟩
/-- An option under way: its place, the answer's place, the drawer. -/
structure Ost (w W : World) (B : Nat) (sl : Value) (n rb xb : Nat) (kd : Int) (dt : ByteArray) : Prop where
  r : W.heap[rb]? = some (.cells #[.int .i64 0, .string ⟨#[]⟩] 95)
  x : W.heap[xb]? = some (.cells #[.int .i64 kd, .string dt] 95)
  s : Src W B sl n
  g : Nigh B w W
theorem Ost.step {w W W' : World} {B : Nat} {sl : Value} {n rb xb : Nat} {kd : Int} {dt : ByteArray} (h : Ost w W B sl n rb xb kd dt) (hn : Nigh B W W') (hs : Src W' B sl n) (h1 : rb ≠ B) (h2 : xb ≠ B) : Ost w W' B sl n rb xb kd dt :=
  ⟨(hn.block rb (Array.getElem?_eq_some_iff.1 h.r).1 h1).trans h.r, (hn.block xb (Array.getElem?_eq_some_iff.1 h.x).1 h2).trans h.x, hs, h.g.trans hn⟩
theorem Ost.set {w W : World} {B : Nat} {sl : Value} {n rb xb : Nat} {kd : Int} {dt : ByteArray} (h : Ost w W B sl n rb xb kd dt) (t : ByteArray) (h1 : rb ≠ xb) (h2 : xb ≠ B) (h3 : w.heap.size ≤ xb) : Ost w (W.setCell ⟨xb, 1, none⟩ (.string t)) B sl n rb xb kd t :=
  ⟨(Below.heap_setCell _ ⟨xb, 1, none⟩ _ rb h1).trans h.r, by rw [heap_setCell_same _ _ 1 _ _ _ h.x]; rfl, h.s.same (Below.heap_setCell _ ⟨xb, 1, none⟩ _ B (Ne.symm h2)), h.g.setCell ⟨xb, 1, none⟩ _ h3⟩
theorem infoOpt : (Tryd.prog.info? 95).map (·.size) = some 2 := by kernel_rfl
theorem loadO {W : World} {E : Nat} {x0 x1 : Value} (h : W.heap[E]? = some (.cells #[x0, x1] 95)) : (loadVar 95 ⟨E, 0, none⟩).run Tryd.prog W = .ok (.agg #[x0, x1]) W :=
  run_loadVar_row (P := Tryd.prog) _ _ 95 95 #[x0, x1] (0, 0) _ h Tryd.underlying95 rfl infoOpt
theorem start2a (w : World) (a b : Obj) : ((w.alloc a).alloc b).heap.size = w.heap.size + 1 + 1 ∧ ((w.alloc a).alloc b).heap[w.heap.size]? = some a ∧ ((w.alloc a).alloc b).heap[w.heap.size + 1]? = some b ∧ Below w.heap.size w ((w.alloc a).alloc b) := by
  have s1 : (w.alloc a).heap.size = w.heap.size + 1 := by simp
  have e2 := heap_alloc_new (w.alloc a) b
  rw [s1] at e2
  refine ⟨by simp, ?_, e2, ((Below.refl _ _).alloc (Nat.le_refl _) _).alloc (by omega) _⟩
  rw [Below.heap_alloc _ _ _ (by omega)]
  exact heap_alloc_new w a
set_option maxHeartbeats 4000000 in
theorem src_option (w : World) (B : Nat) (sl : Value) (n : Nat) (hn : n ≤ maxLen) (hS : Src w B sl n) (hD : Dat w B sl n) :
    Calls Tryd.prog 86 #[.pointer (some ⟨B, 0, none⟩)] w fun e w' => ∃ (kd : Int) (dt : ByteArray), e = .returned (.agg #[.int .i64 kd, .string dt]) ∧ Src w' B sl n ∧ Nigh B w w' := by
  have hBw := hS.lt
  have HS := hide hS
  have HD := hide hD
  clear hS hD
  have DB : Hid (∀ W, Nigh B w W → Dat W B sl n) := hide fun W h => (unhide HD).below (h.below (by omega))
  go_enter Tryd.func86, Tryd.ntmps86
  go_wp2_with fail
  have hn0 : Nigh B w ((w.alloc (.cells #[.int .i64 0, .string ⟨#[]⟩] 95)).alloc (.cells #[.int .i64 1, .int .i64 2, .int .i64 5, .int .i64 7, .int .i64 8, .int .i64 9, .int .i64 3, .int .i64 1, .int .i64 9] 2)) := ((Nigh.refl _ _).alloc _).alloc _
  have hS0 : Src ((w.alloc (.cells #[.int .i64 0, .string ⟨#[]⟩] 95)).alloc (.cells #[.int .i64 1, .int .i64 2, .int .i64 5, .int .i64 7, .int .i64 8, .int .i64 9, .int .i64 3, .int .i64 1, .int .i64 9] 2)) B sl n := (unhide HS).same (by rw [Below.heap_alloc _ _ _ (by simp; omega), Below.heap_alloc _ _ _ hBw])
  refine (src_n _ B sl n 9 (by decide) hn hS0 (unhide DB _ hn0)).mono ?_
  rintro e w1 ⟨r, rfl, hr, hS1, ht1⟩
  have hr2 : r < 9 := by omega
  obtain ⟨hsz0, q0, q1, _⟩ := start2a w (.cells #[.int .i64 0, .string ⟨#[]⟩] 95) (.cells #[.int .i64 1, .int .i64 2, .int .i64 5, .int .i64 7, .int .i64 8, .int .i64 9, .int .i64 3, .int .i64 1, .int .i64 9] 2)
  have hlist := (ht1.block (w.heap.size + 1) (by omega)).trans q1
  have hres := (ht1.block w.heap.size (by omega)).trans q0
  obtain ⟨kd, hkd, _, _⟩ := lit_cell hlist (by decide) r (by simpa using hr2)
  have hn1 : Nigh B w w1 := hn0.trans (Nigh.of_touch ht1)
  have hs1 := ht1.size
  have HR := hide (And.intro hres (And.intro hS1 hn1))
  have hlw : w.heap.size + 2 ≤ w1.heap.size := by rw [hs1, hsz0]; omega
  clear hS0 hn0 ht1 hr hlist hres hS1 hn1 HS hs1 q0 q1 hsz0
  have hne1 : ¬ (w.heap.size + 1 = w1.heap.size) := by omega
  go_upto_if 12 with fail
  refine gen_world (fun q => Ost w q B sl n w.heap.size w1.heap.size kd ⟨#[]⟩ ∧ w1.heap.size < q.heap.size)
    ⟨⟨(Below.heap_alloc _ _ _ (by omega)).trans (unhide HR).1, heap_alloc_new w1 _, (unhide HR).2.1.same (Below.heap_alloc _ _ _ (by omega)), (unhide HR).2.2.alloc _⟩, by simp⟩ ?_
  rintro q ⟨hq, hlq⟩
  have hBq : B < q.heap.size := by omega
  have HQ := hide hq
  clear HR hkd hq
  have FIN : Hid (∀ (W : World) (t : ByteArray), Ost w W B sl n w.heap.size w1.heap.size kd t → Src ((W.setCell ⟨w.heap.size, 0, none⟩ (.int .i64 kd)).setCell ⟨w.heap.size, 1, none⟩ (.string t)) B sl n ∧ Nigh B w ((W.setCell ⟨w.heap.size, 0, none⟩ (.int .i64 kd)).setCell ⟨w.heap.size, 1, none⟩ (.string t)) ∧ (loadVar 95 ⟨w.heap.size, 0, none⟩).run Tryd.prog ((W.setCell ⟨w.heap.size, 0, none⟩ (.int .i64 kd)).setCell ⟨w.heap.size, 1, none⟩ (.string t)) = .ok (.agg #[.int .i64 kd, .string t]) ((W.setCell ⟨w.heap.size, 0, none⟩ (.int .i64 kd)).setCell ⟨w.heap.size, 1, none⟩ (.string t))) := by
    refine hide fun W t h => ⟨h.s.same ?_, (h.g.setCell _ _ (Nat.le_refl _)).setCell _ _ (Nat.le_refl _), ?_⟩
    · rw [Below.heap_setCell _ ⟨w.heap.size, 1, none⟩ _ B (by show B ≠ w.heap.size; omega), Below.heap_setCell _ ⟨w.heap.size, 0, none⟩ _ B (by show B ≠ w.heap.size; omega)]
    · exact loadO (heap_setCell_same _ _ 1 _ _ _ (heap_setCell_same _ _ 0 _ _ _ h.r))
  by_cases k1 : kd = 1
  · subst k1
    go_wp2_with fail
    have hnq : Nigh B w (q.alloc (.cells #[.int .i64 64, .int .i64 300, .int .i64 63, .int .i64 301, .int .i64 100, .int .i64 5000] 2)) := (unhide HQ).g.alloc _
    have hsq : Src (q.alloc (.cells #[.int .i64 64, .int .i64 300, .int .i64 63, .int .i64 301, .int .i64 100, .int .i64 5000] 2)) B sl n := (unhide HQ).s.same (Below.heap_alloc _ _ _ hBq)
    refine (src_n _ B sl n 6 (by decide) hn hsq (unhide DB _ hnq)).mono ?_
    rintro e w2 ⟨r2, rfl, hr2, hS2, ht2⟩
    have hr2' : r2 < 6 := by omega
    obtain ⟨v2, hv2, hv0, hv1⟩ := lit_u32 ((ht2.block q.heap.size (by omega)).trans (heap_alloc_new q _)) (by decide) r2 (by simpa using hr2')
    have hO2 := ((unhide HQ).step ((Nigh.refl _ _).alloc _) hsq (by omega) (by omega)).step (Nigh.of_touch ht2) hS2 (by omega) (by omega)
    have HO2 := hide hO2
    have hB2 := hS2.lt
    clear hnq hsq hr2 hS2 ht2 hO2
    go_wp2_with fail
    refine (put5 v2 2 w2 (by decide) hv0 hv1).mono ?_
    rintro e w3 ⟨t3, rfl, _, hb3⟩
    have hO3 := (unhide HO2).step (Nigh.of_below hb3) ((unhide HO2).s.same (hb3.block B hB2)) (by omega) (by omega)
    obtain ⟨x0, x1, f0, f1⟩ := row2o hO3.x
    have HO3 := hide hO3
    clear hO3 hb3 HO2
    have hOT := (unhide HO3).set t3 (by omega) (by omega) (by omega)
    have HO := hide hOT
    generalize hdt : t3 = dt at *
    clear hOT HO3 hdt
    go_wp2_with fail
    refine (src_one _ B sl n 10 (by decide) hn (unhide HO).s (unhide DB _ (unhide HO).g)).mono ?_
    rintro e w4 ⟨b4, rfl, hS4, ht4⟩
    have hO4 := (unhide HO).step (Nigh.of_touch ht4) hS4 (by omega) (by omega)
    have HO4 := hide hO4
    clear hO4 hS4 ht4 HO
    cases b4
    · obtain ⟨x0, x1, _, _⟩ := row2o (unhide HO4).x
      obtain ⟨y0, y1, f0, f1⟩ := row2o (unhide HO4).r
      have hfin := unhide FIN _ _ (unhide HO4)
      have HF := hide hfin
      clear hfin FIN HO4
      go_wp2
      refine bodyPost_ret (v := .agg #[.int .i64 _, .string dt]) (by simp [results, Tryd.results86, asAddr, (unhide HF).2.2]; rfl) rfl ⟨_, dt, rfl, (unhide HF).1, (unhide HF).2.1⟩
    · go_wp2_with fail
      refine (src_n _ B sl n 6 (by decide) hn (unhide HO4).s (unhide DB _ (unhide HO4).g)).mono ?_
      rintro e w5 ⟨r5, rfl, hr5, hS5, ht5⟩
      have hO5 := (unhide HO4).step (Nigh.of_touch ht5) hS5 (by omega) (by omega)
      have HO5 := hide hO5
      have hr5' : r5 < 100000 := by omega
      clear hO5 hS5 ht5 HO4 hr5
      go_wp2_with fail
      refine (src_bytes_n _ B sl n r5 hr5' hn (unhide HO5).s (unhide DB _ (unhide HO5).g)).mono ?_
      rintro e w6 ⟨xs, rfl, _, hS6, hn6⟩
      have hO6 := (unhide HO5).step hn6 hS6 (by omega) (by omega)
      generalize strOfNums xs = t6 at *
      obtain ⟨x0, x1, f0, f1⟩ := row2o hO6.x
      have hO7 := hO6.set t6 (by omega) (by omega) (by omega)
      have HO7 := hide hO7
      clear hO6 hn6 hS6 HO5 hO7
      go_upto_region 13 with fail
      refine gen_world (fun q => Ost w q B sl n w.heap.size w1.heap.size _ t6) (unhide HO7) ?_
      clear x0 x1 f0 f1 HO7
      rintro q2 hO7
      obtain ⟨x0, x1, _, _⟩ := row2o hO7.x
      obtain ⟨y0, y1, f0, f1⟩ := row2o hO7.r
      have HF := hide (unhide FIN _ _ hO7)
      clear FIN hO7
      go_wp2
      refine bodyPost_ret (v := .agg #[.int .i64 _, .string t6]) (by simp [results, Tryd.results86, asAddr, (unhide HF).2.2]; rfl) rfl ⟨_, t6, rfl, (unhide HF).1, (unhide HF).2.1⟩
  · have e1 : (kd == 1) = false := beq_eq_false_iff_ne.2 k1
    by_cases k2 : kd = 2
    · subst k2
      go_wp2_with fail
      have hnq : Nigh B w (q.alloc (.cells #[.int .i64 0, .int .i64 4294967295, .int .i64 131072, .int .i64 655360] 2)) := (unhide HQ).g.alloc _
      have hsq : Src (q.alloc (.cells #[.int .i64 0, .int .i64 4294967295, .int .i64 131072, .int .i64 655360] 2)) B sl n := (unhide HQ).s.same (Below.heap_alloc _ _ _ hBq)
      refine (src_n _ B sl n 4 (by decide) hn hsq (unhide DB _ hnq)).mono ?_
      rintro e w2 ⟨r2, rfl, hr2, hS2, ht2⟩
      have hr2' : r2 < 4 := by omega
      obtain ⟨v2, hv2, hv0, hv1⟩ := lit_u32 ((ht2.block q.heap.size (by omega)).trans (heap_alloc_new q _)) (by decide) r2 (by simpa using hr2')
      have hO2 := ((unhide HQ).step ((Nigh.refl _ _).alloc _) hsq (by omega) (by omega)).step (Nigh.of_touch ht2) hS2 (by omega) (by omega)
      have HO2 := hide hO2
      have hB2 := hS2.lt
      clear hnq hsq hr2 hS2 ht2 hO2
      go_wp2_with fail
      refine (put5 v2 4 w2 (by decide) hv0 hv1).mono ?_
      rintro e w3 ⟨t3, rfl, _, hb3⟩
      have hO3 := (unhide HO2).step (Nigh.of_below hb3) ((unhide HO2).s.same (hb3.block B hB2)) (by omega) (by omega)
      obtain ⟨x0, x1, f0, f1⟩ := row2o hO3.x
      have HO3 := hide hO3
      clear hO3 hb3 HO2
      have hOT := (unhide HO3).set t3 (by omega) (by omega) (by omega)
      have HO := hide hOT
      generalize hdt : t3 = dt at *
      clear hOT HO3 hdt
      go_wp2_with fail
      refine (src_one _ B sl n 10 (by decide) hn (unhide HO).s (unhide DB _ (unhide HO).g)).mono ?_
      rintro e w4 ⟨b4, rfl, hS4, ht4⟩
      have hO4 := (unhide HO).step (Nigh.of_touch ht4) hS4 (by omega) (by omega)
      have HO4 := hide hO4
      clear hO4 hS4 ht4 HO
      cases b4
      · obtain ⟨x0, x1, _, _⟩ := row2o (unhide HO4).x
        obtain ⟨y0, y1, f0, f1⟩ := row2o (unhide HO4).r
        have hfin := unhide FIN _ _ (unhide HO4)
        have HF := hide hfin
        clear hfin FIN HO4
        go_wp2
        refine bodyPost_ret (v := .agg #[.int .i64 _, .string dt]) (by simp [results, Tryd.results86, asAddr, (unhide HF).2.2]; rfl) rfl ⟨_, dt, rfl, (unhide HF).1, (unhide HF).2.1⟩
      · go_wp2_with fail
        refine (src_n _ B sl n 6 (by decide) hn (unhide HO4).s (unhide DB _ (unhide HO4).g)).mono ?_
        rintro e w5 ⟨r5, rfl, hr5, hS5, ht5⟩
        have hO5 := (unhide HO4).step (Nigh.of_touch ht5) hS5 (by omega) (by omega)
        have HO5 := hide hO5
        have hr5' : r5 < 100000 := by omega
        clear hO5 hS5 ht5 HO4 hr5
        go_wp2_with fail
        refine (src_bytes_n _ B sl n r5 hr5' hn (unhide HO5).s (unhide DB _ (unhide HO5).g)).mono ?_
        rintro e w6 ⟨xs, rfl, _, hS6, hn6⟩
        have hO6 := (unhide HO5).step hn6 hS6 (by omega) (by omega)
        generalize strOfNums xs = t6 at *
        obtain ⟨x0, x1, f0, f1⟩ := row2o hO6.x
        have hO7 := hO6.set t6 (by omega) (by omega) (by omega)
        have HO7 := hide hO7
        clear hO6 hn6 hS6 HO5 hO7
        go_upto_region 13 with fail
        refine gen_world (fun q => Ost w q B sl n w.heap.size w1.heap.size _ t6) (unhide HO7) ?_
        clear x0 x1 f0 f1 HO7
        rintro q2 hO7
        obtain ⟨x0, x1, _, _⟩ := row2o hO7.x
        obtain ⟨y0, y1, f0, f1⟩ := row2o hO7.r
        have HF := hide (unhide FIN _ _ hO7)
        clear FIN hO7
        go_wp2
        refine bodyPost_ret (v := .agg #[.int .i64 _, .string t6]) (by simp [results, Tryd.results86, asAddr, (unhide HF).2.2]; rfl) rfl ⟨_, t6, rfl, (unhide HF).1, (unhide HF).2.1⟩
    · have e2 : (kd == 2) = false := beq_eq_false_iff_ne.2 k2
      by_cases k5 : kd = 5
      · subst k5
        go_wp2_with fail
        have hnq : Nigh B w (q.alloc (.cells #[.int .i64 0, .int .i64 5, .int .i64 77, .int .i64 4294967295, .int .i64 1073741824] 2)) := (unhide HQ).g.alloc _
        have hsq : Src (q.alloc (.cells #[.int .i64 0, .int .i64 5, .int .i64 77, .int .i64 4294967295, .int .i64 1073741824] 2)) B sl n := (unhide HQ).s.same (Below.heap_alloc _ _ _ hBq)
        refine (src_n _ B sl n 5 (by decide) hn hsq (unhide DB _ hnq)).mono ?_
        rintro e w2 ⟨r2, rfl, hr2, hS2, ht2⟩
        have hr2' : r2 < 5 := by omega
        obtain ⟨v2, hv2, hv0, hv1⟩ := lit_u32 ((ht2.block q.heap.size (by omega)).trans (heap_alloc_new q _)) (by decide) r2 (by simpa using hr2')
        have hO2 := ((unhide HQ).step ((Nigh.refl _ _).alloc _) hsq (by omega) (by omega)).step (Nigh.of_touch ht2) hS2 (by omega) (by omega)
        have HO2 := hide hO2
        have hB2 := hS2.lt
        clear hnq hsq hr2 hS2 ht2 hO2
        go_wp2_with fail
        refine (put5 v2 4 w2 (by decide) hv0 hv1).mono ?_
        rintro e w3 ⟨t3, rfl, _, hb3⟩
        have hO3 := (unhide HO2).step (Nigh.of_below hb3) ((unhide HO2).s.same (hb3.block B hB2)) (by omega) (by omega)
        obtain ⟨x0, x1, f0, f1⟩ := row2o hO3.x
        have HO3 := hide hO3
        clear hO3 hb3 HO2
        have hOT := (unhide HO3).set t3 (by omega) (by omega) (by omega)
        have HO := hide hOT
        generalize hdt : t3 = dt at *
        clear hOT HO3 hdt
        go_wp2_with fail
        refine (src_one _ B sl n 10 (by decide) hn (unhide HO).s (unhide DB _ (unhide HO).g)).mono ?_
        rintro e w4 ⟨b4, rfl, hS4, ht4⟩
        have hO4 := (unhide HO).step (Nigh.of_touch ht4) hS4 (by omega) (by omega)
        have HO4 := hide hO4
        clear hO4 hS4 ht4 HO
        cases b4
        · obtain ⟨x0, x1, _, _⟩ := row2o (unhide HO4).x
          obtain ⟨y0, y1, f0, f1⟩ := row2o (unhide HO4).r
          have hfin := unhide FIN _ _ (unhide HO4)
          have HF := hide hfin
          clear hfin FIN HO4
          go_wp2
          refine bodyPost_ret (v := .agg #[.int .i64 _, .string dt]) (by simp [results, Tryd.results86, asAddr, (unhide HF).2.2]; rfl) rfl ⟨_, dt, rfl, (unhide HF).1, (unhide HF).2.1⟩
        · go_wp2_with fail
          refine (src_n _ B sl n 6 (by decide) hn (unhide HO4).s (unhide DB _ (unhide HO4).g)).mono ?_
          rintro e w5 ⟨r5, rfl, hr5, hS5, ht5⟩
          have hO5 := (unhide HO4).step (Nigh.of_touch ht5) hS5 (by omega) (by omega)
          have HO5 := hide hO5
          have hr5' : r5 < 100000 := by omega
          clear hO5 hS5 ht5 HO4 hr5
          go_wp2_with fail
          refine (src_bytes_n _ B sl n r5 hr5' hn (unhide HO5).s (unhide DB _ (unhide HO5).g)).mono ?_
          rintro e w6 ⟨xs, rfl, _, hS6, hn6⟩
          have hO6 := (unhide HO5).step hn6 hS6 (by omega) (by omega)
          generalize strOfNums xs = t6 at *
          obtain ⟨x0, x1, f0, f1⟩ := row2o hO6.x
          have hO7 := hO6.set t6 (by omega) (by omega) (by omega)
          have HO7 := hide hO7
          clear hO6 hn6 hS6 HO5 hO7
          go_upto_region 13 with fail
          refine gen_world (fun q => Ost w q B sl n w.heap.size w1.heap.size _ t6) (unhide HO7) ?_
          clear x0 x1 f0 f1 HO7
          rintro q2 hO7
          obtain ⟨x0, x1, _, _⟩ := row2o hO7.x
          obtain ⟨y0, y1, f0, f1⟩ := row2o hO7.r
          have HF := hide (unhide FIN _ _ hO7)
          clear FIN hO7
          go_wp2
          refine bodyPost_ret (v := .agg #[.int .i64 _, .string t6]) (by simp [results, Tryd.results86, asAddr, (unhide HF).2.2]; rfl) rfl ⟨_, t6, rfl, (unhide HF).1, (unhide HF).2.1⟩
      · have e5 : (kd == 5) = false := beq_eq_false_iff_ne.2 k5
        by_cases k9 : kd = 9
        · subst k9
          go_wp2_with fail
          have hnq : Nigh B w (q.alloc (.cells #[.int .i64 2, .int .i64 4, .int .i64 1, .int .i64 6] 2)) := (unhide HQ).g.alloc _
          have hsq : Src (q.alloc (.cells #[.int .i64 2, .int .i64 4, .int .i64 1, .int .i64 6] 2)) B sl n := (unhide HQ).s.same (Below.heap_alloc _ _ _ hBq)
          refine (src_n _ B sl n 4 (by decide) hn hsq (unhide DB _ hnq)).mono ?_
          rintro e w2 ⟨r2, rfl, hr2, hS2, ht2⟩
          have hr2' : r2 < 4 := by omega
          obtain ⟨v2, hv2, hv0, hv1⟩ := lit_u32 ((ht2.block q.heap.size (by omega)).trans (heap_alloc_new q _)) (by decide) r2 (by simpa using hr2')
          have hO2 := ((unhide HQ).step ((Nigh.refl _ _).alloc _) hsq (by omega) (by omega)).step (Nigh.of_touch ht2) hS2 (by omega) (by omega)
          have HO2 := hide hO2
          have hB2 := hS2.lt
          clear hnq hsq hr2 hS2 ht2 hO2
          go_wp2_with fail
          refine (put5 v2 1 w2 (by decide) hv0 hv1).mono ?_
          rintro e w3 ⟨t3, rfl, _, hb3⟩
          have hO3 := (unhide HO2).step (Nigh.of_below hb3) ((unhide HO2).s.same (hb3.block B hB2)) (by omega) (by omega)
          obtain ⟨x0, x1, f0, f1⟩ := row2o hO3.x
          have HO3 := hide hO3
          clear hO3 hb3 HO2
          have hOT := (unhide HO3).set t3 (by omega) (by omega) (by omega)
          have HO := hide hOT
          generalize hdt : t3 = dt at *
          clear hOT HO3 hdt
          go_wp2_with fail
          refine (src_one _ B sl n 10 (by decide) hn (unhide HO).s (unhide DB _ (unhide HO).g)).mono ?_
          rintro e w4 ⟨b4, rfl, hS4, ht4⟩
          have hO4 := (unhide HO).step (Nigh.of_touch ht4) hS4 (by omega) (by omega)
          have HO4 := hide hO4
          clear hO4 hS4 ht4 HO
          cases b4
          · obtain ⟨x0, x1, _, _⟩ := row2o (unhide HO4).x
            obtain ⟨y0, y1, f0, f1⟩ := row2o (unhide HO4).r
            have hfin := unhide FIN _ _ (unhide HO4)
            have HF := hide hfin
            clear hfin FIN HO4
            go_wp2
            refine bodyPost_ret (v := .agg #[.int .i64 _, .string dt]) (by simp [results, Tryd.results86, asAddr, (unhide HF).2.2]; rfl) rfl ⟨_, dt, rfl, (unhide HF).1, (unhide HF).2.1⟩
          · go_wp2_with fail
            refine (src_n _ B sl n 6 (by decide) hn (unhide HO4).s (unhide DB _ (unhide HO4).g)).mono ?_
            rintro e w5 ⟨r5, rfl, hr5, hS5, ht5⟩
            have hO5 := (unhide HO4).step (Nigh.of_touch ht5) hS5 (by omega) (by omega)
            have HO5 := hide hO5
            have hr5' : r5 < 100000 := by omega
            clear hO5 hS5 ht5 HO4 hr5
            go_wp2_with fail
            refine (src_bytes_n _ B sl n r5 hr5' hn (unhide HO5).s (unhide DB _ (unhide HO5).g)).mono ?_
            rintro e w6 ⟨xs, rfl, _, hS6, hn6⟩
            have hO6 := (unhide HO5).step hn6 hS6 (by omega) (by omega)
            generalize strOfNums xs = t6 at *
            obtain ⟨x0, x1, f0, f1⟩ := row2o hO6.x
            have hO7 := hO6.set t6 (by omega) (by omega) (by omega)
            have HO7 := hide hO7
            clear hO6 hn6 hS6 HO5 hO7
            go_upto_region 13 with fail
            refine gen_world (fun q => Ost w q B sl n w.heap.size w1.heap.size _ t6) (unhide HO7) ?_
            clear x0 x1 f0 f1 HO7
            rintro q2 hO7
            obtain ⟨x0, x1, _, _⟩ := row2o hO7.x
            obtain ⟨y0, y1, f0, f1⟩ := row2o hO7.r
            have HF := hide (unhide FIN _ _ hO7)
            clear FIN hO7
            go_wp2
            refine bodyPost_ret (v := .agg #[.int .i64 _, .string t6]) (by simp [results, Tryd.results86, asAddr, (unhide HF).2.2]; rfl) rfl ⟨_, t6, rfl, (unhide HF).1, (unhide HF).2.1⟩
        · have e9 : (kd == 9) = false := beq_eq_false_iff_ne.2 k9
          have HO := HQ
          generalize hdt : (⟨#[]⟩ : ByteArray) = dt at HO
          clear HQ hdt
          go_wp2_with fail
          refine (src_one _ B sl n 10 (by decide) hn (unhide HO).s (unhide DB _ (unhide HO).g)).mono ?_
          rintro e w4 ⟨b4, rfl, hS4, ht4⟩
          have hO4 := (unhide HO).step (Nigh.of_touch ht4) hS4 (by omega) (by omega)
          have HO4 := hide hO4
          clear hO4 hS4 ht4 HO
          cases b4
          · obtain ⟨x0, x1, _, _⟩ := row2o (unhide HO4).x
            obtain ⟨y0, y1, f0, f1⟩ := row2o (unhide HO4).r
            have hfin := unhide FIN _ _ (unhide HO4)
            have HF := hide hfin
            clear hfin FIN HO4
            go_wp2
            refine bodyPost_ret (v := .agg #[.int .i64 _, .string dt]) (by simp [results, Tryd.results86, asAddr, (unhide HF).2.2]; rfl) rfl ⟨_, dt, rfl, (unhide HF).1, (unhide HF).2.1⟩
          · go_wp2_with fail
            refine (src_n _ B sl n 6 (by decide) hn (unhide HO4).s (unhide DB _ (unhide HO4).g)).mono ?_
            rintro e w5 ⟨r5, rfl, hr5, hS5, ht5⟩
            have hO5 := (unhide HO4).step (Nigh.of_touch ht5) hS5 (by omega) (by omega)
            have HO5 := hide hO5
            have hr5' : r5 < 100000 := by omega
            clear hO5 hS5 ht5 HO4 hr5
            go_wp2_with fail
            refine (src_bytes_n _ B sl n r5 hr5' hn (unhide HO5).s (unhide DB _ (unhide HO5).g)).mono ?_
            rintro e w6 ⟨xs, rfl, _, hS6, hn6⟩
            have hO6 := (unhide HO5).step hn6 hS6 (by omega) (by omega)
            generalize strOfNums xs = t6 at *
            obtain ⟨x0, x1, f0, f1⟩ := row2o hO6.x
            have hO7 := hO6.set t6 (by omega) (by omega) (by omega)
            have HO7 := hide hO7
            clear hO6 hn6 hS6 HO5 hO7
            go_upto_region 13 with fail
            refine gen_world (fun q => Ost w q B sl n w.heap.size w1.heap.size _ t6) (unhide HO7) ?_
            clear x0 x1 f0 f1 HO7
            rintro q2 hO7
            obtain ⟨x0, x1, _, _⟩ := row2o hO7.x
            obtain ⟨y0, y1, f0, f1⟩ := row2o hO7.r
            have HF := hide (unhide FIN _ _ hO7)
            clear FIN hO7
            go_wp2
            refine bodyPost_ret (v := .agg #[.int .i64 _, .string t6]) (by simp [results, Tryd.results86, asAddr, (unhide HF).2.2]; rfl) rfl ⟨_, t6, rfl, (unhide HF).1, (unhide HF).2.1⟩
end Go.Proofs.YtgelbobocjgdaaaDoor
