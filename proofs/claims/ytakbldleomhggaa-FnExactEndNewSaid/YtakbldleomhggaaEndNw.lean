/- The model's EndNew; what lay in memory stands. -/
import Derived.Test.YtakbldleomhggaaEndTo
import Derived.Great.Walk
namespace Go.Proofs.Ytakbldleomhggaa
open Go.RowKit
/-- The zero End, and a new one. -/
def enZero : En := ⟨0, 0, 0, false, false, false, 0, 0, 0, false, false, false, 0, 0, 0, 0, 0, false, 0, 0, false, false, false, 0, 0, false, false, false⟩
def enFresh (m a g : Int) (p c d : Bool) : En := ⟨m, a, g, p, c, d, m, a, g, p, c, d, 0, 0, -1, 0, 0, false, 0, 0, false, false, false, 0, 0, false, false, false⟩
/-- What EndNew answers. -/
def enNew (m a g : Int) (p c d : Bool) : En := if cfgOk m a g = true then enFresh m a g p c d else enZero
set_option maxHeartbeats 2000000 in
set_option maxRecDepth 100000 in
theorem specEndNew (m a g : Int) (p c d : Bool) (w : World) : Calls Try.prog 24 #[.agg #[.int .i64 m, .int .i64 a, .int .i64 g, .bool p, .bool c, .bool d]] w fun r w' => r = .returned (.agg (enC (enNew m a g p c d) (.slice none 0 0) (.slice none 0 0))) ∧ Below w.heap.size w w' := by
  have C := hide fun v => specCfg m a g p c d v
  obtain ⟨_, hA, hR, hb⟩ := start2r w (.cells #[.int .i64 m, .int .i64 a, .int .i64 g, .bool p, .bool c, .bool d] 41) (.cells #[.int .i64 0, .int .i64 0, .int .i64 0, .bool false, .bool false, .bool false, .int .i64 0, .int .i64 0, .int .i64 0, .bool false, .bool false, .bool false, .int .i64 0, .int .i64 0, .int .i64 0, .int .i64 0, .int .i64 0, .slice none 0 0, .slice none 0 0, .bool false, .int .i64 0, .int .i64 0, .bool false, .bool false, .bool false, .int .i64 0, .int .i64 0, .bool false, .bool false, .bool false] 50)
  have H0 := hide (And.intro hA (And.intro hR hb))
  clear hA hR hb
  unfold enNew
  cases hq : cfgOk m a g
  · rw [if_neg (by decide)]
    rw [hq] at C
    show Calls Try.prog 24 #[.agg #[.int .i64 m, .int .i64 a, .int .i64 g, .bool p, .bool c, .bool d]] w fun r w' => r = .returned (.agg #[.int .i64 0, .int .i64 0, .int .i64 0, .bool false, .bool false, .bool false, .int .i64 0, .int .i64 0, .int .i64 0, .bool false, .bool false, .bool false, .int .i64 0, .int .i64 0, .int .i64 0, .int .i64 0, .int .i64 0, .slice none 0 0, .slice none 0 0, .bool false, .int .i64 0, .int .i64 0, .bool false, .bool false, .bool false, .int .i64 0, .int .i64 0, .bool false, .bool false, .bool false]) ∧ Below w.heap.size w w'
    go_enter Try.func24, Try.ntmps24
    go_wp2_with fail
    refine (unhide C _).mono ?_
    rintro r w1 ⟨rfl, hb1⟩
    obtain ⟨hA, hR, hb⟩ := unhide H0
    have hR1 := (hb1.block (w.heap.size + 1) (by simp)).trans hR
    have hB1 := hb.trans (hb1.mono hb.size)
    have H1 := hide (And.intro hR1 hB1)
    clear hA hR hb hR1 hB1 hb1 H0 C
    go_upto_region 2 with fail
    apply wp_region_lit
    refine wpList_buildTo rfl 50 _ rfl (some 6) rfl #[.int .i64 0, .int .i64 0, .int .i64 0, .bool false, .bool false, .bool false, .int .i64 0, .int .i64 0, .int .i64 0, .bool false, .bool false, .bool false, .int .i64 0, .int .i64 0, .int .i64 0, .int .i64 0, .int .i64 0, .slice none 0 0, .slice none 0 0, .bool false, .int .i64 0, .int .i64 0, .bool false, .bool false, .bool false, .int .i64 0, .int .i64 0, .bool false, .bool false, .bool false] (by as_aux_lemma => kernel_rfl) ?_
    refine wpList_store_rowTo rfl 50 (.tmp 2) (.tmp 6) rfl rfl (w.heap.size + 1) #[.int .i64 0, .int .i64 0, .int .i64 0, .bool false, .bool false, .bool false, .int .i64 0, .int .i64 0, .int .i64 0, .bool false, .bool false, .bool false, .int .i64 0, .int .i64 0, .int .i64 0, .int .i64 0, .int .i64 0, .slice none 0 0, .slice none 0 0, .bool false, .int .i64 0, .int .i64 0, .bool false, .bool false, .bool false, .int .i64 0, .int .i64 0, .bool false, .bool false, .bool false] rfl rfl 50 _ (unhide H1).1 infoE rfl (by kernel_rfl) ?_
    apply wpList_nil
    simp only [Act.put, List.setIfInBounds_toArray, List.set_cons_zero, List.set_cons_succ]
    go_wp2
    exact bodyPost_ret (v := .agg #[.int .i64 0, .int .i64 0, .int .i64 0, .bool false, .bool false, .bool false, .int .i64 0, .int .i64 0, .int .i64 0, .bool false, .bool false, .bool false, .int .i64 0, .int .i64 0, .int .i64 0, .int .i64 0, .int .i64 0, .slice none 0 0, .slice none 0 0, .bool false, .int .i64 0, .int .i64 0, .bool false, .bool false, .bool false, .int .i64 0, .int .i64 0, .bool false, .bool false, .bool false]) (by simp [results, Try.results24, asAddr, loadEn (setRow_heap w1 (w.heap.size + 1) _ #[.int .i64 0, .int .i64 0, .int .i64 0, .bool false, .bool false, .bool false, .int .i64 0, .int .i64 0, .int .i64 0, .bool false, .bool false, .bool false, .int .i64 0, .int .i64 0, .int .i64 0, .int .i64 0, .int .i64 0, .slice none 0 0, .slice none 0 0, .bool false, .int .i64 0, .int .i64 0, .bool false, .bool false, .bool false, .int .i64 0, .int .i64 0, .bool false, .bool false, .bool false] _ _ (unhide H1).1)]) rfl ⟨rfl, below_row (unhide H1).2 (by omega) _⟩
  · rw [if_pos rfl]
    rw [hq] at C
    show Calls Try.prog 24 #[.agg #[.int .i64 m, .int .i64 a, .int .i64 g, .bool p, .bool c, .bool d]] w fun r w' => r = .returned (.agg #[.int .i64 m, .int .i64 a, .int .i64 g, .bool p, .bool c, .bool d, .int .i64 m, .int .i64 a, .int .i64 g, .bool p, .bool c, .bool d, .int .i64 0, .int .i64 0, .int .i64 (-1), .int .i64 0, .int .i64 0, .slice none 0 0, .slice none 0 0, .bool false, .int .i64 0, .int .i64 0, .bool false, .bool false, .bool false, .int .i64 0, .int .i64 0, .bool false, .bool false, .bool false]) ∧ Below w.heap.size w w'
    go_enter Try.func24, Try.ntmps24
    go_wp2_with fail
    refine (unhide C _).mono ?_
    rintro r w1 ⟨rfl, hb1⟩
    obtain ⟨hA, hR, hb⟩ := unhide H0
    have hA1 := (hb1.block w.heap.size (by simp; omega)).trans hA
    have hR1 := (hb1.block (w.heap.size + 1) (by simp)).trans hR
    have hB1 := hb.trans (hb1.mono hb.size)
    have H1 := hide (And.intro hA1 (And.intro hR1 hB1))
    clear hA hR hb hA1 hR1 hB1 hb1 H0 C
    go_upto_region 3 with fail
    apply wp_region_lit
    refine wpList_load_row rfl 41 (.tmp 1) rfl w.heap.size rfl 41 #[.int .i64 m, .int .i64 a, .int .i64 g, .bool p, .bool c, .bool d] (0, 0) _ (unhide H1).1 Try.underlying41 rfl (by kernel_rfl) ?_
    refine wpList_load_row rfl 41 (.tmp 1) rfl w.heap.size rfl 41 #[.int .i64 m, .int .i64 a, .int .i64 g, .bool p, .bool c, .bool d] (0, 0) _ (unhide H1).1 Try.underlying41 rfl (by kernel_rfl) ?_
    refine wpList_buildTo rfl 50 _ rfl (some 9) rfl #[.int .i64 m, .int .i64 a, .int .i64 g, .bool p, .bool c, .bool d, .int .i64 m, .int .i64 a, .int .i64 g, .bool p, .bool c, .bool d, .int .i64 0, .int .i64 0, .int .i64 (-1), .int .i64 0, .int .i64 0, .slice none 0 0, .slice none 0 0, .bool false, .int .i64 0, .int .i64 0, .bool false, .bool false, .bool false, .int .i64 0, .int .i64 0, .bool false, .bool false, .bool false] (by as_aux_lemma => kernel_rfl) ?_
    refine wpList_store_rowTo rfl 50 (.tmp 2) (.tmp 9) rfl rfl (w.heap.size + 1) #[.int .i64 m, .int .i64 a, .int .i64 g, .bool p, .bool c, .bool d, .int .i64 m, .int .i64 a, .int .i64 g, .bool p, .bool c, .bool d, .int .i64 0, .int .i64 0, .int .i64 (-1), .int .i64 0, .int .i64 0, .slice none 0 0, .slice none 0 0, .bool false, .int .i64 0, .int .i64 0, .bool false, .bool false, .bool false, .int .i64 0, .int .i64 0, .bool false, .bool false, .bool false] rfl rfl 50 _ (unhide H1).2.1 infoE rfl (by kernel_rfl) ?_
    apply wpList_nil
    simp only [Act.put, List.setIfInBounds_toArray, List.set_cons_zero, List.set_cons_succ]
    go_wp2
    exact bodyPost_ret (v := .agg #[.int .i64 m, .int .i64 a, .int .i64 g, .bool p, .bool c, .bool d, .int .i64 m, .int .i64 a, .int .i64 g, .bool p, .bool c, .bool d, .int .i64 0, .int .i64 0, .int .i64 (-1), .int .i64 0, .int .i64 0, .slice none 0 0, .slice none 0 0, .bool false, .int .i64 0, .int .i64 0, .bool false, .bool false, .bool false, .int .i64 0, .int .i64 0, .bool false, .bool false, .bool false]) (by simp [results, Try.results24, asAddr, loadEn (setRow_heap w1 (w.heap.size + 1) _ #[.int .i64 m, .int .i64 a, .int .i64 g, .bool p, .bool c, .bool d, .int .i64 m, .int .i64 a, .int .i64 g, .bool p, .bool c, .bool d, .int .i64 0, .int .i64 0, .int .i64 (-1), .int .i64 0, .int .i64 0, .slice none 0 0, .slice none 0 0, .bool false, .int .i64 0, .int .i64 0, .bool false, .bool false, .bool false, .int .i64 0, .int .i64 0, .bool false, .bool false, .bool false] _ _ (unhide H1).2.1)]) rfl ⟨rfl, below_row (unhide H1).2.2 (by omega) _⟩
end Go.Proofs.Ytakbldleomhggaa
