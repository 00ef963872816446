/- slices.Repeat of one number, up to eight times; what lay in memory stands. -/
import Derived.Test.YtmcabmddnalihaaIvR
import Derived.Laws.CopyOwn
import Derived.Deep.OwnRows
import Derived.Deep.DeepCutAuto
import Derived.Deep.RegionHeld
namespace Go.Proofs.Ytmcabmddnalihaa
open Go.RowKit
set_option maxHeartbeats 2000000 in
theorem mul64 (n : Nat) (hn : 1 ≤ n ∧ n ≤ 8) (w : World) : Calls Try.prog 56 #[.int .u64 1, .int .u64 n] w fun e w' => e = .returned (.tuple #[.int .u64 0, .int .u64 n]) ∧ w' = w := by
  obtain ⟨h1, h8⟩ := hn
  have b0 : bits .and .u64 0 4294967295 = 0 := by decide
  have b1 : bits .and .u64 1 4294967295 = 1 := by decide
  have bn : bits .and .u64 (n : Int) 4294967295 = (n : Int) := by
    have hc : n = 1 ∨ n = 2 ∨ n = 3 ∨ n = 4 ∨ n = 5 ∨ n = 6 ∨ n = 7 ∨ n = 8 := by omega
    rcases hc with rfl | rfl | rfl | rfl | rfl | rfl | rfl | rfl <;> decide
  have hd : (n : Int) / 4294967296 = 0 := by omega
  go_enter Try.func56, Try.ntmps56
  go_wp2
  go_ret2
  exact ⟨rfl, rfl⟩
set_option maxHeartbeats 2000000 in
theorem mulU (n : Nat) (hn : 1 ≤ n ∧ n ≤ 8) (w : World) : Calls Try.prog 54 #[.int .u64 1, .int .u64 n] w fun e w' => e = .returned (.tuple #[.int .u64 0, .int .u64 n]) ∧ w' = w := by
  have C := hide fun v => mul64 n hn v
  go_enter Try.func54, Try.ntmps54
  go_wp2_with fail
  refine (unhide C _).mono ?_
  rintro e w2 ⟨rfl, hw⟩
  replace hw := hw.symm
  subst hw
  go_wp2
  go_ret2
  exact ⟨rfl, rfl⟩
theorem isz : (Try.prog.info? 2).map (·.size) = some 1 := by kernel_rfl
/-- So many are -1. -/
def rw1 (n c : Nat) : List Value := List.replicate c (.int .i64 (-1)) ++ List.replicate (n - c) (.int .i64 0)
theorem rw1_len (n c : Nat) (h : c ≤ n) : (rw1 n c).length = n := by unfold rw1; simp; omega
theorem rw1_splice (n c : Nat) (h1 : 1 ≤ c) (h2 : c ≤ n) : splice (rw1 n c) c (List.replicate (min c (n - c)) (.int .i64 (-1))) = rw1 n (c + min c (n - c)) := by
  unfold splice rw1
  rw [List.length_replicate]
  rw [List.take_append_of_le_length (by simp), List.take_of_length_le (by simp), List.drop_append, List.drop_eq_nil_of_le (by simp), List.length_replicate, List.nil_append, List.drop_replicate, ← List.append_assoc, List.replicate_append_replicate]
  congr 2
  omega
theorem rw_src {w : World} {g n c : Nat} {m : Nat} (h : w.heap[g]? = some (.cells (rw1 n c).toArray 2)) : ∀ j v, (List.replicate (min c m) (Value.int .i64 (-1)))[j]? = some v → w.cell? ((⟨g, 0, none⟩ : Addr).add j) = some v := by
  intro j v hv
  rw [Addr.add_lit, Nat.zero_add, cell_of_row _ _ _ _ _ _ h, List.getElem?_toArray]
  rw [List.getElem?_replicate] at hv
  split at hv
  · rename_i hj
    unfold rw1
    rw [List.getElem?_append_left (by simp; omega), List.getElem?_replicate, if_pos (by omega)]
    exact hv
  · cases hv
theorem rw1_first (n : Nat) : splice (rw1 n 0) 0 [.int .i64 (-1)] = rw1 n 1 := by
  unfold splice rw1
  simp
theorem made_rw (n : Nat) : (madeCells (Value.int .i64 0).cells (n * 1)).toList = rw1 n 0 := by
  unfold madeCells rw1
  rw [show (Value.int .i64 0).cells = #[.int .i64 0] from rfl]
  simp [Nat.mod_one, List.eq_replicate_iff]
theorem rep_made {n : Nat} {w w1 : World} {B : Nat} (hB : w.heap[B]? = some (.cells #[.int .i64 (-1)] 2)) (ho : w1.ownsRow w.heap.size 2 1 (.slice (some ⟨w.heap.size, 0, none⟩) n n) n (madeCells (Value.int .i64 0).cells (n * 1)).toList) (hg : w.grownBy w1 none) :
    Hid (w1.heap[w.heap.size]? = some (.cells (rw1 n 0).toArray 2) ∧ Below w.heap.size w w1 ∧ ∀ j v, ([Value.int .i64 (-1)] : List Value)[j]? = some v → w1.cell? ((⟨B, 0, none⟩ : Addr).add j) = some v) := by
  have hb1 : Below w.heap.size w w1 := (Below.refl _ _).grown hg (Nat.le_refl _) (fun k hk => by cases hk)
  rw [made_rw n] at ho
  have hl : B < w.heap.size := (Array.getElem?_eq_some_iff.1 hB).1
  refine hide ⟨?_, hb1, fun j v hv => ?_⟩
  · rcases ho.2 with ⟨k, _⟩ | ⟨g', cap, cur, k1, _, k3, _, _, k6, k7⟩
    · cases k
    · simp only [Value.slice.injEq, Option.some.injEq, Addr.mk.injEq, true_and, and_true] at k1
      obtain ⟨rfl, rfl⟩ := k1
      rw [k3]
      congr 2
      rw [← k7, List.take_of_length_le (by simp; omega)]
  · have hj : j = 0 := by
      cases j with
      | zero => rfl
      | succ j => simp at hv
    subst hj
    simp only [List.getElem?_cons_zero, Option.some.injEq] at hv
    subst hv
    rw [Addr.add_lit, cell_of_row _ _ _ _ _ _ ((hb1.block B hl).trans hB)]
    rfl
theorem rep_first {n : Nat} (hn : 1 ≤ n) {w w1 : World} {B : Nat} (hB : w.heap[B]? = some (.cells #[.int .i64 (-1)] 2)) (ho : w1.ownsRow w.heap.size 2 1 (.slice (some ⟨w.heap.size, 0, none⟩) n n) n (madeCells (Value.int .i64 0).cells (n * 1)).toList) (hg : w.grownBy w1 none) :
    ∃ w3, (Builtin.copy_ #[37, 37] 3 #[.slice (some ⟨w.heap.size, 0, none⟩) n n, .slice (some ⟨B, 0, none⟩) 1 1]).run Try.prog w1 = .ok (.int .i64 1) w3 ∧ Hid (w3.heap[w.heap.size]? = some (.cells (rw1 n 1).toArray 2) ∧ Below w.heap.size w w3) := by
  obtain ⟨h1, h2, h3⟩ := unhide (rep_made hB ho hg)
  refine ⟨_, run_copy_row (P := Try.prog) w1 37 37 3 2 w.heap.size 0 n n ⟨B, 0, none⟩ 1 1 (rw1 n 0).toArray 2 [.int .i64 (-1)] Try.underlying37 isz h1 (by show 1 = min 1 n; omega) h3 (by rw [List.size_toArray, rw1_len n 0 (Nat.zero_le _)]; exact hn) (by intro v hv; simp at hv; rw [hv]; rfl), hide ⟨?_, below_setRow h2 (Nat.le_refl _) _⟩⟩
  rw [setRow_heap _ _ _ _ _ _ h1, ← rw1_first n]
  simp [splice]
set_option linter.unusedSimpArgs false in
set_option maxHeartbeats 4000000 in
theorem rep (n : Nat) (hn : 1 ≤ n ∧ n ≤ 8) (w : World) (B : Nat) (hB : w.heap[B]? = some (.cells #[.int .i64 (-1)] 2)) : Calls Try.prog 43 #[.slice (some ⟨B, 0, none⟩) 1 1, .int .i64 n] w fun e w' => e = .returned (.slice (some ⟨w.heap.size, 0, none⟩) n n) ∧ w'.heap[w.heap.size]? = some (.cells (rw1 n n).toArray 2) ∧ Below w.heap.size w w' := by
  have C := hide fun v => mulU n hn v
  obtain ⟨hn1, hn8⟩ := hn
  have hl : B < w.heap.size := (Array.getElem?_eq_some_iff.1 hB).1
  have c0 : w.cell? ⟨B, 0, none⟩ = some (.int .i64 (-1)) := by rw [cell_of_row _ _ 0 _ _ (0, 0) hB]; rfl
  obtain ⟨i0, hi0, hz0, hz1, hz2⟩ := iinfo
  go_enter Try.func43, Try.ntmps43
  go_wp2_with fail
  refine (unhide C _).mono ?_
  rintro e w2 ⟨rfl, hw⟩
  replace hw := hw.symm
  subst hw
  go_wp2_with (first
    | (at_make; refine wpList_make_full w rfl _ _ 37 rfl w.heap.size 2 i0 _ 1 Try.underlying37 hi0 hz0 hz1 .i64 .i64 _ _ n rfl rfl rfl rfl (by rw [hz2]; omega) (by unfold maxLen; omega) (Nat.le_refl _) ?_; rintro w1 ho1 hg1; obtain ⟨w3, hcp, HC3⟩ := rep_first hn1 hB ho1 hg1; clear ho1 hg1))
  go_loopw [8] (fun v wr => ∃ (c : Nat), 1 ≤ c ∧ c ≤ n ∧ v = .int .i64 c ∧ wr.heap[w.heap.size]? = some (.cells (rw1 n c).toArray 2) ∧ Below w.heap.size w wr) (fun v _ => n - (intOf v).toNat)
  case atStart => exact ⟨1, Nat.le_refl _, hn1, rfl, (unhide HC3).1, (unhide HC3).2⟩
  case round =>
    obtain ⟨c, hc1, hcn, rfl, hcw, hcb⟩ := hrel
    have HC := hide (And.intro hcw hcb)
    clear hcw hcb HC3 C
    by_cases hlt : c < n
    · have d1 : (c : Int) < (n : Int) := by omega
      have d2 : ¬ (n = c) := by omega
      go_upto_region 9 with fail
      refine wp_region_held_drew (S := fun _ => True) (by kernel_rfl) trivial (fun hHeld => ?_)
      have HY := hide (And.intro (show wr.drew.heap[w.heap.size]? = _ from (unhide HC).1) (unhide HC).2.drew)
      generalize wr.drew = y at HY hHeld ⊢
      refine wpAnyH_take (i := 0) (v := ?vp0) rfl (by kernel_rfl) (by kernel_rfl) (by kernel_rfl) (fun _ _ _ h => h) (Or.inl ⟨by rfl, ?hyp0⟩) (by assumption) ?_
      case hyp0 =>
        intro w hSw
        try dsimp only at hSw
        go_simp
        try with_reducible rfl
      try simp only [Act.put, List.setIfInBounds_toArray, List.set_cons_zero, List.set_cons_succ, List.getElem_toArray, List.getElem_cons_zero]
      refine wpAnyH_take (i := 1) (v := ?vp1) rfl (by kernel_rfl) (by kernel_rfl) (by kernel_rfl) (fun _ _ _ h => h) (Or.inl ⟨by rfl, ?hyp1⟩) (by assumption) ?_
      case hyp1 =>
        intro w hSw
        try dsimp only at hSw
        go_simp
        try with_reducible rfl
      try simp only [Act.put, List.setIfInBounds_toArray, List.set_cons_zero, List.set_cons_succ, List.getElem_toArray, List.getElem_cons_zero, List.getElem_cons_succ]
      refine wpAnyH_take (i := 2) (v := ?vp2) rfl (by kernel_rfl) (by kernel_rfl) (by kernel_rfl) (fun _ _ _ h => h) (Or.inl ⟨by rfl, ?hyp2⟩) (by assumption) ?_
      case hyp2 =>
        intro w hSw
        try dsimp only at hSw
        go_simp
        try with_reducible rfl
      try simp only [Act.put, List.setIfInBounds_toArray, List.set_cons_zero, List.set_cons_succ, List.getElem_toArray, List.getElem_cons_zero, List.getElem_cons_succ]
      refine wpAnyH_take (i := 3) (v := ?vp3) rfl (by kernel_rfl) (by kernel_rfl) (by kernel_rfl) (fun _ _ _ h => h) (Or.inl ⟨by rfl, ?hyp3⟩) (by assumption) ?_
      case hyp3 =>
        intro w hSw
        try dsimp only at hSw
        go_simp
        try with_reducible rfl
      try simp only [Act.put, List.setIfInBounds_toArray, List.set_cons_zero, List.set_cons_succ, List.getElem_toArray, List.getElem_cons_zero, List.getElem_cons_succ]
      refine wpAnyH_take (i := 4) (v := ?vp4) rfl (by kernel_rfl) (by kernel_rfl) (by kernel_rfl) (fun _ _ _ h => h) (Or.inl ⟨by rfl, ?hyp4⟩) (by assumption) ?_
      case hyp4 =>
        intro w hSw
        try dsimp only at hSw
        go_simp
        try with_reducible rfl
      try simp only [Act.put, List.setIfInBounds_toArray, List.set_cons_zero, List.set_cons_succ, List.getElem_toArray, List.getElem_cons_zero, List.getElem_cons_succ]
      refine wpAnyH_take (i := 5) (v := ?vp5) rfl (by kernel_rfl) (by kernel_rfl) (by kernel_rfl) (fun _ _ _ h => h) (Or.inl ⟨by rfl, ?hyp5⟩) (by assumption) ?_
      case hyp5 =>
        intro w hSw
        try dsimp only at hSw
        go_simp
        try with_reducible rfl
      try simp only [Act.put, List.setIfInBounds_toArray, List.set_cons_zero, List.set_cons_succ, List.getElem_toArray, List.getElem_cons_zero, List.getElem_cons_succ]
      refine wpAnyH_take (i := 6) (v := ?vp6) rfl (by kernel_rfl) (by kernel_rfl) (by kernel_rfl) (fun _ _ _ h => h) (Or.inl ⟨by rfl, ?hyp6⟩) (by assumption) ?_
      case hyp6 =>
        intro w hSw
        try dsimp only at hSw
        go_simp
        try with_reducible rfl
      try simp only [Act.put, List.setIfInBounds_toArray, List.set_cons_zero, List.set_cons_succ, List.getElem_toArray, List.getElem_cons_zero, List.getElem_cons_succ]
      refine wpAnyH_ready (rs := [7]) (by kernel_rfl) (by simp) ?_
      refine AllReadyH.cons rfl (fun K hK => ?_) (AllReadyH.nil)
      refine step_copy_splice (by rfl) _ _ 37 37 (by rfl) 2 Try.underlying37 isz (some ⟨w.heap.size, c, none⟩) (some ⟨w.heap.size, 0, none⟩) (n - c) (n - c) c n (by rfl) (by rfl) w.heap.size c (rw1 n c) 2 (unhide HY).1 (List.replicate (min c (n - c)) (.int .i64 (-1))) (by rw [List.length_replicate]) (fun _ => ⟨rfl, ⟨w.heap.size, 0, none⟩, rfl, rw_src (unhide HY).1⟩) (by rw [List.length_replicate, rw1_len n c hcn]; omega) (by intro v hv; rw [List.mem_replicate] at hv; rw [hv.2]; rfl) w.heap.size w (unhide HY).2 (Nat.le_refl _) ?_
      intro w' hg' hb'
      rw [List.length_replicate]
      rw [rw1_splice n c hc1 (by omega)] at hg'
      have HZ := hide (And.intro hg'.out hb')
      clear hg' hb' HY
      refine hK.out _ _ trivial (fun _ => ?_)
      clear hK K
      try simp only [Act.put, List.setIfInBounds_toArray, List.set_cons_zero, List.set_cons_succ, List.getElem_toArray, List.getElem_cons_zero, List.getElem_cons_succ]
      refine wpAnyH_take (i := 8) (v := ?vq8) rfl (by kernel_rfl) (by kernel_rfl) (by kernel_rfl) (fun _ _ _ h => h) (Or.inl ⟨by rfl, ?hyq8⟩) (by assumption) ?_
      case hyq8 =>
        intro w hSw
        try dsimp only at hSw
        go_simp
        try with_reducible rfl
      try simp only [Act.put, List.setIfInBounds_toArray, List.set_cons_zero, List.set_cons_succ, List.getElem_toArray, List.getElem_cons_zero, List.getElem_cons_succ]
      refine wpAnyH_take (i := 9) (v := ?vq9) rfl (by kernel_rfl) (by kernel_rfl) (by kernel_rfl) (fun _ _ _ h => h) (Or.inl ⟨by rfl, ?hyq9⟩) (by assumption) ?_
      case hyq9 =>
        intro w hSw
        try dsimp only at hSw
        go_simp
        try with_reducible rfl
      try simp only [Act.put, List.setIfInBounds_toArray, List.set_cons_zero, List.set_cons_succ, List.getElem_toArray, List.getElem_cons_zero, List.getElem_cons_succ]
      refine wpAnyH_done (by kernel_rfl) ?_ _
      go_wp2_with fail
      have hwr : IntKind.i64.wrap ((c : Int) + ((min c (n - c) : Nat) : Int)) = ((c + min c (n - c) : Nat) : Int) := by rw [IntKind.wrap_i64]; omega
      rw [hwr]
      exact ⟨⟨c + min c (n - c), by omega, by omega, rfl, (unhide HZ).1, (unhide HZ).2⟩, by simp only [intOf, Int.toNat_natCast]; omega⟩
    · have e : c = n := by omega
      subst e
      have d1 : ¬ ((c : Int) < (c : Int)) := by omega
      go_wp2
      go_ret
      exact ⟨rfl, unhide HC⟩
end Go.Proofs.Ytmcabmddnalihaa
