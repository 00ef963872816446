/- A bundle that was handed in, copied by the law; no condition but those named. slices.Repeat of one number, up to eight times; what lay in memory stands. BundleNew: the program's and the model's; what lay in memory stands. -/
import Derived.Test.YtfkeokfmancgiaaBdV
import Derived.Test.YtfkeokfmancgiaaIvR
import Derived.Laws.CopyOwn
import Derived.Deep.OwnRows
import Derived.Deep.DeepCutAuto
import Derived.Deep.RegionHeld
import Derived.Test.YtfkeokfmancgiaaFgA
namespace Go.Proofs.Ytfkeokfmancgiaa
open Go.RowKit
theorem HoldsI.set {w : World} {v : Value} {L : List Int} (h : HoldsI w v L) {a : Addr} (hne : ∀ g, v.ownBlock = some g → g ≠ a.block) (x : Value) : HoldsI (w.setCell a x) v L := by
  rcases h with ⟨ad, cp, e, e0⟩ | ⟨g, cp, cur, e, q1, q2⟩
  · exact Or.inl ⟨ad, cp, e, e0⟩
  · exact Or.inr ⟨g, cp, cur, e, (heap_setCell_other _ _ _ _ (hne g (by rw [e]; rfl))).trans q1, q2⟩
theorem HoldsG.set {w : World} {v : Value} {L : List Fg} (h : HoldsG w v L) {a : Addr} (hne : ∀ g, v.ownBlock = some g → g ≠ a.block) (x : Value) : HoldsG (w.setCell a x) v L := by
  rcases h with ⟨ad, cp, e, e0⟩ | ⟨g, cp, cur, e, q1, q2⟩
  · exact Or.inl ⟨ad, cp, e, e0⟩
  · exact Or.inr ⟨g, cp, cur, e, (heap_setCell_other _ _ _ _ (hne g (by rw [e]; rfl))).trans q1, q2⟩
theorem infoB : (Try.prog.info? 29).map (·.size) = some 2 := by kernel_rfl
theorem loadB {W : World} {E : Nat} {cs : Array Value} (h : W.heap[E]? = some (.cells cs 29)) (hs : cs.size = 2 := by rfl) : (loadVar 29 ⟨E, 0, none⟩).run Try.prog W = .ok (.agg cs) W :=
  run_loadVar_row (P := Try.prog) _ _ 29 29 cs (0, 0) _ h Try.underlying29 rfl (by rw [hs]; exact infoB)
theorem set2_bd {W : World} {E : Nat} {z0 z1 : Value} {T : TypeId} (h : W.heap[E]? = some (.cells #[z0, z1] T)) (x0 x1 : Value) :
    ((W.setCell ⟨E, 0, none⟩ x0).setCell ⟨E, 1, none⟩ x1).heap[E]? = some (.cells #[x0, x1] T) := heap_setCell_same _ _ 1 _ _ x1 (heap_setCell_same _ _ 0 _ _ x0 h)
/-- What is laid when the first row is copied. -/
theorem toB1 {w w1 : World} {a b c : Obj} {x : Value} {u : Value} {L : List Int} (hb : Below (((w.alloc a).alloc b).alloc c).heap.size (((w.alloc a).alloc b).alloc c) w1) (hu : HoldsI w1 u L) (hul : ∀ g, u.ownBlock = some g → (((w.alloc a).alloc b).alloc c).heap.size ≤ g) :
    w1.heap[w.heap.size]? = some a ∧ w1.heap[w.heap.size + 1]? = some b ∧ w1.heap[w.heap.size + 1 + 1]? = some c ∧ HoldsI (w1.setCell ⟨w.heap.size + 1 + 1, 0, none⟩ x) u L ∧ (∀ g, u.ownBlock = some g → w.heap.size + 3 ≤ g) ∧ Below w.heap.size w (w1.setCell ⟨w.heap.size + 1 + 1, 0, none⟩ x) ∧ w.heap.size + 3 ≤ w1.heap.size := by
  have q := new3b w a b c
  have hlo : ∀ g, u.ownBlock = some g → w.heap.size + 3 ≤ g := fun g hg => by have := hul g hg; rw [q.2.2.2.2] at this; exact this
  refine ⟨(hb.block _ (Array.getElem?_eq_some_iff.1 q.1).1).trans q.1, (hb.block _ (Array.getElem?_eq_some_iff.1 q.2.1).1).trans q.2.1, (hb.block _ (Array.getElem?_eq_some_iff.1 q.2.2.1).1).trans q.2.2.1, ?_, hlo, ?_, by have := hb.size; rw [q.2.2.2.2] at this; exact this⟩
  · exact hu.set (fun g hg => by have := hlo g hg; show g ≠ w.heap.size + 1 + 1; omega) _
  · exact (q.2.2.2.1.trans (hb.mono q.2.2.2.1.size)).setCell (p := ⟨w.heap.size + 1 + 1, 0, none⟩) (by show w.heap.size ≤ w.heap.size + 1 + 1; omega) _
end Go.Proofs.Ytfkeokfmancgiaa
namespace Go.Proofs.Ytfkeokfmancgiaa
open Go.RowKit
set_option maxRecDepth 100000 in
set_option maxHeartbeats 2000000 in
theorem mul64b (n : Nat) (hn : 1 ≤ n ∧ n ≤ 8) (w : World) : Calls Try.prog 70 #[.int .u64 1, .int .u64 n] w fun e w' => e = .returned (.tuple #[.int .u64 0, .int .u64 n]) ∧ w' = w := by
  obtain ⟨h1, h8⟩ := hn
  have b0 : bits .and .u64 0 4294967295 = 0 := by decide
  have b1 : bits .and .u64 1 4294967295 = 1 := by decide
  have bn : bits .and .u64 (n : Int) 4294967295 = (n : Int) := by
    have hc : n = 1 ∨ n = 2 ∨ n = 3 ∨ n = 4 ∨ n = 5 ∨ n = 6 ∨ n = 7 ∨ n = 8 := by omega
    rcases hc with rfl | rfl | rfl | rfl | rfl | rfl | rfl | rfl <;> decide
  have hd : (n : Int) / 4294967296 = 0 := by omega
  go_enter Try.func70, Try.ntmps70
  go_wp2
  go_ret2
  exact ⟨rfl, rfl⟩
set_option maxRecDepth 100000 in
set_option maxHeartbeats 2000000 in
theorem mulU (n : Nat) (hn : 1 ≤ n ∧ n ≤ 8) (w : World) : Calls Try.prog 59 #[.int .u64 1, .int .u64 n] w fun e w' => e = .returned (.tuple #[.int .u64 0, .int .u64 n]) ∧ w' = w := by
  have C := hide fun v => mul64b n hn v
  go_enter Try.func59, Try.ntmps59
  go_wp2_with fail
  refine (unhide C _).mono ?_
  rintro e w2 ⟨rfl, hw⟩
  replace hw := hw.symm
  subst hw
  go_wp2
  go_ret2
  exact ⟨rfl, rfl⟩
theorem isz : (Try.prog.info? 2).map (·.size) = some 1 := by kernel_rfl
/-- So many are -1. -/
def rw1 (n c : Nat) : List Value := List.replicate c (.int .i64 (-1)) ++ List.replicate (n - c) (.int .i64 0)
theorem rw1_len (n c : Nat) (h : c ≤ n) : (rw1 n c).length = n := by unfold rw1; simp; omega
theorem rw1_splice (n c : Nat) (h1 : 1 ≤ c) (h2 : c ≤ n) : splice (rw1 n c) c (List.replicate (min c (n - c)) (.int .i64 (-1))) = rw1 n (c + min c (n - c)) := by
  unfold splice rw1
  rw [List.length_replicate]
  rw [List.take_append_of_le_length (by simp), List.take_of_length_le (by simp), List.drop_append, List.drop_eq_nil_of_le (by simp), List.length_replicate, List.nil_append, List.drop_replicate, ← List.append_assoc, List.replicate_append_replicate]
  congr 2
  omega
theorem rw_src {w : World} {g n c : Nat} {m : Nat} (h : w.heap[g]? = some (.cells (rw1 n c).toArray 2)) : ∀ j v, (List.replicate (min c m) (Value.int .i64 (-1)))[j]? = some v → w.cell? ((⟨g, 0, none⟩ : Addr).add j) = some v := by
  intro j v hv
  rw [Addr.add_lit, Nat.zero_add, cell_of_row _ _ _ _ _ _ h, List.getElem?_toArray]
  rw [List.getElem?_replicate] at hv
  split at hv
  · rename_i hj
    unfold rw1
    rw [List.getElem?_append_left (by simp; omega), List.getElem?_replicate, if_pos (by omega)]
    exact hv
  · cases hv
theorem rw1_first (n : Nat) : splice (rw1 n 0) 0 [.int .i64 (-1)] = rw1 n 1 := by
  unfold splice rw1
  simp
theorem made_rw (n : Nat) : (madeCells (Value.int .i64 0).cells (n * 1)).toList = rw1 n 0 := by
  unfold madeCells rw1
  rw [show (Value.int .i64 0).cells = #[.int .i64 0] from rfl]
  simp [Nat.mod_one, List.eq_replicate_iff]
theorem rep_made {n : Nat} {w w1 : World} {B : Nat} (hB : w.heap[B]? = some (.cells #[.int .i64 (-1)] 2)) (ho : w1.ownsRow w.heap.size 2 1 (.slice (some ⟨w.heap.size, 0, none⟩) n n) n (madeCells (Value.int .i64 0).cells (n * 1)).toList) (hg : w.grownBy w1 none) :
    Hid (w1.heap[w.heap.size]? = some (.cells (rw1 n 0).toArray 2) ∧ Below w.heap.size w w1 ∧ ∀ j v, ([Value.int .i64 (-1)] : List Value)[j]? = some v → w1.cell? ((⟨B, 0, none⟩ : Addr).add j) = some v) := by
  have hb1 : Below w.heap.size w w1 := (Below.refl _ _).grown hg (Nat.le_refl _) (fun k hk => by cases hk)
  rw [made_rw n] at ho
  have hl : B < w.heap.size := (Array.getElem?_eq_some_iff.1 hB).1
  refine hide ⟨?_, hb1, fun j v hv => ?_⟩
  · rcases ho.2 with ⟨k, _⟩ | ⟨g', cap, cur, k1, _, k3, _, _, k6, k7⟩
    · cases k
    · simp only [Value.slice.injEq, Option.some.injEq, Addr.mk.injEq, true_and, and_true] at k1
      obtain ⟨rfl, rfl⟩ := k1
      rw [k3]
      congr 2
      rw [← k7, List.take_of_length_le (by simp; omega)]
  · have hj : j = 0 := by
      cases j with
      | zero => rfl
      | succ j => simp at hv
    subst hj
    simp only [List.getElem?_cons_zero, Option.some.injEq] at hv
    subst hv
    rw [Addr.add_lit, cell_of_row _ _ _ _ _ _ ((hb1.block B hl).trans hB)]
    rfl
theorem rep_first {n : Nat} (hn : 1 ≤ n) {w w1 : World} {B : Nat} (hB : w.heap[B]? = some (.cells #[.int .i64 (-1)] 2)) (ho : w1.ownsRow w.heap.size 2 1 (.slice (some ⟨w.heap.size, 0, none⟩) n n) n (madeCells (Value.int .i64 0).cells (n * 1)).toList) (hg : w.grownBy w1 none) :
    ∃ w3, (Builtin.copy_ #[27, 27] 3 #[.slice (some ⟨w.heap.size, 0, none⟩) n n, .slice (some ⟨B, 0, none⟩) 1 1]).run Try.prog w1 = .ok (.int .i64 1) w3 ∧ Hid (w3.heap[w.heap.size]? = some (.cells (rw1 n 1).toArray 2) ∧ Below w.heap.size w w3) := by
  obtain ⟨h1, h2, h3⟩ := unhide (rep_made hB ho hg)
  refine ⟨_, run_copy_row (P := Try.prog) w1 27 27 3 2 w.heap.size 0 n n ⟨B, 0, none⟩ 1 1 (rw1 n 0).toArray 2 [.int .i64 (-1)] Try.underlying27 isz h1 (by show 1 = min 1 n; omega) h3 (by rw [List.size_toArray, rw1_len n 0 (Nat.zero_le _)]; exact hn) (by intro v hv; simp at hv; rw [hv]; rfl), hide ⟨?_, below_setRow h2 (Nat.le_refl _) _⟩⟩
  rw [setRow_heap _ _ _ _ _ _ h1, ← rw1_first n]
  simp [splice]
set_option linter.unusedSimpArgs false in
set_option maxRecDepth 100000 in
set_option maxHeartbeats 4000000 in
theorem rep (n : Nat) (hn : 1 ≤ n ∧ n ≤ 8) (w : World) (B : Nat) (hB : w.heap[B]? = some (.cells #[.int .i64 (-1)] 2)) : Calls Try.prog 38 #[.slice (some ⟨B, 0, none⟩) 1 1, .int .i64 n] w fun e w' => e = .returned (.slice (some ⟨w.heap.size, 0, none⟩) n n) ∧ w'.heap[w.heap.size]? = some (.cells (rw1 n n).toArray 2) ∧ Below w.heap.size w w' := by
  have C := hide fun v => mulU n hn v
  obtain ⟨hn1, hn8⟩ := hn
  have hl : B < w.heap.size := (Array.getElem?_eq_some_iff.1 hB).1
  have c0 : w.cell? ⟨B, 0, none⟩ = some (.int .i64 (-1)) := by rw [cell_of_row _ _ 0 _ _ (0, 0) hB]; rfl
  obtain ⟨i0, hi0, hz0, hz1, hz2⟩ := iinfo
  go_enter Try.func38, Try.ntmps38
  go_wp2_with fail
  refine (unhide C _).mono ?_
  rintro e w2 ⟨rfl, hw⟩
  replace hw := hw.symm
  subst hw
  go_wp2_with (first
    | (at_make; refine wpList_make_full w rfl _ _ 27 rfl w.heap.size 2 i0 _ 1 Try.underlying27 hi0 hz0 hz1 .i64 .i64 _ _ n rfl rfl rfl rfl (by rw [hz2]; omega) (by unfold maxLen; omega) (Nat.le_refl _) ?_; rintro w1 ho1 hg1; obtain ⟨w3, hcp, HC3⟩ := rep_first hn1 hB ho1 hg1; clear ho1 hg1))
  go_loopw [8] (fun v wr => ∃ (c : Nat), 1 ≤ c ∧ c ≤ n ∧ v = .int .i64 c ∧ wr.heap[w.heap.size]? = some (.cells (rw1 n c).toArray 2) ∧ Below w.heap.size w wr) (fun v _ => n - (intOf v).toNat)
  case atStart => exact ⟨1, Nat.le_refl _, hn1, rfl, (unhide HC3).1, (unhide HC3).2⟩
  case round =>
    obtain ⟨c, hc1, hcn, rfl, hcw, hcb⟩ := hrel
    have HC := hide (And.intro hcw hcb)
    clear hcw hcb HC3 C
    by_cases hlt : c < n
    · have d1 : (c : Int) < (n : Int) := by omega
      have d2 : ¬ (n = c) := by omega
      go_upto_region 9 with fail
      refine wp_region_held_drew (S := fun _ => True) (by kernel_rfl) trivial (fun hHeld => ?_)
      have HY := hide (And.intro (show wr.drew.heap[w.heap.size]? = _ from (unhide HC).1) (unhide HC).2.drew)
      generalize wr.drew = y at HY hHeld ⊢
      refine wpAnyH_take (i := 0) (v := ?vp0) rfl (by kernel_rfl) (by kernel_rfl) (by kernel_rfl) (fun _ _ _ h => h) (Or.inl ⟨by rfl, ?hyp0⟩) (by assumption) ?_
      case hyp0 =>
        intro w hSw
        try dsimp only at hSw
        go_simp
        try with_reducible rfl
      try simp only [Act.put, List.setIfInBounds_toArray, List.set_cons_zero, List.set_cons_succ, List.getElem_toArray, List.getElem_cons_zero]
      refine wpAnyH_take (i := 1) (v := ?vp1) rfl (by kernel_rfl) (by kernel_rfl) (by kernel_rfl) (fun _ _ _ h => h) (Or.inl ⟨by rfl, ?hyp1⟩) (by assumption) ?_
      case hyp1 =>
        intro w hSw
        try dsimp only at hSw
        go_simp
        try with_reducible rfl
      try simp only [Act.put, List.setIfInBounds_toArray, List.set_cons_zero, List.set_cons_succ, List.getElem_toArray, List.getElem_cons_zero, List.getElem_cons_succ]
      refine wpAnyH_take (i := 2) (v := ?vp2) rfl (by kernel_rfl) (by kernel_rfl) (by kernel_rfl) (fun _ _ _ h => h) (Or.inl ⟨by rfl, ?hyp2⟩) (by assumption) ?_
      case hyp2 =>
        intro w hSw
        try dsimp only at hSw
        go_simp
        try with_reducible rfl
      try simp only [Act.put, List.setIfInBounds_toArray, List.set_cons_zero, List.set_cons_succ, List.getElem_toArray, List.getElem_cons_zero, List.getElem_cons_succ]
      refine wpAnyH_take (i := 3) (v := ?vp3) rfl (by kernel_rfl) (by kernel_rfl) (by kernel_rfl) (fun _ _ _ h => h) (Or.inl ⟨by rfl, ?hyp3⟩) (by assumption) ?_
      case hyp3 =>
        intro w hSw
        try dsimp only at hSw
        go_simp
        try with_reducible rfl
      try simp only [Act.put, List.setIfInBounds_toArray, List.set_cons_zero, List.set_cons_succ, List.getElem_toArray, List.getElem_cons_zero, List.getElem_cons_succ]
      refine wpAnyH_take (i := 4) (v := ?vp4) rfl (by kernel_rfl) (by kernel_rfl) (by kernel_rfl) (fun _ _ _ h => h) (Or.inl ⟨by rfl, ?hyp4⟩) (by assumption) ?_
      case hyp4 =>
        intro w hSw
        try dsimp only at hSw
        go_simp
        try with_reducible rfl
      try simp only [Act.put, List.setIfInBounds_toArray, List.set_cons_zero, List.set_cons_succ, List.getElem_toArray, List.getElem_cons_zero, List.getElem_cons_succ]
      refine wpAnyH_take (i := 5) (v := ?vp5) rfl (by kernel_rfl) (by kernel_rfl) (by kernel_rfl) (fun _ _ _ h => h) (Or.inl ⟨by rfl, ?hyp5⟩) (by assumption) ?_
      case hyp5 =>
        intro w hSw
        try dsimp only at hSw
        go_simp
        try with_reducible rfl
      try simp only [Act.put, List.setIfInBounds_toArray, List.set_cons_zero, List.set_cons_succ, List.getElem_toArray, List.getElem_cons_zero, List.getElem_cons_succ]
      refine wpAnyH_take (i := 6) (v := ?vp6) rfl (by kernel_rfl) (by kernel_rfl) (by kernel_rfl) (fun _ _ _ h => h) (Or.inl ⟨by rfl, ?hyp6⟩) (by assumption) ?_
      case hyp6 =>
        intro w hSw
        try dsimp only at hSw
        go_simp
        try with_reducible rfl
      try simp only [Act.put, List.setIfInBounds_toArray, List.set_cons_zero, List.set_cons_succ, List.getElem_toArray, List.getElem_cons_zero, List.getElem_cons_succ]
      refine wpAnyH_ready (rs := [7]) (by kernel_rfl) (by simp) ?_
      refine AllReadyH.cons rfl (fun K hK => ?_) (AllReadyH.nil)
      refine step_copy_splice (by rfl) _ _ 27 27 (by rfl) 2 Try.underlying27 isz (some ⟨w.heap.size, c, none⟩) (some ⟨w.heap.size, 0, none⟩) (n - c) (n - c) c n (by rfl) (by rfl) w.heap.size c (rw1 n c) 2 (unhide HY).1 (List.replicate (min c (n - c)) (.int .i64 (-1))) (by rw [List.length_replicate]) (fun _ => ⟨rfl, ⟨w.heap.size, 0, none⟩, rfl, rw_src (unhide HY).1⟩) (by rw [List.length_replicate, rw1_len n c hcn]; omega) (by intro v hv; rw [List.mem_replicate] at hv; rw [hv.2]; rfl) w.heap.size w (unhide HY).2 (Nat.le_refl _) ?_
      intro w' hg' hb'
      rw [List.length_replicate]
      rw [rw1_splice n c hc1 (by omega)] at hg'
      have HZ := hide (And.intro hg'.out hb')
      clear hg' hb' HY
      refine hK.out _ _ trivial (fun _ => ?_)
      clear hK K
      try simp only [Act.put, List.setIfInBounds_toArray, List.set_cons_zero, List.set_cons_succ, List.getElem_toArray, List.getElem_cons_zero, List.getElem_cons_succ]
      refine wpAnyH_take (i := 8) (v := ?vq8) rfl (by kernel_rfl) (by kernel_rfl) (by kernel_rfl) (fun _ _ _ h => h) (Or.inl ⟨by rfl, ?hyq8⟩) (by assumption) ?_
      case hyq8 =>
        intro w hSw
        try dsimp only at hSw
        go_simp
        try with_reducible rfl
      try simp only [Act.put, List.setIfInBounds_toArray, List.set_cons_zero, List.set_cons_succ, List.getElem_toArray, List.getElem_cons_zero, List.getElem_cons_succ]
      refine wpAnyH_take (i := 9) (v := ?vq9) rfl (by kernel_rfl) (by kernel_rfl) (by kernel_rfl) (fun _ _ _ h => h) (Or.inl ⟨by rfl, ?hyq9⟩) (by assumption) ?_
      case hyq9 =>
        intro w hSw
        try dsimp only at hSw
        go_simp
        try with_reducible rfl
      try simp only [Act.put, List.setIfInBounds_toArray, List.set_cons_zero, List.set_cons_succ, List.getElem_toArray, List.getElem_cons_zero, List.getElem_cons_succ]
      refine wpAnyH_done (by kernel_rfl) ?_ _
      go_wp2_with fail
      have hwr : IntKind.i64.wrap ((c : Int) + ((min c (n - c) : Nat) : Int)) = ((c + min c (n - c) : Nat) : Int) := by rw [IntKind.wrap_i64]; omega
      rw [hwr]
      exact ⟨⟨c + min c (n - c), by omega, by omega, rfl, (unhide HZ).1, (unhide HZ).2⟩, by simp only [intOf, Int.toNat_natCast]; omega⟩
    · have e : c = n := by omega
      subst e
      have d1 : ¬ ((c : Int) < (c : Int)) := by omega
      go_wp2
      go_ret
      exact ⟨rfl, unhide HC⟩
end Go.Proofs.Ytfkeokfmancgiaa
namespace Go.Proofs.Ytfkeokfmancgiaa
open Go.RowKit
/-- The links of a new bundle. -/
def bnL (x : Int) : List Int := if 1 ≤ x ∧ x ≤ 8 then List.replicate x.toNat (-1) else []
theorem bnL_no {x : Int} (h : ¬ (1 ≤ x ∧ x ≤ 8)) : bnL x = [] := if_neg h
theorem bnL_yes {n : Nat} (h : 1 ≤ n ∧ n ≤ 8) : bnL (n : Int) = List.replicate n (-1) := by
  unfold bnL
  rw [if_pos (by omega), Int.toNat_natCast]
/-- A new bundle, in memory of its own. -/
def AnB (L : List Int) (w : World) (e : Ending) (w' : World) : Prop :=
  ∃ u1 z1, e = .returned (.agg #[.slice u1 L.length z1, .slice none 0 0]) ∧ HoldsI w' (.slice u1 L.length z1) L ∧ (∀ g, (Value.slice u1 L.length z1).ownBlock = some g → w.heap.size ≤ g) ∧ Below w.heap.size w w'
set_option maxRecDepth 100000 in
set_option maxHeartbeats 2000000 in
theorem iBnew_no (x : Int) (w : World) (h : ¬ (1 ≤ x ∧ x ≤ 8)) : Calls Try.prog 9 #[.int .i64 x] w (AnB (bnL x) w) := by
  have C := hide fun v => iWithin9 x 1 8 v
  rw [wo h] at C
  rw [bnL_no h]
  go_enter Try.func9, Try.ntmps9
  go_wp2_with fail
  refine (unhide C _).mono ?_
  rintro e w2 ⟨rfl, rfl⟩
  go_wp2
  refine bodyPost_ret (v := .agg #[.slice none 0 0, .slice none 0 0]) (by simp [results, Try.results9, go_sem]) rfl ?_
  exact ⟨none, 0, rfl, Or.inl ⟨_, _, rfl, rfl⟩, (fun g hg => by cases hg), (Below.refl _ _).alloc (Nat.le_refl _) _⟩
theorem rw1_cells (n : Nat) : rw1 n n = icells (List.replicate n (-1)) := by
  unfold rw1 icells
  simp
set_option maxRecDepth 100000 in
set_option maxHeartbeats 2000000 in
theorem iBnew_yes (n : Nat) (w : World) (h : 1 ≤ n ∧ n ≤ 8) : Calls Try.prog 9 #[.int .i64 n] w (AnB (bnL n) w) := by
  have C := hide fun v => iWithin9 (n : Int) 1 8 v
  rw [wi (by omega)] at C
  rw [bnL_yes h]
  have CR := hide fun v B hB => rep n h v B hB
  have hlen : (List.replicate n (-1 : Int)).length = n := List.length_replicate
  have q := hide (new2b w (.cells #[.slice none 0 0, .slice none 0 0] 29) (.cells #[.int .i64 (-1)] 2))
  unfold AnB
  rw [hlen]
  go_enter Try.func9, Try.ntmps9
  go_wp2_with fail
  refine (unhide C _).mono ?_
  rintro e w2 ⟨rfl, hw⟩
  replace hw := hw.symm
  subst hw
  go_wp2_with fail
  refine (unhide CR _ _ (unhide q).2.1).mono ?_
  rintro e w3 ⟨rfl, hr3, hb3⟩
  have hz : ((w.alloc (.cells #[.slice none 0 0, .slice none 0 0] 29)).alloc (.cells #[.int .i64 (-1)] 2)).heap.size = w.heap.size + 2 := (unhide q).2.2.2
  rw [hz] at hr3
  have hO := (hb3.block w.heap.size (by rw [hz]; omega)).trans (unhide q).1
  have HX := hide (And.intro hr3 (And.intro hO ((unhide q).2.2.1.trans (hb3.mono (by rw [hz]; omega)))))
  obtain ⟨o0, o1⟩ := row2b hO
  have f0 := frz hO 0
  have f1 := frz hO 1
  clear hr3 hb3 hO q CR C
  rw [hz]
  go_wp2
  refine bodyPost_ret (v := .agg #[.slice (some ⟨w.heap.size + 2, 0, none⟩) n n, .slice none 0 0]) (by simp [results, Try.results9, asAddr, loadB (set2_bd (unhide HX).2.1 (.slice (some ⟨w.heap.size + 2, 0, none⟩) n n) (.slice none 0 0))]) rfl ?_
  obtain ⟨h1, h2, h3⟩ := unhide HX
  refine ⟨_, _, rfl, Or.inr ⟨w.heap.size + 2, n, (rw1 n n).toArray, by rw [hlen], ?_, by rw [hlen, List.size_toArray, rw1_len n n (Nat.le_refl _)]; exact Nat.le_refl _, fun j hj => by rw [List.getElem?_toArray, rw1_cells]⟩, ?_, ?_⟩
  · rw [heap_setCell_other _ _ _ _ (by show w.heap.size + 2 ≠ w.heap.size; omega), heap_setCell_other _ _ _ _ (by show w.heap.size + 2 ≠ w.heap.size; omega)]
    exact h1
  · intro g hg
    have e : w.heap.size + 2 = g := by injection hg
    omega
  · exact (h3.setCell (p := ⟨w.heap.size, 0, none⟩) (Nat.le_refl _) _).setCell (p := ⟨w.heap.size, 1, none⟩) (Nat.le_refl _) _
theorem iBnew (x : Int) (w : World) : Calls Try.prog 9 #[.int .i64 x] w (AnB (bnL x) w) := by
  by_cases h : 1 ≤ x ∧ x ≤ 8
  · obtain ⟨n, rfl⟩ : ∃ n : Nat, x = (n : Int) := ⟨x.toNat, by omega⟩
    exact iBnew_yes n w (by omega)
  · exact iBnew_no x w h
theorem rep_snoc (k : Nat) : List.replicate (k + 1) (-1 : Int) = List.replicate k (-1) ++ [-1] := List.replicate_succ'
set_option maxRecDepth 100000 in
set_option maxHeartbeats 2000000 in
theorem sBnew_no (x : Int) (w : World) (h : ¬ (1 ≤ x ∧ x ≤ 8)) : Calls Try.prog 18 #[.int .i64 x] w (AnB (bnL x) w) := by
  rw [bnL_no h]
  have q := hide (new2b w (.cells #[.slice none 0 0, .slice none 0 0] 29) (.cells #[.slice none 0 0, .slice none 0 0] 29))
  have hd : decide ((0 : Int) < x) = true → decide (x ≤ 8) = false := fun e => decide_eq_false (by have := of_decide_eq_true e; omega)
  cases h0 : decide ((0 : Int) < x)
  · clear hd
    go_enter Try.func18, Try.ntmps18
    go_wp2_with fail
    go_loopw [4] (fun v wr => v = .int .i64 0 ∧ wr = (w.alloc (.cells #[.slice none 0 0, .slice none 0 0] 29)).alloc (.cells #[.slice none 0 0, .slice none 0 0] 29)) (fun _ _ => 0)
    case atStart => exact ⟨rfl, rfl⟩
    case round =>
      obtain ⟨rfl, rfl⟩ := hrel
      go_wp2
      refine bodyPost_ret (v := .agg #[.slice none 0 0, .slice none 0 0]) (by simp [results, Try.results18, go_sem]) rfl ?_
      refine ⟨none, 0, rfl, Or.inl ⟨_, _, rfl, rfl⟩, (fun g hg => by cases hg), ?_⟩
      exact ((Below.refl _ _).alloc (Nat.le_refl _) _).alloc (by simp) _
  · have hd' := hd h0
    clear hd
    go_enter Try.func18, Try.ntmps18
    go_wp2_with fail
    go_loopw [4] (fun v wr => v = .int .i64 0 ∧ wr = (w.alloc (.cells #[.slice none 0 0, .slice none 0 0] 29)).alloc (.cells #[.slice none 0 0, .slice none 0 0] 29)) (fun _ _ => 0)
    case atStart => exact ⟨rfl, rfl⟩
    case round =>
      obtain ⟨rfl, rfl⟩ := hrel
      go_wp2
      refine bodyPost_ret (v := .agg #[.slice none 0 0, .slice none 0 0]) (by simp [results, Try.results18, go_sem]) rfl ?_
      refine ⟨none, 0, rfl, Or.inl ⟨_, _, rfl, rfl⟩, (fun g hg => by cases hg), ?_⟩
      exact ((Below.refl _ _).alloc (Nat.le_refl _) _).alloc (by simp) _
theorem bn_grow {w wr w6 : World} {oa ob o : Obj} {v : Value} {k : Nat} {cs : List Value} {T : TypeId} {m : Nat} (h : wr.heap[w.heap.size]? = some oa ∧ wr.heap[w.heap.size + 1]? = some ob ∧ wr.ownsRow (w.heap.size + 2) T m v k cs ∧ Below w.heap.size w wr) (hg : (wr.alloc o).grownBy w6 v.ownBlock) :
    w6.heap[w.heap.size]? = some oa ∧ w6.heap[w.heap.size + 1]? = some ob ∧ Below w.heap.size w w6 := by
  have hl := (Array.getElem?_eq_some_iff.1 h.2.1).1
  have hb : Below (w.heap.size + 2) wr w6 := ((Below.refl _ _).alloc (by omega) _).grown hg (by simp; omega) (fun q hq => (World.ownsRow.lt h.2.2.1 q hq).1)
  exact ⟨(hb.block _ (by omega)).trans h.1, (hb.block _ (by omega)).trans h.2.1, h.2.2.2.trans (hb.mono (by omega))⟩
set_option maxRecDepth 100000 in
set_option maxHeartbeats 2000000 in
theorem sBnew_yes (n : Nat) (w : World) (h : 1 ≤ n ∧ n ≤ 8) : Calls Try.prog 18 #[.int .i64 n] w (AnB (bnL n) w) := by
  rw [bnL_yes h]
  have hlen : (List.replicate n (-1 : Int)).length = n := List.length_replicate
  have q := hide (new2b w (.cells #[.slice none 0 0, .slice none 0 0] 29) (.cells #[.slice none 0 0, .slice none 0 0] 29))
  unfold AnB
  rw [hlen]
  have d8 : decide ((n : Int) ≤ 8) = true := decide_eq_true (by omega)
  have n1 : ¬ (w.heap.size = w.heap.size + 1) := by omega
  have n2 : ¬ (w.heap.size + 1 = w.heap.size) := by omega
  go_enter Try.func18, Try.ntmps18
  go_wp2_with fail
  go_loopw [4] (fun v wr => ∃ (k : Nat) (ad : Option Addr) (cp : Nat), k ≤ n ∧ v = .int .i64 k ∧ wr.heap[w.heap.size]? = some (.cells #[.slice none 0 0, .slice none 0 0] 29) ∧ wr.heap[w.heap.size + 1]? = some (.cells #[.slice ad k cp, .slice none 0 0] 29) ∧ wr.ownsRow (w.heap.size + 2) 2 1 (.slice ad k cp) k (icells (List.replicate k (-1))) ∧ Below w.heap.size w wr) (fun v _ => n - (intOf v).toNat)
  case atStart => exact ⟨0, none, 0, Nat.zero_le _, rfl, (unhide q).1, (unhide q).2.1, ⟨rfl, Or.inl ⟨rfl, rfl⟩⟩, (unhide q).2.2.1⟩
  case round =>
    obtain ⟨k, ad, cp, hk, rfl, hO, hB, how, hb⟩ := hrel
    clear q
    obtain ⟨o0, o1⟩ := row2b hO
    obtain ⟨b0, b1⟩ := row2b hB
    have hl1 : w.heap.size + 1 < wr.heap.size := (Array.getElem?_eq_some_iff.1 hB).1
    by_cases hlt : k < n
    · have d1 : decide ((k : Int) < (n : Int)) = true := decide_eq_true (by omega)
      have f0 := frz hB 0
      have hne : ¬ (w.heap.size + 1 = wr.heap.size) := by omega
      have hne' : ¬ (wr.heap.size = w.heap.size + 1) := by omega
      have HX := hide (And.intro hO (And.intro hB (And.intro how hb)))
      clear hO hB how hb o0 o1
      go_wp2_with (first
        | (at_builtin; refine append_int rfl _ _ rfl (w.heap.size + 2) (.slice ad k cp) (List.replicate k (-1)) k List.length_replicate rfl (unhide HX).2.2.1 (-1) rfl (by omega) (by omega) ?_; rintro v6 w6 ho6 hg6; obtain ⟨a6, c6, rfl⟩ := own_form ho6
           obtain ⟨hO6, hB6, hb6⟩ := bn_grow (unhide HX) hg6
           obtain ⟨e0, e1⟩ := row2b hB6
           have g0 := frz hB6 0
           have HY := hide (And.intro hO6 (And.intro hB6 (And.intro ho6 hb6)))
           clear hO6 hB6 hb6 ho6 hg6 b0 b1 f0))
      obtain ⟨h1, h2, h3, h4⟩ := unhide HY
      refine ⟨⟨k + 1, a6, c6, by omega, by go_num, ?_, heap_setCell_same _ _ 0 _ _ _ h2, ?_, h4.setCell (p := ⟨w.heap.size + 1, 0, none⟩) (by show w.heap.size ≤ w.heap.size + 1; omega) _⟩, by simp [intOf]; omega⟩
      · rw [heap_setCell_other _ _ _ _ (by show w.heap.size ≠ w.heap.size + 1; omega)]
        exact h1
      · rw [rep_snoc]
        exact ownsRow_setCell_below h3 (by show w.heap.size + 1 < w.heap.size + 2; omega) _
    · have e : k = n := by omega
      subst e
      have d1 : decide ((k : Int) < (k : Int)) = false := decide_eq_false (by omega)
      have f0 := frz hO 0
      have f1 := frz hO 1
      have HX := hide (And.intro hO (And.intro hB (And.intro how hb)))
      clear hO hB how hb
      go_wp2
      refine bodyPost_ret (v := .agg #[.slice ad k cp, .slice none 0 0]) (by simp [results, Try.results18, asAddr, loadB (set2_bd (unhide HX).1 (.slice ad k cp) (.slice none 0 0))]) rfl ?_
      obtain ⟨h1, h2, h3, h4⟩ := unhide HX
      have hge : ∀ g, (Value.slice ad k cp).ownBlock = some g → w.heap.size + 2 ≤ g := fun g hg => (World.ownsRow.lt h3 g hg).1
      refine ⟨ad, cp, rfl, ?_, fun g hg => by have := hge g hg; omega, ?_⟩
      · have h5 : HoldsI wr (.slice ad k cp) (List.replicate k (-1)) := HoldsI.own (by rw [hlen]; exact h3)
        exact (h5.set (a := ⟨w.heap.size, 0, none⟩) (fun g hg => by have := hge g hg; show g ≠ w.heap.size; omega) _).set (a := ⟨w.heap.size, 1, none⟩) (fun g hg => by have := hge g hg; show g ≠ w.heap.size; omega) _
      · exact (h4.setCell (p := ⟨w.heap.size, 0, none⟩) (Nat.le_refl _) _).setCell (p := ⟨w.heap.size, 1, none⟩) (Nat.le_refl _) _
theorem sBnew (x : Int) (w : World) : Calls Try.prog 18 #[.int .i64 x] w (AnB (bnL x) w) := by
  by_cases h : 1 ≤ x ∧ x ≤ 8
  · obtain ⟨n, rfl⟩ : ∃ n : Nat, x = (n : Int) := ⟨x.toNat, by omega⟩
    exact sBnew_yes n w (by omega)
  · exact sBnew_no x w h
end Go.Proofs.Ytfkeokfmancgiaa
