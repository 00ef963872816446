/- The program's first step: an end at work with rows of its own; what lay in memory stands. -/
import Derived.Test.YtghopihgnmnlcaaGreatDoorS22
import Derived.Test.YtghopihgnmnlcaaGreatDoorS26
namespace Go.Proofs.YtghopihgnmnlcaaGreatDoor
open Go.RowKit
theorem own_fresh {w w' : World} {b : Nat} {e e' : TypeId} {k k' : Nat} {v v' : Value} {n n' : Nat} {xs ys : List Value} (h : w.ownsRow b e k v n xs) (h' : w'.ownsRow w.heap.size e' k' v' n' ys) : Ap v v' := fun g hg e => by
  have h1 := (h.lt g hg).2
  have h2 := (h'.lt g e).1
  omega
set_option maxHeartbeats 8000000 in
set_option maxRecDepth 100000 in
theorem iWork (e : En) (x1 x2 : Option Addr) (y1 y2 : Nat) (F1 F2 : List Op.Opt) (now : Int) (w : World) (r1 : Op.right F1 = true) (r2 : Op.right F2 = true) (h1 : HoldsO w (.slice x1 F1.length y1) F1) (h2 : HoldsO w (.slice x2 F2.length y2) F2) :
    Calls Tryz.prog 41 #[.agg (enC e (.slice x1 F1.length y1) (.slice x2 F2.length y2)), .int .i64 now] w fun r w' => ∃ B v1 v2, r = .returned (.pointer (some ⟨B, 0, none⟩)) ∧ Lay 85 w w' B (cx0 now) ⟨e, F1, F2, [], []⟩ v1 v2 (.slice none 0 0) (.slice none 0 0) w' := by
  have C1 := hide fun W (hb : Below w.heap.size w W) => iSame _ F1 W r1 (h1.below hb rfl)
  have C2 := hide fun W (hb : Below w.heap.size w W) => iSame _ F2 W r2 (h2.below hb rfl)
  clear h1 h2
  obtain ⟨A, eA⟩ : ∃ A, w.heap.size = A := ⟨_, rfl⟩
  have hA := heap_alloc_new w (.cells (enC e (.slice x1 F1.length y1) (.slice x2 F2.length y2)) 29)
  have hbA : Below w.heap.size w (w.alloc (.cells (enC e (.slice x1 F1.length y1) (.slice x2 F2.length y2)) 29)) := (Below.refl _ _).alloc (Nat.le_refl _) _
  rw [eA] at hA
  have H0 := hide (And.intro hA hbA)
  clear hA hbA
  obtain ⟨n1, e1⟩ : ∃ n, F1.length = n := ⟨_, rfl⟩
  obtain ⟨n2, e2⟩ : ∃ n, F2.length = n := ⟨_, rfl⟩
  rw [e1] at C1 H0 ⊢
  rw [e2] at C2 H0 ⊢
  go_enter Tryz.func41, Tryz.ntmps41
  go_upto_region 1 with fail
  refine gen_world (fun z => z.heap[A]? = some (.cells (enC e (.slice x1 n1 y1) (.slice x2 n2 y2)) 29) ∧ Below w.heap.size w z) ?_ ?_
  · exact unhide H0
  clear H0
  rintro z ⟨za, zl⟩
  have hAw : w.heap.size ≤ z.heap.size := zl.size
  have hAl : A < z.heap.size := (Array.getElem?_eq_some_iff.1 za).1
  have c17 : z.cell? ⟨A, 17, none⟩ = some (.slice x1 n1 y1) := by rw [cell_of_row _ _ _ _ _ _ za]; rfl
  have c18 : z.cell? ⟨A, 18, none⟩ = some (.slice x2 n2 y2) := by rw [cell_of_row _ _ _ _ _ _ za]; rfl
  have HZ := hide (And.intro za (zl.trans ((Below.refl z.heap.size z).drew.mono zl.size)))
  clear za zl
  go_cut [5] (fun _ wx => ∃ a1 p1 a2 p2, wx.heap[A]? = some (.cells (enC e (.slice a1 n1 p1) (.slice a2 n2 p2)) 29) ∧ wx.ownsRow w.heap.size 118 2 (.slice a1 n1 p1) n1 (ocells F1) ∧ wx.ownsRow w.heap.size 118 2 (.slice a2 n2 p2) n2 (ocells F2) ∧ Ap (.slice a1 n1 p1) (.slice a2 n2 p2) ∧ Below w.heap.size w wx)
  case first =>
    refine wp_region_held_drew (S := fun _ => True) (by kernel_rfl) trivial (fun hHeld => ?_)
    refine wpAnyH_take (i := 0) (v := ?vt0) rfl (by kernel_rfl) (by kernel_rfl) (by kernel_rfl) (fun _ _ _ h => h) (Or.inl ⟨by rfl, ?hyt0⟩) (by assumption) ?_
    case hyt0 =>
      intro w hSw
      try dsimp only at hSw
      go_simp
      try with_reducible rfl
    try simp only [Act.put, List.setIfInBounds_toArray, List.set_cons_zero, List.set_cons_succ, List.getElem_toArray, List.getElem_cons_zero]
    refine wpAnyH_take (i := 3) (v := ?vt3) rfl (by kernel_rfl) (by kernel_rfl) (by kernel_rfl) (fun _ _ _ h => h) (Or.inl ⟨by rfl, ?hyt3⟩) (by assumption) ?_
    case hyt3 =>
      intro w hSw
      try dsimp only at hSw
      go_simp
      try with_reducible rfl
    try simp only [Act.put, List.setIfInBounds_toArray, List.set_cons_zero, List.set_cons_succ, List.getElem_toArray, List.getElem_cons_zero, List.getElem_cons_succ]
    refine wpAnyH_ready (rs := [1, 4]) (by kernel_rfl) (by simp) ?_
    refine AllReadyH.cons rfl (fun K hK => ?_) (AllReadyH.cons rfl (fun K hK => ?_) (AllReadyH.nil))
    · have cx := c17
      go_simp
      refine hK.out _ _ trivial (fun _ => ?_)
      clear hK K
      try simp only [Act.put, List.setIfInBounds_toArray, List.set_cons_zero, List.set_cons_succ, List.getElem_toArray, List.getElem_cons_zero, List.getElem_cons_succ]
      clear cx
      refine wpAnyH_ready (rs := [2, 4]) (by kernel_rfl) (by simp) ?_
      refine AllReadyH.cons rfl (fun K hK => ?_) (AllReadyH.cons rfl (fun K hK => ?_) (AllReadyH.nil))
      · go_simp
        refine (unhide C1 _ (unhide HZ).2).mono ?_
        rintro r w5 ⟨a1, p1, rfl, ho1, hb5⟩
        have q5 := (hb5.block A hAl).trans (unhide HZ).1
        have d18 : w5.cell? ⟨A, 18, none⟩ = some (.slice x2 n2 y2) := by rw [cell_of_row _ _ _ _ _ _ q5]; rfl
        have H5 := hide (And.intro q5 (And.intro ho1 ((unhide HZ).2.trans (hb5.mono (unhide HZ).2.size))))
        have hs5 : w.heap.size ≤ z.heap.size := hAw
        clear q5 ho1 hb5
        go_wp2_with fail
        refine hK.out _ _ trivial (fun _ => ?_)
        clear hK K
        try simp only [Act.put, List.setIfInBounds_toArray, List.set_cons_zero, List.set_cons_succ, List.getElem_toArray, List.getElem_cons_zero, List.getElem_cons_succ]
        refine wpAnyH_ready (rs := [4]) (by kernel_rfl) (by simp) ?_
        refine AllReadyH.cons rfl (fun K hK => ?_) (AllReadyH.nil)
        have cx := d18
        go_simp
        refine hK.out _ _ trivial (fun _ => ?_)
        clear hK K
        try simp only [Act.put, List.setIfInBounds_toArray, List.set_cons_zero, List.set_cons_succ, List.getElem_toArray, List.getElem_cons_zero, List.getElem_cons_succ]
        clear cx
        refine wpAnyH_take (i := 6) (v := ?vta6) rfl (by kernel_rfl) (by kernel_rfl) (by kernel_rfl) (fun _ _ _ h => h) (Or.inl ⟨by rfl, ?hyta6⟩) (by assumption) ?_
        case hyta6 =>
          intro w hSw
          try dsimp only at hSw
          go_simp
          try with_reducible rfl
        try simp only [Act.put, List.setIfInBounds_toArray, List.set_cons_zero, List.set_cons_succ, List.getElem_toArray, List.getElem_cons_zero, List.getElem_cons_succ]
        refine wpAnyH_ready (rs := [5]) (by kernel_rfl) (by simp) ?_
        refine AllReadyH.cons rfl (fun K hK => ?_) (AllReadyH.nil)
        go_simp
        refine (unhide C2 _ (unhide H5).2.2).mono ?_
        rintro r w6 ⟨a2, p2, rfl, ho2, hb6⟩
        have q6 := (hb6.block A (Array.getElem?_eq_some_iff.1 (unhide H5).1).1).trans (unhide H5).1
        have g17 : w6.cell? ⟨A, 17, none⟩ = some (.slice x1 n1 y1) := by rw [cell_of_row _ _ _ _ _ _ q6]; rfl
        have f17 : w6.frozen? ⟨A, 17, none⟩ = false := frz q6 17
        have r7 := heap_setCell_same w6 A 17 _ _ (.slice a1 n1 p1) q6
        have g18 : (w6.setCell ⟨A, 17, none⟩ (.slice a1 n1 p1)).cell? ⟨A, 18, none⟩ = some (.slice x2 n2 y2) := by rw [cell_of_row _ _ _ _ _ _ r7]; rfl
        have f18 : (w6.setCell ⟨A, 17, none⟩ (.slice a1 n1 p1)).frozen? ⟨A, 18, none⟩ = false := frz r7 18
        have r8 := heap_setCell_same (w6.setCell ⟨A, 17, none⟩ (.slice a1 n1 p1)) A 18 _ _ (.slice a2 n2 p2) r7
        have k1 := own_below (unhide H5).2.1 hb6
        have hap := own_fresh (unhide H5).2.1 ho2
        have hlo := (unhide H5).2.2.trans (hb6.mono (unhide H5).2.2.size)
        have n1A : ∀ g, (Value.slice a1 n1 p1).ownBlock = some g → g ≠ A := fun g hg e => by have h1 : z.heap.size ≤ g := (k1.lt g hg).1; omega
        have n2A : ∀ g, (Value.slice a2 n2 p2).ownBlock = some g → g ≠ A := fun g hg e => by have h1 := (ho2.lt g hg).1; have h2 := (Array.getElem?_eq_some_iff.1 (unhide H5).1).1; omega
        have hk : ∀ g, g ≠ A → ((w6.setCell ⟨A, 17, none⟩ (.slice a1 n1 p1)).setCell ⟨A, 18, none⟩ (.slice a2 n2 p2)).heap[g]? = w6.heap[g]? := fun g hg => (heap_setCell_other _ _ _ _ hg).trans (heap_setCell_other _ _ _ _ hg)
        have H6 := hide (And.intro (show ((w6.setCell ⟨A, 17, none⟩ (.slice a1 n1 p1)).setCell ⟨A, 18, none⟩ (.slice a2 n2 p2)).heap[A]? = some (.cells (enC e (.slice a1 n1 p1) (.slice a2 n2 p2)) 29) from r8) (And.intro (own_mono (own_other k1 fun g hg => hk g (n1A g hg)) hAw) (And.intro (own_mono (own_other ho2 fun g hg => hk g (n2A g hg)) (unhide H5).2.2.size) (And.intro hap ((hlo.setCell (p := ⟨A, 17, none⟩) (Nat.le_of_eq eA) (.slice a1 n1 p1)).setCell (p := ⟨A, 18, none⟩) (Nat.le_of_eq eA) (.slice a2 n2 p2))))))
        clear q6 r7 r8 ho2 hb6 k1 hap hlo n1A n2A hk
        go_wp2_with fail
        refine hK.out _ _ trivial (fun _ => ?_)
        clear hK K
        try simp only [Act.put, List.setIfInBounds_toArray, List.set_cons_zero, List.set_cons_succ, List.getElem_toArray, List.getElem_cons_zero, List.getElem_cons_succ]
        refine wpAnyH_ready (rs := [7]) (by kernel_rfl) (by simp) ?_
        refine AllReadyH.cons rfl (fun K hK => ?_) (AllReadyH.nil)
        go_simp
        refine hK.out _ _ trivial (fun _ => ?_)
        clear hK K
        try simp only [Act.put, List.setIfInBounds_toArray, List.set_cons_zero, List.set_cons_succ, List.getElem_toArray, List.getElem_cons_zero, List.getElem_cons_succ]
        refine wpAnyH_take (i := 8) (v := ?vta8) rfl (by kernel_rfl) (by kernel_rfl) (by kernel_rfl) (fun _ _ _ h => h) (Or.inl ⟨by rfl, ?hyta8⟩) (by assumption) ?_
        case hyta8 =>
          intro w hSw
          try dsimp only at hSw
          go_simp
          try with_reducible rfl
        try simp only [Act.put, List.setIfInBounds_toArray, List.set_cons_zero, List.set_cons_succ, List.getElem_toArray, List.getElem_cons_zero, List.getElem_cons_succ]
        refine wpAnyH_ready (rs := [9]) (by kernel_rfl) (by simp) ?_
        refine AllReadyH.cons rfl (fun K hK => ?_) (AllReadyH.nil)
        go_simp
        refine hK.out _ _ trivial (fun _ => ?_)
        clear hK K
        try simp only [Act.put, List.getElem_toArray, List.getElem_cons_zero, List.getElem_cons_succ]
        refine wpAnyH_done (by kernel_rfl) ?_ _
        go_wp2_with fail
        go_meet
        exact ⟨a1, p1, a2, p2, unhide H6⟩
      · have cx := c18
        go_simp
        refine hK.out _ _ trivial (fun _ => ?_)
        clear hK K
        try simp only [Act.put, List.setIfInBounds_toArray, List.set_cons_zero, List.set_cons_succ, List.getElem_toArray, List.getElem_cons_zero, List.getElem_cons_succ]
        clear cx
        refine wpAnyH_ready (rs := [2]) (by kernel_rfl) (by simp) ?_
        refine AllReadyH.cons rfl (fun K hK => ?_) (AllReadyH.nil)
        go_simp
        refine (unhide C1 _ (unhide HZ).2).mono ?_
        rintro r w5 ⟨a1, p1, rfl, ho1, hb5⟩
        have q5 := (hb5.block A hAl).trans (unhide HZ).1
        have d18 : w5.cell? ⟨A, 18, none⟩ = some (.slice x2 n2 y2) := by rw [cell_of_row _ _ _ _ _ _ q5]; rfl
        have H5 := hide (And.intro q5 (And.intro ho1 ((unhide HZ).2.trans (hb5.mono (unhide HZ).2.size))))
        have hs5 : w.heap.size ≤ z.heap.size := hAw
        clear q5 ho1 hb5
        go_wp2_with fail
        refine hK.out _ _ trivial (fun _ => ?_)
        clear hK K
        try simp only [Act.put, List.setIfInBounds_toArray, List.set_cons_zero, List.set_cons_succ, List.getElem_toArray, List.getElem_cons_zero, List.getElem_cons_succ]
        refine wpAnyH_take (i := 6) (v := ?vtb6) rfl (by kernel_rfl) (by kernel_rfl) (by kernel_rfl) (fun _ _ _ h => h) (Or.inl ⟨by rfl, ?hytb6⟩) (by assumption) ?_
        case hytb6 =>
          intro w hSw
          try dsimp only at hSw
          go_simp
          try with_reducible rfl
        try simp only [Act.put, List.setIfInBounds_toArray, List.set_cons_zero, List.set_cons_succ, List.getElem_toArray, List.getElem_cons_zero, List.getElem_cons_succ]
        refine wpAnyH_ready (rs := [5]) (by kernel_rfl) (by simp) ?_
        refine AllReadyH.cons rfl (fun K hK => ?_) (AllReadyH.nil)
        go_simp
        refine (unhide C2 _ (unhide H5).2.2).mono ?_
        rintro r w6 ⟨a2, p2, rfl, ho2, hb6⟩
        have q6 := (hb6.block A (Array.getElem?_eq_some_iff.1 (unhide H5).1).1).trans (unhide H5).1
        have g17 : w6.cell? ⟨A, 17, none⟩ = some (.slice x1 n1 y1) := by rw [cell_of_row _ _ _ _ _ _ q6]; rfl
        have f17 : w6.frozen? ⟨A, 17, none⟩ = false := frz q6 17
        have r7 := heap_setCell_same w6 A 17 _ _ (.slice a1 n1 p1) q6
        have g18 : (w6.setCell ⟨A, 17, none⟩ (.slice a1 n1 p1)).cell? ⟨A, 18, none⟩ = some (.slice x2 n2 y2) := by rw [cell_of_row _ _ _ _ _ _ r7]; rfl
        have f18 : (w6.setCell ⟨A, 17, none⟩ (.slice a1 n1 p1)).frozen? ⟨A, 18, none⟩ = false := frz r7 18
        have r8 := heap_setCell_same (w6.setCell ⟨A, 17, none⟩ (.slice a1 n1 p1)) A 18 _ _ (.slice a2 n2 p2) r7
        have k1 := own_below (unhide H5).2.1 hb6
        have hap := own_fresh (unhide H5).2.1 ho2
        have hlo := (unhide H5).2.2.trans (hb6.mono (unhide H5).2.2.size)
        have n1A : ∀ g, (Value.slice a1 n1 p1).ownBlock = some g → g ≠ A := fun g hg e => by have h1 : z.heap.size ≤ g := (k1.lt g hg).1; omega
        have n2A : ∀ g, (Value.slice a2 n2 p2).ownBlock = some g → g ≠ A := fun g hg e => by have h1 := (ho2.lt g hg).1; have h2 := (Array.getElem?_eq_some_iff.1 (unhide H5).1).1; omega
        have hk : ∀ g, g ≠ A → ((w6.setCell ⟨A, 17, none⟩ (.slice a1 n1 p1)).setCell ⟨A, 18, none⟩ (.slice a2 n2 p2)).heap[g]? = w6.heap[g]? := fun g hg => (heap_setCell_other _ _ _ _ hg).trans (heap_setCell_other _ _ _ _ hg)
        have H6 := hide (And.intro (show ((w6.setCell ⟨A, 17, none⟩ (.slice a1 n1 p1)).setCell ⟨A, 18, none⟩ (.slice a2 n2 p2)).heap[A]? = some (.cells (enC e (.slice a1 n1 p1) (.slice a2 n2 p2)) 29) from r8) (And.intro (own_mono (own_other k1 fun g hg => hk g (n1A g hg)) hAw) (And.intro (own_mono (own_other ho2 fun g hg => hk g (n2A g hg)) (unhide H5).2.2.size) (And.intro hap ((hlo.setCell (p := ⟨A, 17, none⟩) (Nat.le_of_eq eA) (.slice a1 n1 p1)).setCell (p := ⟨A, 18, none⟩) (Nat.le_of_eq eA) (.slice a2 n2 p2))))))
        clear q6 r7 r8 ho2 hb6 k1 hap hlo n1A n2A hk
        go_wp2_with fail
        refine hK.out _ _ trivial (fun _ => ?_)
        clear hK K
        try simp only [Act.put, List.setIfInBounds_toArray, List.set_cons_zero, List.set_cons_succ, List.getElem_toArray, List.getElem_cons_zero, List.getElem_cons_succ]
        refine wpAnyH_ready (rs := [7]) (by kernel_rfl) (by simp) ?_
        refine AllReadyH.cons rfl (fun K hK => ?_) (AllReadyH.nil)
        go_simp
        refine hK.out _ _ trivial (fun _ => ?_)
        clear hK K
        try simp only [Act.put, List.setIfInBounds_toArray, List.set_cons_zero, List.set_cons_succ, List.getElem_toArray, List.getElem_cons_zero, List.getElem_cons_succ]
        refine wpAnyH_take (i := 8) (v := ?vtb8) rfl (by kernel_rfl) (by kernel_rfl) (by kernel_rfl) (fun _ _ _ h => h) (Or.inl ⟨by rfl, ?hytb8⟩) (by assumption) ?_
        case hytb8 =>
          intro w hSw
          try dsimp only at hSw
          go_simp
          try with_reducible rfl
        try simp only [Act.put, List.setIfInBounds_toArray, List.set_cons_zero, List.set_cons_succ, List.getElem_toArray, List.getElem_cons_zero, List.getElem_cons_succ]
        refine wpAnyH_ready (rs := [9]) (by kernel_rfl) (by simp) ?_
        refine AllReadyH.cons rfl (fun K hK => ?_) (AllReadyH.nil)
        go_simp
        refine hK.out _ _ trivial (fun _ => ?_)
        clear hK K
        try simp only [Act.put, List.getElem_toArray, List.getElem_cons_zero, List.getElem_cons_succ]
        refine wpAnyH_done (by kernel_rfl) ?_ _
        go_wp2_with fail
        go_meet
        exact ⟨a1, p1, a2, p2, unhide H6⟩
    · have cx := c18
      go_simp
      refine hK.out _ _ trivial (fun _ => ?_)
      clear hK K
      try simp only [Act.put, List.setIfInBounds_toArray, List.set_cons_zero, List.set_cons_succ, List.getElem_toArray, List.getElem_cons_zero, List.getElem_cons_succ]
      clear cx
      refine wpAnyH_ready (rs := [1]) (by kernel_rfl) (by simp) ?_
      refine AllReadyH.cons rfl (fun K hK => ?_) (AllReadyH.nil)
      have cx := c17
      go_simp
      refine hK.out _ _ trivial (fun _ => ?_)
      clear hK K
      try simp only [Act.put, List.setIfInBounds_toArray, List.set_cons_zero, List.set_cons_succ, List.getElem_toArray, List.getElem_cons_zero, List.getElem_cons_succ]
      clear cx
      refine wpAnyH_ready (rs := [2]) (by kernel_rfl) (by simp) ?_
      refine AllReadyH.cons rfl (fun K hK => ?_) (AllReadyH.nil)
      go_simp
      refine (unhide C1 _ (unhide HZ).2).mono ?_
      rintro r w5 ⟨a1, p1, rfl, ho1, hb5⟩
      have q5 := (hb5.block A hAl).trans (unhide HZ).1
      have d18 : w5.cell? ⟨A, 18, none⟩ = some (.slice x2 n2 y2) := by rw [cell_of_row _ _ _ _ _ _ q5]; rfl
      have H5 := hide (And.intro q5 (And.intro ho1 ((unhide HZ).2.trans (hb5.mono (unhide HZ).2.size))))
      have hs5 : w.heap.size ≤ z.heap.size := hAw
      clear q5 ho1 hb5
      go_wp2_with fail
      refine hK.out _ _ trivial (fun _ => ?_)
      clear hK K
      try simp only [Act.put, List.setIfInBounds_toArray, List.set_cons_zero, List.set_cons_succ, List.getElem_toArray, List.getElem_cons_zero, List.getElem_cons_succ]
      refine wpAnyH_take (i := 6) (v := ?vtc6) rfl (by kernel_rfl) (by kernel_rfl) (by kernel_rfl) (fun _ _ _ h => h) (Or.inl ⟨by rfl, ?hytc6⟩) (by assumption) ?_
      case hytc6 =>
        intro w hSw
        try dsimp only at hSw
        go_simp
        try with_reducible rfl
      try simp only [Act.put, List.setIfInBounds_toArray, List.set_cons_zero, List.set_cons_succ, List.getElem_toArray, List.getElem_cons_zero, List.getElem_cons_succ]
      refine wpAnyH_ready (rs := [5]) (by kernel_rfl) (by simp) ?_
      refine AllReadyH.cons rfl (fun K hK => ?_) (AllReadyH.nil)
      go_simp
      refine (unhide C2 _ (unhide H5).2.2).mono ?_
      rintro r w6 ⟨a2, p2, rfl, ho2, hb6⟩
      have q6 := (hb6.block A (Array.getElem?_eq_some_iff.1 (unhide H5).1).1).trans (unhide H5).1
      have g17 : w6.cell? ⟨A, 17, none⟩ = some (.slice x1 n1 y1) := by rw [cell_of_row _ _ _ _ _ _ q6]; rfl
      have f17 : w6.frozen? ⟨A, 17, none⟩ = false := frz q6 17
      have r7 := heap_setCell_same w6 A 17 _ _ (.slice a1 n1 p1) q6
      have g18 : (w6.setCell ⟨A, 17, none⟩ (.slice a1 n1 p1)).cell? ⟨A, 18, none⟩ = some (.slice x2 n2 y2) := by rw [cell_of_row _ _ _ _ _ _ r7]; rfl
      have f18 : (w6.setCell ⟨A, 17, none⟩ (.slice a1 n1 p1)).frozen? ⟨A, 18, none⟩ = false := frz r7 18
      have r8 := heap_setCell_same (w6.setCell ⟨A, 17, none⟩ (.slice a1 n1 p1)) A 18 _ _ (.slice a2 n2 p2) r7
      have k1 := own_below (unhide H5).2.1 hb6
      have hap := own_fresh (unhide H5).2.1 ho2
      have hlo := (unhide H5).2.2.trans (hb6.mono (unhide H5).2.2.size)
      have n1A : ∀ g, (Value.slice a1 n1 p1).ownBlock = some g → g ≠ A := fun g hg e => by have h1 : z.heap.size ≤ g := (k1.lt g hg).1; omega
      have n2A : ∀ g, (Value.slice a2 n2 p2).ownBlock = some g → g ≠ A := fun g hg e => by have h1 := (ho2.lt g hg).1; have h2 := (Array.getElem?_eq_some_iff.1 (unhide H5).1).1; omega
      have hk : ∀ g, g ≠ A → ((w6.setCell ⟨A, 17, none⟩ (.slice a1 n1 p1)).setCell ⟨A, 18, none⟩ (.slice a2 n2 p2)).heap[g]? = w6.heap[g]? := fun g hg => (heap_setCell_other _ _ _ _ hg).trans (heap_setCell_other _ _ _ _ hg)
      have H6 := hide (And.intro (show ((w6.setCell ⟨A, 17, none⟩ (.slice a1 n1 p1)).setCell ⟨A, 18, none⟩ (.slice a2 n2 p2)).heap[A]? = some (.cells (enC e (.slice a1 n1 p1) (.slice a2 n2 p2)) 29) from r8) (And.intro (own_mono (own_other k1 fun g hg => hk g (n1A g hg)) hAw) (And.intro (own_mono (own_other ho2 fun g hg => hk g (n2A g hg)) (unhide H5).2.2.size) (And.intro hap ((hlo.setCell (p := ⟨A, 17, none⟩) (Nat.le_of_eq eA) (.slice a1 n1 p1)).setCell (p := ⟨A, 18, none⟩) (Nat.le_of_eq eA) (.slice a2 n2 p2))))))
      clear q6 r7 r8 ho2 hb6 k1 hap hlo n1A n2A hk
      go_wp2_with fail
      refine hK.out _ _ trivial (fun _ => ?_)
      clear hK K
      try simp only [Act.put, List.setIfInBounds_toArray, List.set_cons_zero, List.set_cons_succ, List.getElem_toArray, List.getElem_cons_zero, List.getElem_cons_succ]
      refine wpAnyH_ready (rs := [7]) (by kernel_rfl) (by simp) ?_
      refine AllReadyH.cons rfl (fun K hK => ?_) (AllReadyH.nil)
      go_simp
      refine hK.out _ _ trivial (fun _ => ?_)
      clear hK K
      try simp only [Act.put, List.setIfInBounds_toArray, List.set_cons_zero, List.set_cons_succ, List.getElem_toArray, List.getElem_cons_zero, List.getElem_cons_succ]
      refine wpAnyH_take (i := 8) (v := ?vtc8) rfl (by kernel_rfl) (by kernel_rfl) (by kernel_rfl) (fun _ _ _ h => h) (Or.inl ⟨by rfl, ?hytc8⟩) (by assumption) ?_
      case hytc8 =>
        intro w hSw
        try dsimp only at hSw
        go_simp
        try with_reducible rfl
      try simp only [Act.put, List.setIfInBounds_toArray, List.set_cons_zero, List.set_cons_succ, List.getElem_toArray, List.getElem_cons_zero, List.getElem_cons_succ]
      refine wpAnyH_ready (rs := [9]) (by kernel_rfl) (by simp) ?_
      refine AllReadyH.cons rfl (fun K hK => ?_) (AllReadyH.nil)
      go_simp
      refine hK.out _ _ trivial (fun _ => ?_)
      clear hK K
      try simp only [Act.put, List.getElem_toArray, List.getElem_cons_zero, List.getElem_cons_succ]
      refine wpAnyH_done (by kernel_rfl) ?_ _
      go_wp2_with fail
      go_meet
      exact ⟨a1, p1, a2, p2, unhide H6⟩
  case rest =>
    obtain ⟨a1, p1, a2, p2, hq⟩ := hcut
    have HQ := hide hq
    clear hq
    go_upto_region 2 with fail
    refine gen_world (fun q => q.heap[A]? = some (.cells (enC e (.slice a1 n1 p1) (.slice a2 n2 p2)) 29) ∧ q.ownsRow w.heap.size 118 2 (.slice a1 n1 p1) n1 (ocells F1) ∧ q.ownsRow w.heap.size 118 2 (.slice a2 n2 p2) n2 (ocells F2) ∧ Ap (.slice a1 n1 p1) (.slice a2 n2 p2) ∧ Below w.heap.size w q) ?_ ?_
    · exact unhide HQ
    clear HQ HZ c17 c18
    rintro q hq
    have HQ := hide hq
    clear hq
    go_wp2_with (first
      | (refine wpList_load_row rfl 29 (.tmp 2) rfl A rfl 29 (enC e (.slice a1 n1 p1) (.slice a2 n2 p2)) (0, 0) _ (unhide HQ).1 Tryz.underlying29 rfl infoE ?_)
      | (refine wpList_buildTo rfl 85 _ rfl (some 15) rfl (wk0 e (.slice a1 n1 p1) (.slice a2 n2 p2) now).toArray (by as_aux_lemma => kernel_rfl) ?_)
      | (refine Great.wpList_allocTo rfl (some 16) rfl (.pointer (some ⟨q.heap.size, 0, none⟩)) (.cells (wk0 e (.slice a1 n1 p1) (.slice a2 n2 p2) now).toArray 85) (by as_aux_lemma => kernel_rfl) ?_))
    go_ret
    obtain ⟨_, o1, o2, ap, lo⟩ := unhide HQ
    exact ⟨_, _, _, rfl, Lay.start ttI e1 e2 now o1 o2 ap lo⟩
end Go.Proofs.YtghopihgnmnlcaaGreatDoor
