/- The draw of a text that is cut; what lay in memory stands. -/
import Derived.Test.YtfkeokfmancgiaaGF
namespace Go.Proofs.Ytfkeokfmancgiaa
open Go.RowKit
theorem lit4 {a b c d : Value} (h1 : okI64 a = true) (h2 : okI64 b = true) (h3 : okI64 c = true) (h4 : okI64 d = true) : ∀ v ∈ (#[a, b, c, d] : Array Value).toList, okI64 v = true := by
  intro v hv
  simp at hv
  rcases hv with rfl | rfl | rfl | rfl
  · exact h1
  · exact h2
  · exact h3
  · exact h4
set_option linter.unusedSimpArgs false in
set_option maxHeartbeats 16000000 in
set_option maxRecDepth 100000 in
theorem drawCt (w : World) (sl : Value) (n : Nat) (hn : n ≤ maxLen) (hD : Dat w w.heap.size sl n) :
    Calls Try.prog 6 #[sl] w fun e w' => ∃ (t : ByteArray) (x y : Int), e = .returned (.tuple #[.string t, .int .i64 x, .int .i64 y]) ∧ t.size ≤ 3000 ∧ Below w.heap.size w w' := by
  have c := src_new w sl n hn hD
  have HD := hide hD
  clear hD
  go_enter Try.func6, Try.ntmps6
  go_wp2_with fail
  refine c.mono ?_
  rintro e w1 ⟨rfl, hS1, hb1⟩
  have HS1 := hide hS1
  have HB1 := hide hb1
  clear hS1 c hb1
  go_wp2_with fail
  refine (src_n _ w.heap.size sl n 60 (by decide) hn (unhide HS1) ((unhide HD).below (unhide HB1))).mono ?_
  rintro e w2 ⟨r2, rfl, hr2, hS2, ht2⟩
  have HS2 := hide hS2
  have HB2 := hide ((unhide HB1).trans ht2.below)
  have hr2' : r2 < 100000 := by omega
  have hr2'' : r2 ≤ 3000 := by omega
  clear hS2 ht2 HS1 HB1 hr2
  go_wp2_with fail
  refine (src_bytes _ w.heap.size sl n r2 hr2' hn (unhide HS2) ((unhide HD).below (unhide HB2))).mono ?_
  rintro e w3 ⟨xs, rfl, hxs, hS3, hb3⟩
  have HS3 := hide hS3
  have HB3 := hide ((unhide HB2).trans hb3)
  have ht0 : (strOfNums xs).size ≤ 3000 := by rw [strOfNums_size]; omega
  generalize strOfNums xs = t at *
  clear hS3 hb3 HS2 HB2 hxs
  go_wp2_with fail
  refine (src_one _ w.heap.size sl n 12 (by decide) hn (unhide HS3) ((unhide HD).below (unhide HB3))).mono ?_
  rintro e w4 ⟨b4, rfl, hS4, ht4⟩
  have HS4 := hide hS4
  have HB4 := hide ((unhide HB3).trans ht4.below)
  clear hS4 ht4 HS3 HB3
  go_upto_if 14 with fail
  go_cut [6] (fun x wx => ∃ t : ByteArray, x = .string t ∧ t.size ≤ 3000 ∧ Src wx w.heap.size sl n ∧ Below w.heap.size w wx)
  case first =>
    cases b4
    · go_wp2_with fail
      go_meet
      exact ⟨t, rfl, ht0, unhide HS4, unhide HB4⟩
    · go_wp2_with fail
      refine (src_n _ w.heap.size sl n 3 (by decide) hn (unhide HS4) ((unhide HD).below (unhide HB4))).mono ?_
      rintro e w5 ⟨r5, rfl, hr5, hS5, ht5⟩
      have hr5' : r5 < 3 := by omega
      have H5 := hide (And.intro hS5 ((unhide HB4).trans ht5.below))
      have hB5 := hS5.lt
      clear hr5 hS5 ht5 HS4 HB4
      obtain ⟨ui, hi1, hi2, hi3, hi4⟩ := u8info
      go_wp2_with (first
        | (at_make; refine wpList_make_full w5 rfl _ _ 22 rfl w5.heap.size 5 ui (.int .u8 0) 1 Try.underlying22 hi1 hi2 hi3 .i64 .i64 _ _ (1999 + r5) rfl rfl (by go_num) (by go_num) (by rw [hi4]; omega) (by unfold maxLen; omega) (Nat.le_refl _) ?_
           rintro w6 ho6 hg6
           rw [made_zeroG] at ho6
           have hcv := conv_own ho6
           have hb6 : Below w5.heap.size w5 w6 := (Below.refl _ _).grown hg6 (Nat.le_refl _) (fun k hk => by cases hk)
           have H6 := hide (And.intro ((unhide H5).1.same (hb6.block _ hB5)) ((unhide H5).2.trans (hb6.mono (unhide H5).2.size)))
           have hT : (strOfNums (List.replicate (1999 + r5) 0)).size ≤ 3000 := by
             rw [strOfNums_size, List.length_replicate]
             omega
           clear ho6 hg6 hb6 H5))
      go_meet
      exact ⟨_, rfl, hT, (unhide H6).1, (unhide H6).2⟩
  case rest =>
    clear HS4 HB4 ht0 t
    obtain ⟨t, ex, ht0, hSx, hBx⟩ := hcut
    subst ex
    have HSx := hide hSx
    have HBx := hide hBx
    clear hSx hBx
    go_wp2_with fail
    refine (src_one _ w.heap.size sl n 8 (by decide) hn (unhide HSx) ((unhide HD).below (unhide HBx))).mono ?_
    rintro e w5 ⟨b5, rfl, hS5, ht5⟩
    have S5 := hide hS5
    have W5 := hide ((unhide HBx).trans ht5.below)
    clear hS5 ht5 HSx HBx
    cases b5
    · go_wp2_with fail
      refine (src_n _ w.heap.size sl n 9 (by decide) hn (unhide S5) ((unhide HD).below (unhide W5))).mono ?_
      rintro e w6 ⟨r6, rfl, hr6, hS6, ht6⟩
      have S6 := hide hS6
      have W6 := hide ((unhide W5).trans ht6.below)
      have hr6' : r6 ≤ 100 := by omega
      clear hS6 ht6 S5 W5 hr6
      go_wp2_with fail
      refine (src_n _ w.heap.size sl n 50 (by decide) hn (unhide S6) ((unhide HD).below (unhide W6))).mono ?_
      rintro e w7 ⟨r7, rfl, _, _, ht7⟩
      have W7 := hide ((unhide W6).trans ht7.below)
      clear ht7 S6 W6
      go_wp2
      refine bodyPost_ret (v := .tuple #[.string t, .int .i64 (1 + (r6 : Int)), .int .i64 (r7 : Int)]) (by simp [results, Try.results6]) rfl ⟨t, _, _, rfl, ht0, unhide W7⟩
    · go_upto_region 6 with fail
      refine wp_region_held_drew (S := fun _ => True) (by kernel_rfl) trivial (fun hHeld => ?_)
      replace S5 : Hid (Src w5.drew w.heap.size sl n) := hide (unhide S5)
      replace W5 := hide (unhide W5).drew
      generalize w5.drew = yy at S5 W5 hHeld ⊢
      refine wpAnyH_take (i := 0) (v := ?vdc1_0) rfl (by kernel_rfl) (by kernel_rfl) (by kernel_rfl) (fun _ _ _ h => h) (Or.inl ⟨by rfl, ?hydc1_0⟩) (by assumption) ?_
      case hydc1_0 =>
        intro w hSw
        try dsimp only at hSw
        go_simp
        try with_reducible rfl
      try simp only [Act.put, List.setIfInBounds_toArray, List.set_cons_zero, List.set_cons_succ, List.getElem_toArray, List.getElem_cons_zero]
      refine wpAnyH_take (i := 1) (v := ?vdc2_1) rfl (by kernel_rfl) (by kernel_rfl) (by kernel_rfl) (fun _ _ _ h => h) (Or.inl ⟨by rfl, ?hydc2_1⟩) (by assumption) ?_
      case hydc2_1 =>
        intro w hSw
        try dsimp only at hSw
        go_simp
        try with_reducible rfl
      try simp only [Act.put, List.setIfInBounds_toArray, List.set_cons_zero, List.set_cons_succ, List.getElem_toArray, List.getElem_cons_zero, List.getElem_cons_succ]
      refine wpAnyH_take (i := 4) (v := ?vdc3_4) rfl (by kernel_rfl) (by kernel_rfl) (by kernel_rfl) (fun _ _ _ h => h) (Or.inl ⟨by rfl, ?hydc3_4⟩) (by assumption) ?_
      case hydc3_4 =>
        intro w hSw
        try dsimp only at hSw
        go_simp
        try with_reducible rfl
      try simp only [Act.put, List.setIfInBounds_toArray, List.set_cons_zero, List.set_cons_succ, List.getElem_toArray, List.getElem_cons_zero, List.getElem_cons_succ]
      refine wpAnyH_take (i := 8) (v := ?vdc4_8) rfl (by kernel_rfl) (by kernel_rfl) (by kernel_rfl) (fun _ _ _ h => h) (Or.inl ⟨by rfl, ?hydc4_8⟩) (by assumption) ?_
      case hydc4_8 =>
        intro w hSw
        try dsimp only at hSw
        go_simp
        try with_reducible rfl
      try simp only [Act.put, List.setIfInBounds_toArray, List.set_cons_zero, List.set_cons_succ, List.getElem_toArray, List.getElem_cons_zero, List.getElem_cons_succ]
      refine wpAnyH_take (i := 11) (v := ?vdc5_11) rfl (by kernel_rfl) (by kernel_rfl) (by kernel_rfl) (fun _ _ _ h => h) (Or.inl ⟨by rfl, ?hydc5_11⟩) (by assumption) ?_
      case hydc5_11 =>
        intro w hSw
        try dsimp only at hSw
        go_simp
        try with_reducible rfl
      try simp only [Act.put, List.setIfInBounds_toArray, List.set_cons_zero, List.set_cons_succ, List.getElem_toArray, List.getElem_cons_zero, List.getElem_cons_succ]
      refine wpAnyH_ready (rs := [2]) (by kernel_rfl) (by simp) ?_
      refine AllReadyH.cons rfl (fun K hK => ?_) (AllReadyH.nil)
      go_simp
      refine (src_edge_g yy w.heap.size sl n hn (unhide S5) ((unhide HD).below (unhide W5))).mono ?_
      rintro e z6 ⟨x1, rfl, hx1a, hx1b, hS6, hn6⟩
      have Ox1 : Hid (okI64 (.int .i64 x1) = true) := hide (decide_eq_true ⟨hx1a, hx1b⟩)
      have S6 := hide hS6
      have W6 := hide ((unhide W5).trans (hn6.below (Nat.le_of_lt (unhide S5).lt)))
      clear hS6 hn6 hx1a hx1b
      go_wp2_with fail
      refine hK.out _ _ trivial (fun _ => ?_)
      clear hK K
      try simp only [Act.put, List.setIfInBounds_toArray, List.set_cons_zero, List.set_cons_succ, List.getElem_toArray, List.getElem_cons_zero, List.getElem_cons_succ]
      refine wpAnyH_ready (rs := [3, 5]) (by kernel_rfl) (by simp) ?_
      refine AllReadyH.cons rfl (fun K hK => ?_) (AllReadyH.cons rfl (fun K hK => ?_) (AllReadyH.nil))
      · have hb7 : Below z6.heap.size z6 (z6.alloc (.cells #[.int .i64 0, .int .i64 200, .int .i64 201, .int .i64 x1] 2)) := (Below.refl _ _).alloc (Nat.le_refl _) _
        have ltg1 : Hid (w.heap.size < z6.heap.size) := hide ((unhide S6).lt)
        have S7 := hide ((unhide S6).same (hb7.block _ (unhide S6).lt))
        have W7 := hide ((unhide W6).trans (hb7.mono (unhide W6).size))
        have g1_7 : Hid ((z6.alloc (.cells #[.int .i64 0, .int .i64 200, .int .i64 201, .int .i64 x1] 2)).heap[z6.heap.size]? = some (.cells #[.int .i64 0, .int .i64 200, .int .i64 201, .int .i64 x1] 2)) := hide (heap_alloc_new z6 (.cells #[.int .i64 0, .int .i64 200, .int .i64 201, .int .i64 x1] 2))
        clear hb7
        go_simp
        refine hK.out _ _ trivial (fun _ => ?_)
        clear hK K
        try simp only [Act.put, List.setIfInBounds_toArray, List.set_cons_zero, List.set_cons_succ, List.getElem_toArray, List.getElem_cons_zero, List.getElem_cons_succ]
        refine wpAnyH_ready (rs := [5]) (by kernel_rfl) (by simp) ?_
        refine AllReadyH.cons rfl (fun K hK => ?_) (AllReadyH.nil)
        go_simp
        refine (src_n (z6.alloc (.cells #[.int .i64 0, .int .i64 200, .int .i64 201, .int .i64 x1] 2)) w.heap.size sl n 4 (by decide) hn (unhide S7) ((unhide HD).below (unhide W7))).mono ?_
        rintro e z8 ⟨r1, rfl, hr10, hS8, ht8⟩
        have hr1 : r1 < 4 := by omega
        have hr1i : (r1 : Int) < 4 := by omega
        have S8 := hide hS8
        have W8 := hide ((unhide W7).trans ht8.below)
        have g1_8 := hide ((ht8.block z6.heap.size (by have := unhide ltg1; omega)).trans (unhide g1_7))
        clear hS8 ht8 hr10
        go_wp2_with fail
        refine hK.out _ _ trivial (fun _ => ?_)
        clear hK K
        try simp only [Act.put, List.setIfInBounds_toArray, List.set_cons_zero, List.set_cons_succ, List.getElem_toArray, List.getElem_cons_zero, List.getElem_cons_succ]
        refine wpAnyH_take (i := 6) (v := ?vdc6_6) rfl (by kernel_rfl) (by kernel_rfl) (by kernel_rfl) (fun _ _ _ h => h) (Or.inl ⟨by rfl, ?hydc6_6⟩) (by assumption) ?_
        case hydc6_6 =>
          intro w hSw
          try dsimp only at hSw
          go_simp
          try with_reducible rfl
        try simp only [Act.put, List.setIfInBounds_toArray, List.set_cons_zero, List.set_cons_succ, List.getElem_toArray, List.getElem_cons_zero, List.getElem_cons_succ]
        refine wpAnyH_ready (rs := [7, 9]) (by kernel_rfl) (by simp) ?_
        refine AllReadyH.cons rfl (fun K hK => ?_) (AllReadyH.cons rfl (fun K hK => ?_) (AllReadyH.nil))
        · obtain ⟨v1, hv9, _, _⟩ := lit_cell (unhide g1_8) (lit4 (by decide) (by decide) (by decide) (unhide Ox1)) r1 (by simpa using hr1)
          go_simp
          clear hv9
          refine hK.out _ _ trivial (fun _ => ?_)
          clear hK K
          try simp only [Act.put, List.setIfInBounds_toArray, List.set_cons_zero, List.set_cons_succ, List.getElem_toArray, List.getElem_cons_zero, List.getElem_cons_succ]
          refine wpAnyH_ready (rs := [9]) (by kernel_rfl) (by simp) ?_
          refine AllReadyH.cons rfl (fun K hK => ?_) (AllReadyH.nil)
          go_simp
          refine (src_edge_g z8 w.heap.size sl n hn (unhide S8) ((unhide HD).below (unhide W8))).mono ?_
          rintro e z10 ⟨x2, rfl, hx2a, hx2b, hS10, hn10⟩
          have Ox2 : Hid (okI64 (.int .i64 x2) = true) := hide (decide_eq_true ⟨hx2a, hx2b⟩)
          have S10 := hide hS10
          have W10 := hide ((unhide W8).trans (hn10.below (Nat.le_of_lt (unhide S8).lt)))
          have g1_10 := hide ((hn10.block z6.heap.size (Array.getElem?_eq_some_iff.1 (unhide g1_8)).1 (by have := unhide ltg1; omega)).trans (unhide g1_8))
          clear hS10 hn10 hx2a hx2b
          go_wp2_with fail
          refine hK.out _ _ trivial (fun _ => ?_)
          clear hK K
          try simp only [Act.put, List.setIfInBounds_toArray, List.set_cons_zero, List.set_cons_succ, List.getElem_toArray, List.getElem_cons_zero, List.getElem_cons_succ]
          refine wpAnyH_ready (rs := [10, 12]) (by kernel_rfl) (by simp) ?_
          refine AllReadyH.cons rfl (fun K hK => ?_) (AllReadyH.cons rfl (fun K hK => ?_) (AllReadyH.nil))
          · have hb11 : Below z10.heap.size z10 (z10.alloc (.cells #[.int .i64 (-1), .int .i64 16777215, .int .i64 16777212, .int .i64 x2] 2)) := (Below.refl _ _).alloc (Nat.le_refl _) _
            have ltg2 : Hid (w.heap.size < z10.heap.size) := hide ((unhide S10).lt)
            have S11 := hide ((unhide S10).same (hb11.block _ (unhide S10).lt))
            have W11 := hide ((unhide W10).trans (hb11.mono (unhide W10).size))
            have g1_11 := hide ((hb11.block z6.heap.size (Array.getElem?_eq_some_iff.1 (unhide g1_10)).1).trans (unhide g1_10))
            have g2_11 : Hid ((z10.alloc (.cells #[.int .i64 (-1), .int .i64 16777215, .int .i64 16777212, .int .i64 x2] 2)).heap[z10.heap.size]? = some (.cells #[.int .i64 (-1), .int .i64 16777215, .int .i64 16777212, .int .i64 x2] 2)) := hide (heap_alloc_new z10 (.cells #[.int .i64 (-1), .int .i64 16777215, .int .i64 16777212, .int .i64 x2] 2))
            clear hb11
            go_simp
            refine hK.out _ _ trivial (fun _ => ?_)
            clear hK K
            try simp only [Act.put, List.setIfInBounds_toArray, List.set_cons_zero, List.set_cons_succ, List.getElem_toArray, List.getElem_cons_zero, List.getElem_cons_succ]
            refine wpAnyH_ready (rs := [12]) (by kernel_rfl) (by simp) ?_
            refine AllReadyH.cons rfl (fun K hK => ?_) (AllReadyH.nil)
            go_simp
            refine (src_n (z10.alloc (.cells #[.int .i64 (-1), .int .i64 16777215, .int .i64 16777212, .int .i64 x2] 2)) w.heap.size sl n 4 (by decide) hn (unhide S11) ((unhide HD).below (unhide W11))).mono ?_
            rintro e z12 ⟨r2, rfl, hr20, hS12, ht12⟩
            have hr2 : r2 < 4 := by omega
            have hr2i : (r2 : Int) < 4 := by omega
            have S12 := hide hS12
            have W12 := hide ((unhide W11).trans ht12.below)
            have g1_12 := hide ((ht12.block z6.heap.size (by have := unhide ltg1; omega)).trans (unhide g1_11))
            have g2_12 := hide ((ht12.block z10.heap.size (by have := unhide ltg2; omega)).trans (unhide g2_11))
            clear hS12 ht12 hr20
            go_wp2_with fail
            refine hK.out _ _ trivial (fun _ => ?_)
            clear hK K
            try simp only [Act.put, List.setIfInBounds_toArray, List.set_cons_zero, List.set_cons_succ, List.getElem_toArray, List.getElem_cons_zero, List.getElem_cons_succ]
            refine wpAnyH_take (i := 13) (v := ?vdc7_13) rfl (by kernel_rfl) (by kernel_rfl) (by kernel_rfl) (fun _ _ _ h => h) (Or.inl ⟨by rfl, ?hydc7_13⟩) (by assumption) ?_
            case hydc7_13 =>
              intro w hSw
              try dsimp only at hSw
              go_simp
              try with_reducible rfl
            try simp only [Act.put, List.setIfInBounds_toArray, List.set_cons_zero, List.set_cons_succ, List.getElem_toArray, List.getElem_cons_zero, List.getElem_cons_succ]
            refine wpAnyH_take (i := 15) (v := ?vdc8_15) rfl (by kernel_rfl) (by kernel_rfl) (by kernel_rfl) (fun _ _ _ h => h) (Or.inl ⟨by rfl, ?hydc8_15⟩) (by assumption) ?_
            case hydc8_15 =>
              intro w hSw
              try dsimp only at hSw
              go_simp
              try with_reducible rfl
            try simp only [Act.put, List.setIfInBounds_toArray, List.set_cons_zero, List.set_cons_succ, List.getElem_toArray, List.getElem_cons_zero, List.getElem_cons_succ]
            refine wpAnyH_take (i := 16) (v := ?vdc9_16) rfl (by kernel_rfl) (by kernel_rfl) (by kernel_rfl) (fun _ _ _ h => h) (Or.inl ⟨by rfl, ?hydc9_16⟩) (by assumption) ?_
            case hydc9_16 =>
              intro w hSw
              try dsimp only at hSw
              go_simp
              try with_reducible rfl
            try simp only [Act.put, List.setIfInBounds_toArray, List.set_cons_zero, List.set_cons_succ, List.getElem_toArray, List.getElem_cons_zero, List.getElem_cons_succ]
            refine wpAnyH_ready (rs := [14]) (by kernel_rfl) (by simp) ?_
            refine AllReadyH.cons rfl (fun K hK => ?_) (AllReadyH.nil)
            obtain ⟨v2, hv13, _, _⟩ := lit_cell (unhide g2_12) (lit4 (by decide) (by decide) (by decide) (unhide Ox2)) r2 (by simpa using hr2)
            go_simp
            clear hv13
            refine hK.out _ _ trivial (fun _ => ?_)
            clear hK K
            try simp only [Act.put, List.setIfInBounds_toArray, List.set_cons_zero, List.set_cons_succ, List.getElem_toArray, List.getElem_cons_zero, List.getElem_cons_succ]
            refine wpAnyH_take (i := 17) (v := ?vdc10_17) rfl (by kernel_rfl) (by kernel_rfl) (by kernel_rfl) (fun _ _ _ h => h) (Or.inl ⟨by rfl, ?hydc10_17⟩) (by assumption) ?_
            case hydc10_17 =>
              intro w hSw
              try dsimp only at hSw
              go_simp
              try with_reducible rfl
            try simp only [Act.put, List.setIfInBounds_toArray, List.set_cons_zero, List.set_cons_succ, List.getElem_toArray, List.getElem_cons_zero, List.getElem_cons_succ]
            refine wpAnyH_done (by kernel_rfl) ?_ _
            go_wp2_with fail
            refine bodyPost_ret (v := .tuple #[.string t, .int .i64 v1, .int .i64 v2]) (by simp [results, Try.results6]) rfl ⟨t, v1, v2, rfl, ht0, unhide W12⟩
          · go_simp
            refine (src_n z10 w.heap.size sl n 4 (by decide) hn (unhide S10) ((unhide HD).below (unhide W10))).mono ?_
            rintro e z11 ⟨r2, rfl, hr20, hS11, ht11⟩
            have hr2 : r2 < 4 := by omega
            have hr2i : (r2 : Int) < 4 := by omega
            have S11 := hide hS11
            have W11 := hide ((unhide W10).trans ht11.below)
            have g1_11 := hide ((ht11.block z6.heap.size (by have := unhide ltg1; omega)).trans (unhide g1_10))
            clear hS11 ht11 hr20
            go_wp2_with fail
            refine hK.out _ _ trivial (fun _ => ?_)
            clear hK K
            try simp only [Act.put, List.setIfInBounds_toArray, List.set_cons_zero, List.set_cons_succ, List.getElem_toArray, List.getElem_cons_zero, List.getElem_cons_succ]
            refine wpAnyH_take (i := 15) (v := ?vdc11_15) rfl (by kernel_rfl) (by kernel_rfl) (by kernel_rfl) (fun _ _ _ h => h) (Or.inl ⟨by rfl, ?hydc11_15⟩) (by assumption) ?_
            case hydc11_15 =>
              intro w hSw
              try dsimp only at hSw
              go_simp
              try with_reducible rfl
            try simp only [Act.put, List.setIfInBounds_toArray, List.set_cons_zero, List.set_cons_succ, List.getElem_toArray, List.getElem_cons_zero, List.getElem_cons_succ]
            refine wpAnyH_take (i := 16) (v := ?vdc12_16) rfl (by kernel_rfl) (by kernel_rfl) (by kernel_rfl) (fun _ _ _ h => h) (Or.inl ⟨by rfl, ?hydc12_16⟩) (by assumption) ?_
            case hydc12_16 =>
              intro w hSw
              try dsimp only at hSw
              go_simp
              try with_reducible rfl
            try simp only [Act.put, List.setIfInBounds_toArray, List.set_cons_zero, List.set_cons_succ, List.getElem_toArray, List.getElem_cons_zero, List.getElem_cons_succ]
            refine wpAnyH_ready (rs := [10]) (by kernel_rfl) (by simp) ?_
            refine AllReadyH.cons rfl (fun K hK => ?_) (AllReadyH.nil)
            have hb12 : Below z11.heap.size z11 (z11.alloc (.cells #[.int .i64 (-1), .int .i64 16777215, .int .i64 16777212, .int .i64 x2] 2)) := (Below.refl _ _).alloc (Nat.le_refl _) _
            have ltg2 : Hid (w.heap.size < z11.heap.size) := hide ((unhide S11).lt)
            have S12 := hide ((unhide S11).same (hb12.block _ (unhide S11).lt))
            have W12 := hide ((unhide W11).trans (hb12.mono (unhide W11).size))
            have g1_12 := hide ((hb12.block z6.heap.size (Array.getElem?_eq_some_iff.1 (unhide g1_11)).1).trans (unhide g1_11))
            have g2_12 : Hid ((z11.alloc (.cells #[.int .i64 (-1), .int .i64 16777215, .int .i64 16777212, .int .i64 x2] 2)).heap[z11.heap.size]? = some (.cells #[.int .i64 (-1), .int .i64 16777215, .int .i64 16777212, .int .i64 x2] 2)) := hide (heap_alloc_new z11 (.cells #[.int .i64 (-1), .int .i64 16777215, .int .i64 16777212, .int .i64 x2] 2))
            clear hb12
            go_simp
            refine hK.out _ _ trivial (fun _ => ?_)
            clear hK K
            try simp only [Act.put, List.setIfInBounds_toArray, List.set_cons_zero, List.set_cons_succ, List.getElem_toArray, List.getElem_cons_zero, List.getElem_cons_succ]
            refine wpAnyH_take (i := 13) (v := ?vdc13_13) rfl (by kernel_rfl) (by kernel_rfl) (by kernel_rfl) (fun _ _ _ h => h) (Or.inl ⟨by rfl, ?hydc13_13⟩) (by assumption) ?_
            case hydc13_13 =>
              intro w hSw
              try dsimp only at hSw
              go_simp
              try with_reducible rfl
            try simp only [Act.put, List.setIfInBounds_toArray, List.set_cons_zero, List.set_cons_succ, List.getElem_toArray, List.getElem_cons_zero, List.getElem_cons_succ]
            refine wpAnyH_ready (rs := [14]) (by kernel_rfl) (by simp) ?_
            refine AllReadyH.cons rfl (fun K hK => ?_) (AllReadyH.nil)
            obtain ⟨v2, hv13, _, _⟩ := lit_cell (unhide g2_12) (lit4 (by decide) (by decide) (by decide) (unhide Ox2)) r2 (by simpa using hr2)
            go_simp
            clear hv13
            refine hK.out _ _ trivial (fun _ => ?_)
            clear hK K
            try simp only [Act.put, List.setIfInBounds_toArray, List.set_cons_zero, List.set_cons_succ, List.getElem_toArray, List.getElem_cons_zero, List.getElem_cons_succ]
            refine wpAnyH_take (i := 17) (v := ?vdc14_17) rfl (by kernel_rfl) (by kernel_rfl) (by kernel_rfl) (fun _ _ _ h => h) (Or.inl ⟨by rfl, ?hydc14_17⟩) (by assumption) ?_
            case hydc14_17 =>
              intro w hSw
              try dsimp only at hSw
              go_simp
              try with_reducible rfl
            try simp only [Act.put, List.setIfInBounds_toArray, List.set_cons_zero, List.set_cons_succ, List.getElem_toArray, List.getElem_cons_zero, List.getElem_cons_succ]
            refine wpAnyH_done (by kernel_rfl) ?_ _
            go_wp2_with fail
            refine bodyPost_ret (v := .tuple #[.string t, .int .i64 v1, .int .i64 v2]) (by simp [results, Try.results6]) rfl ⟨t, v1, v2, rfl, ht0, unhide W12⟩
        · go_simp
          refine (src_edge_g z8 w.heap.size sl n hn (unhide S8) ((unhide HD).below (unhide W8))).mono ?_
          rintro e z9 ⟨x2, rfl, hx2a, hx2b, hS9, hn9⟩
          have Ox2 : Hid (okI64 (.int .i64 x2) = true) := hide (decide_eq_true ⟨hx2a, hx2b⟩)
          have S9 := hide hS9
          have W9 := hide ((unhide W8).trans (hn9.below (Nat.le_of_lt (unhide S8).lt)))
          have g1_9 := hide ((hn9.block z6.heap.size (Array.getElem?_eq_some_iff.1 (unhide g1_8)).1 (by have := unhide ltg1; omega)).trans (unhide g1_8))
          clear hS9 hn9 hx2a hx2b
          go_wp2_with fail
          refine hK.out _ _ trivial (fun _ => ?_)
          clear hK K
          try simp only [Act.put, List.setIfInBounds_toArray, List.set_cons_zero, List.set_cons_succ, List.getElem_toArray, List.getElem_cons_zero, List.getElem_cons_succ]
          refine wpAnyH_ready (rs := [7, 10, 12]) (by kernel_rfl) (by simp) ?_
          refine AllReadyH.cons rfl (fun K hK => ?_) (AllReadyH.cons rfl (fun K hK => ?_) (AllReadyH.cons rfl (fun K hK => ?_) (AllReadyH.nil)))
          · obtain ⟨v1, hv10, _, _⟩ := lit_cell (unhide g1_9) (lit4 (by decide) (by decide) (by decide) (unhide Ox1)) r1 (by simpa using hr1)
            go_simp
            clear hv10
            refine hK.out _ _ trivial (fun _ => ?_)
            clear hK K
            try simp only [Act.put, List.setIfInBounds_toArray, List.set_cons_zero, List.set_cons_succ, List.getElem_toArray, List.getElem_cons_zero, List.getElem_cons_succ]
            refine wpAnyH_ready (rs := [10, 12]) (by kernel_rfl) (by simp) ?_
            refine AllReadyH.cons rfl (fun K hK => ?_) (AllReadyH.cons rfl (fun K hK => ?_) (AllReadyH.nil))
            · have hb11 : Below z9.heap.size z9 (z9.alloc (.cells #[.int .i64 (-1), .int .i64 16777215, .int .i64 16777212, .int .i64 x2] 2)) := (Below.refl _ _).alloc (Nat.le_refl _) _
              have ltg2 : Hid (w.heap.size < z9.heap.size) := hide ((unhide S9).lt)
              have S11 := hide ((unhide S9).same (hb11.block _ (unhide S9).lt))
              have W11 := hide ((unhide W9).trans (hb11.mono (unhide W9).size))
              have g1_11 := hide ((hb11.block z6.heap.size (Array.getElem?_eq_some_iff.1 (unhide g1_9)).1).trans (unhide g1_9))
              have g2_11 : Hid ((z9.alloc (.cells #[.int .i64 (-1), .int .i64 16777215, .int .i64 16777212, .int .i64 x2] 2)).heap[z9.heap.size]? = some (.cells #[.int .i64 (-1), .int .i64 16777215, .int .i64 16777212, .int .i64 x2] 2)) := hide (heap_alloc_new z9 (.cells #[.int .i64 (-1), .int .i64 16777215, .int .i64 16777212, .int .i64 x2] 2))
              clear hb11
              go_simp
              refine hK.out _ _ trivial (fun _ => ?_)
              clear hK K
              try simp only [Act.put, List.setIfInBounds_toArray, List.set_cons_zero, List.set_cons_succ, List.getElem_toArray, List.getElem_cons_zero, List.getElem_cons_succ]
              refine wpAnyH_ready (rs := [12]) (by kernel_rfl) (by simp) ?_
              refine AllReadyH.cons rfl (fun K hK => ?_) (AllReadyH.nil)
              go_simp
              refine (src_n (z9.alloc (.cells #[.int .i64 (-1), .int .i64 16777215, .int .i64 16777212, .int .i64 x2] 2)) w.heap.size sl n 4 (by decide) hn (unhide S11) ((unhide HD).below (unhide W11))).mono ?_
              rintro e z12 ⟨r2, rfl, hr20, hS12, ht12⟩
              have hr2 : r2 < 4 := by omega
              have hr2i : (r2 : Int) < 4 := by omega
              have S12 := hide hS12
              have W12 := hide ((unhide W11).trans ht12.below)
              have g1_12 := hide ((ht12.block z6.heap.size (by have := unhide ltg1; omega)).trans (unhide g1_11))
              have g2_12 := hide ((ht12.block z9.heap.size (by have := unhide ltg2; omega)).trans (unhide g2_11))
              clear hS12 ht12 hr20
              go_wp2_with fail
              refine hK.out _ _ trivial (fun _ => ?_)
              clear hK K
              try simp only [Act.put, List.setIfInBounds_toArray, List.set_cons_zero, List.set_cons_succ, List.getElem_toArray, List.getElem_cons_zero, List.getElem_cons_succ]
              refine wpAnyH_take (i := 13) (v := ?vdc15_13) rfl (by kernel_rfl) (by kernel_rfl) (by kernel_rfl) (fun _ _ _ h => h) (Or.inl ⟨by rfl, ?hydc15_13⟩) (by assumption) ?_
              case hydc15_13 =>
                intro w hSw
                try dsimp only at hSw
                go_simp
                try with_reducible rfl
              try simp only [Act.put, List.setIfInBounds_toArray, List.set_cons_zero, List.set_cons_succ, List.getElem_toArray, List.getElem_cons_zero, List.getElem_cons_succ]
              refine wpAnyH_take (i := 15) (v := ?vdc16_15) rfl (by kernel_rfl) (by kernel_rfl) (by kernel_rfl) (fun _ _ _ h => h) (Or.inl ⟨by rfl, ?hydc16_15⟩) (by assumption) ?_
              case hydc16_15 =>
                intro w hSw
                try dsimp only at hSw
                go_simp
                try with_reducible rfl
              try simp only [Act.put, List.setIfInBounds_toArray, List.set_cons_zero, List.set_cons_succ, List.getElem_toArray, List.getElem_cons_zero, List.getElem_cons_succ]
              refine wpAnyH_take (i := 16) (v := ?vdc17_16) rfl (by kernel_rfl) (by kernel_rfl) (by kernel_rfl) (fun _ _ _ h => h) (Or.inl ⟨by rfl, ?hydc17_16⟩) (by assumption) ?_
              case hydc17_16 =>
                intro w hSw
                try dsimp only at hSw
                go_simp
                try with_reducible rfl
              try simp only [Act.put, List.setIfInBounds_toArray, List.set_cons_zero, List.set_cons_succ, List.getElem_toArray, List.getElem_cons_zero, List.getElem_cons_succ]
              refine wpAnyH_ready (rs := [14]) (by kernel_rfl) (by simp) ?_
              refine AllReadyH.cons rfl (fun K hK => ?_) (AllReadyH.nil)
              obtain ⟨v2, hv13, _, _⟩ := lit_cell (unhide g2_12) (lit4 (by decide) (by decide) (by decide) (unhide Ox2)) r2 (by simpa using hr2)
              go_simp
              clear hv13
              refine hK.out _ _ trivial (fun _ => ?_)
              clear hK K
              try simp only [Act.put, List.setIfInBounds_toArray, List.set_cons_zero, List.set_cons_succ, List.getElem_toArray, List.getElem_cons_zero, List.getElem_cons_succ]
              refine wpAnyH_take (i := 17) (v := ?vdc18_17) rfl (by kernel_rfl) (by kernel_rfl) (by kernel_rfl) (fun _ _ _ h => h) (Or.inl ⟨by rfl, ?hydc18_17⟩) (by assumption) ?_
              case hydc18_17 =>
                intro w hSw
                try dsimp only at hSw
                go_simp
                try with_reducible rfl
              try simp only [Act.put, List.setIfInBounds_toArray, List.set_cons_zero, List.set_cons_succ, List.getElem_toArray, List.getElem_cons_zero, List.getElem_cons_succ]
              refine wpAnyH_done (by kernel_rfl) ?_ _
              go_wp2_with fail
              refine bodyPost_ret (v := .tuple #[.string t, .int .i64 v1, .int .i64 v2]) (by simp [results, Try.results6]) rfl ⟨t, v1, v2, rfl, ht0, unhide W12⟩
            · go_simp
              refine (src_n z9 w.heap.size sl n 4 (by decide) hn (unhide S9) ((unhide HD).below (unhide W9))).mono ?_
              rintro e z11 ⟨r2, rfl, hr20, hS11, ht11⟩
              have hr2 : r2 < 4 := by omega
              have hr2i : (r2 : Int) < 4 := by omega
              have S11 := hide hS11
              have W11 := hide ((unhide W9).trans ht11.below)
              have g1_11 := hide ((ht11.block z6.heap.size (by have := unhide ltg1; omega)).trans (unhide g1_9))
              clear hS11 ht11 hr20
              go_wp2_with fail
              refine hK.out _ _ trivial (fun _ => ?_)
              clear hK K
              try simp only [Act.put, List.setIfInBounds_toArray, List.set_cons_zero, List.set_cons_succ, List.getElem_toArray, List.getElem_cons_zero, List.getElem_cons_succ]
              refine wpAnyH_take (i := 15) (v := ?vdc19_15) rfl (by kernel_rfl) (by kernel_rfl) (by kernel_rfl) (fun _ _ _ h => h) (Or.inl ⟨by rfl, ?hydc19_15⟩) (by assumption) ?_
              case hydc19_15 =>
                intro w hSw
                try dsimp only at hSw
                go_simp
                try with_reducible rfl
              try simp only [Act.put, List.setIfInBounds_toArray, List.set_cons_zero, List.set_cons_succ, List.getElem_toArray, List.getElem_cons_zero, List.getElem_cons_succ]
              refine wpAnyH_take (i := 16) (v := ?vdc20_16) rfl (by kernel_rfl) (by kernel_rfl) (by kernel_rfl) (fun _ _ _ h => h) (Or.inl ⟨by rfl, ?hydc20_16⟩) (by assumption) ?_
              case hydc20_16 =>
                intro w hSw
                try dsimp only at hSw
                go_simp
                try with_reducible rfl
              try simp only [Act.put, List.setIfInBounds_toArray, List.set_cons_zero, List.set_cons_succ, List.getElem_toArray, List.getElem_cons_zero, List.getElem_cons_succ]
              refine wpAnyH_ready (rs := [10]) (by kernel_rfl) (by simp) ?_
              refine AllReadyH.cons rfl (fun K hK => ?_) (AllReadyH.nil)
              have hb12 : Below z11.heap.size z11 (z11.alloc (.cells #[.int .i64 (-1), .int .i64 16777215, .int .i64 16777212, .int .i64 x2] 2)) := (Below.refl _ _).alloc (Nat.le_refl _) _
              have ltg2 : Hid (w.heap.size < z11.heap.size) := hide ((unhide S11).lt)
              have S12 := hide ((unhide S11).same (hb12.block _ (unhide S11).lt))
              have W12 := hide ((unhide W11).trans (hb12.mono (unhide W11).size))
              have g1_12 := hide ((hb12.block z6.heap.size (Array.getElem?_eq_some_iff.1 (unhide g1_11)).1).trans (unhide g1_11))
              have g2_12 : Hid ((z11.alloc (.cells #[.int .i64 (-1), .int .i64 16777215, .int .i64 16777212, .int .i64 x2] 2)).heap[z11.heap.size]? = some (.cells #[.int .i64 (-1), .int .i64 16777215, .int .i64 16777212, .int .i64 x2] 2)) := hide (heap_alloc_new z11 (.cells #[.int .i64 (-1), .int .i64 16777215, .int .i64 16777212, .int .i64 x2] 2))
              clear hb12
              go_simp
              refine hK.out _ _ trivial (fun _ => ?_)
              clear hK K
              try simp only [Act.put, List.setIfInBounds_toArray, List.set_cons_zero, List.set_cons_succ, List.getElem_toArray, List.getElem_cons_zero, List.getElem_cons_succ]
              refine wpAnyH_take (i := 13) (v := ?vdc21_13) rfl (by kernel_rfl) (by kernel_rfl) (by kernel_rfl) (fun _ _ _ h => h) (Or.inl ⟨by rfl, ?hydc21_13⟩) (by assumption) ?_
              case hydc21_13 =>
                intro w hSw
                try dsimp only at hSw
                go_simp
                try with_reducible rfl
              try simp only [Act.put, List.setIfInBounds_toArray, List.set_cons_zero, List.set_cons_succ, List.getElem_toArray, List.getElem_cons_zero, List.getElem_cons_succ]
              refine wpAnyH_ready (rs := [14]) (by kernel_rfl) (by simp) ?_
              refine AllReadyH.cons rfl (fun K hK => ?_) (AllReadyH.nil)
              obtain ⟨v2, hv13, _, _⟩ := lit_cell (unhide g2_12) (lit4 (by decide) (by decide) (by decide) (unhide Ox2)) r2 (by simpa using hr2)
              go_simp
              clear hv13
              refine hK.out _ _ trivial (fun _ => ?_)
              clear hK K
              try simp only [Act.put, List.setIfInBounds_toArray, List.set_cons_zero, List.set_cons_succ, List.getElem_toArray, List.getElem_cons_zero, List.getElem_cons_succ]
              refine wpAnyH_take (i := 17) (v := ?vdc22_17) rfl (by kernel_rfl) (by kernel_rfl) (by kernel_rfl) (fun _ _ _ h => h) (Or.inl ⟨by rfl, ?hydc22_17⟩) (by assumption) ?_
              case hydc22_17 =>
                intro w hSw
                try dsimp only at hSw
                go_simp
                try with_reducible rfl
              try simp only [Act.put, List.setIfInBounds_toArray, List.set_cons_zero, List.set_cons_succ, List.getElem_toArray, List.getElem_cons_zero, List.getElem_cons_succ]
              refine wpAnyH_done (by kernel_rfl) ?_ _
              go_wp2_with fail
              refine bodyPost_ret (v := .tuple #[.string t, .int .i64 v1, .int .i64 v2]) (by simp [results, Try.results6]) rfl ⟨t, v1, v2, rfl, ht0, unhide W12⟩
          · have hb10 : Below z9.heap.size z9 (z9.alloc (.cells #[.int .i64 (-1), .int .i64 16777215, .int .i64 16777212, .int .i64 x2] 2)) := (Below.refl _ _).alloc (Nat.le_refl _) _
            have ltg2 : Hid (w.heap.size < z9.heap.size) := hide ((unhide S9).lt)
            have S10 := hide ((unhide S9).same (hb10.block _ (unhide S9).lt))
            have W10 := hide ((unhide W9).trans (hb10.mono (unhide W9).size))
            have g1_10 := hide ((hb10.block z6.heap.size (Array.getElem?_eq_some_iff.1 (unhide g1_9)).1).trans (unhide g1_9))
            have g2_10 : Hid ((z9.alloc (.cells #[.int .i64 (-1), .int .i64 16777215, .int .i64 16777212, .int .i64 x2] 2)).heap[z9.heap.size]? = some (.cells #[.int .i64 (-1), .int .i64 16777215, .int .i64 16777212, .int .i64 x2] 2)) := hide (heap_alloc_new z9 (.cells #[.int .i64 (-1), .int .i64 16777215, .int .i64 16777212, .int .i64 x2] 2))
            clear hb10
            go_simp
            refine hK.out _ _ trivial (fun _ => ?_)
            clear hK K
            try simp only [Act.put, List.setIfInBounds_toArray, List.set_cons_zero, List.set_cons_succ, List.getElem_toArray, List.getElem_cons_zero, List.getElem_cons_succ]
            refine wpAnyH_ready (rs := [7, 12]) (by kernel_rfl) (by simp) ?_
            refine AllReadyH.cons rfl (fun K hK => ?_) (AllReadyH.cons rfl (fun K hK => ?_) (AllReadyH.nil))
            · obtain ⟨v1, hv11, _, _⟩ := lit_cell (unhide g1_10) (lit4 (by decide) (by decide) (by decide) (unhide Ox1)) r1 (by simpa using hr1)
              go_simp
              clear hv11
              refine hK.out _ _ trivial (fun _ => ?_)
              clear hK K
              try simp only [Act.put, List.setIfInBounds_toArray, List.set_cons_zero, List.set_cons_succ, List.getElem_toArray, List.getElem_cons_zero, List.getElem_cons_succ]
              refine wpAnyH_ready (rs := [12]) (by kernel_rfl) (by simp) ?_
              refine AllReadyH.cons rfl (fun K hK => ?_) (AllReadyH.nil)
              go_simp
              refine (src_n (z9.alloc (.cells #[.int .i64 (-1), .int .i64 16777215, .int .i64 16777212, .int .i64 x2] 2)) w.heap.size sl n 4 (by decide) hn (unhide S10) ((unhide HD).below (unhide W10))).mono ?_
              rintro e z12 ⟨r2, rfl, hr20, hS12, ht12⟩
              have hr2 : r2 < 4 := by omega
              have hr2i : (r2 : Int) < 4 := by omega
              have S12 := hide hS12
              have W12 := hide ((unhide W10).trans ht12.below)
              have g1_12 := hide ((ht12.block z6.heap.size (by have := unhide ltg1; omega)).trans (unhide g1_10))
              have g2_12 := hide ((ht12.block z9.heap.size (by have := unhide ltg2; omega)).trans (unhide g2_10))
              clear hS12 ht12 hr20
              go_wp2_with fail
              refine hK.out _ _ trivial (fun _ => ?_)
              clear hK K
              try simp only [Act.put, List.setIfInBounds_toArray, List.set_cons_zero, List.set_cons_succ, List.getElem_toArray, List.getElem_cons_zero, List.getElem_cons_succ]
              refine wpAnyH_take (i := 13) (v := ?vdc23_13) rfl (by kernel_rfl) (by kernel_rfl) (by kernel_rfl) (fun _ _ _ h => h) (Or.inl ⟨by rfl, ?hydc23_13⟩) (by assumption) ?_
              case hydc23_13 =>
                intro w hSw
                try dsimp only at hSw
                go_simp
                try with_reducible rfl
              try simp only [Act.put, List.setIfInBounds_toArray, List.set_cons_zero, List.set_cons_succ, List.getElem_toArray, List.getElem_cons_zero, List.getElem_cons_succ]
              refine wpAnyH_take (i := 15) (v := ?vdc24_15) rfl (by kernel_rfl) (by kernel_rfl) (by kernel_rfl) (fun _ _ _ h => h) (Or.inl ⟨by rfl, ?hydc24_15⟩) (by assumption) ?_
              case hydc24_15 =>
                intro w hSw
                try dsimp only at hSw
                go_simp
                try with_reducible rfl
              try simp only [Act.put, List.setIfInBounds_toArray, List.set_cons_zero, List.set_cons_succ, List.getElem_toArray, List.getElem_cons_zero, List.getElem_cons_succ]
              refine wpAnyH_take (i := 16) (v := ?vdc25_16) rfl (by kernel_rfl) (by kernel_rfl) (by kernel_rfl) (fun _ _ _ h => h) (Or.inl ⟨by rfl, ?hydc25_16⟩) (by assumption) ?_
              case hydc25_16 =>
                intro w hSw
                try dsimp only at hSw
                go_simp
                try with_reducible rfl
              try simp only [Act.put, List.setIfInBounds_toArray, List.set_cons_zero, List.set_cons_succ, List.getElem_toArray, List.getElem_cons_zero, List.getElem_cons_succ]
              refine wpAnyH_ready (rs := [14]) (by kernel_rfl) (by simp) ?_
              refine AllReadyH.cons rfl (fun K hK => ?_) (AllReadyH.nil)
              obtain ⟨v2, hv13, _, _⟩ := lit_cell (unhide g2_12) (lit4 (by decide) (by decide) (by decide) (unhide Ox2)) r2 (by simpa using hr2)
              go_simp
              clear hv13
              refine hK.out _ _ trivial (fun _ => ?_)
              clear hK K
              try simp only [Act.put, List.setIfInBounds_toArray, List.set_cons_zero, List.set_cons_succ, List.getElem_toArray, List.getElem_cons_zero, List.getElem_cons_succ]
              refine wpAnyH_take (i := 17) (v := ?vdc26_17) rfl (by kernel_rfl) (by kernel_rfl) (by kernel_rfl) (fun _ _ _ h => h) (Or.inl ⟨by rfl, ?hydc26_17⟩) (by assumption) ?_
              case hydc26_17 =>
                intro w hSw
                try dsimp only at hSw
                go_simp
                try with_reducible rfl
              try simp only [Act.put, List.setIfInBounds_toArray, List.set_cons_zero, List.set_cons_succ, List.getElem_toArray, List.getElem_cons_zero, List.getElem_cons_succ]
              refine wpAnyH_done (by kernel_rfl) ?_ _
              go_wp2_with fail
              refine bodyPost_ret (v := .tuple #[.string t, .int .i64 v1, .int .i64 v2]) (by simp [results, Try.results6]) rfl ⟨t, v1, v2, rfl, ht0, unhide W12⟩
            · go_simp
              refine (src_n (z9.alloc (.cells #[.int .i64 (-1), .int .i64 16777215, .int .i64 16777212, .int .i64 x2] 2)) w.heap.size sl n 4 (by decide) hn (unhide S10) ((unhide HD).below (unhide W10))).mono ?_
              rintro e z11 ⟨r2, rfl, hr20, hS11, ht11⟩
              have hr2 : r2 < 4 := by omega
              have hr2i : (r2 : Int) < 4 := by omega
              have S11 := hide hS11
              have W11 := hide ((unhide W10).trans ht11.below)
              have g1_11 := hide ((ht11.block z6.heap.size (by have := unhide ltg1; omega)).trans (unhide g1_10))
              have g2_11 := hide ((ht11.block z9.heap.size (by have := unhide ltg2; omega)).trans (unhide g2_10))
              clear hS11 ht11 hr20
              go_wp2_with fail
              refine hK.out _ _ trivial (fun _ => ?_)
              clear hK K
              try simp only [Act.put, List.setIfInBounds_toArray, List.set_cons_zero, List.set_cons_succ, List.getElem_toArray, List.getElem_cons_zero, List.getElem_cons_succ]
              refine wpAnyH_take (i := 13) (v := ?vdc27_13) rfl (by kernel_rfl) (by kernel_rfl) (by kernel_rfl) (fun _ _ _ h => h) (Or.inl ⟨by rfl, ?hydc27_13⟩) (by assumption) ?_
              case hydc27_13 =>
                intro w hSw
                try dsimp only at hSw
                go_simp
                try with_reducible rfl
              try simp only [Act.put, List.setIfInBounds_toArray, List.set_cons_zero, List.set_cons_succ, List.getElem_toArray, List.getElem_cons_zero, List.getElem_cons_succ]
              refine wpAnyH_take (i := 15) (v := ?vdc28_15) rfl (by kernel_rfl) (by kernel_rfl) (by kernel_rfl) (fun _ _ _ h => h) (Or.inl ⟨by rfl, ?hydc28_15⟩) (by assumption) ?_
              case hydc28_15 =>
                intro w hSw
                try dsimp only at hSw
                go_simp
                try with_reducible rfl
              try simp only [Act.put, List.setIfInBounds_toArray, List.set_cons_zero, List.set_cons_succ, List.getElem_toArray, List.getElem_cons_zero, List.getElem_cons_succ]
              refine wpAnyH_ready (rs := [7, 14]) (by kernel_rfl) (by simp) ?_
              refine AllReadyH.cons rfl (fun K hK => ?_) (AllReadyH.cons rfl (fun K hK => ?_) (AllReadyH.nil))
              · obtain ⟨v1, hv12, _, _⟩ := lit_cell (unhide g1_11) (lit4 (by decide) (by decide) (by decide) (unhide Ox1)) r1 (by simpa using hr1)
                go_simp
                clear hv12
                refine hK.out _ _ trivial (fun _ => ?_)
                clear hK K
                try simp only [Act.put, List.setIfInBounds_toArray, List.set_cons_zero, List.set_cons_succ, List.getElem_toArray, List.getElem_cons_zero, List.getElem_cons_succ]
                refine wpAnyH_take (i := 16) (v := ?vdc29_16) rfl (by kernel_rfl) (by kernel_rfl) (by kernel_rfl) (fun _ _ _ h => h) (Or.inl ⟨by rfl, ?hydc29_16⟩) (by assumption) ?_
                case hydc29_16 =>
                  intro w hSw
                  try dsimp only at hSw
                  go_simp
                  try with_reducible rfl
                try simp only [Act.put, List.setIfInBounds_toArray, List.set_cons_zero, List.set_cons_succ, List.getElem_toArray, List.getElem_cons_zero, List.getElem_cons_succ]
                refine wpAnyH_ready (rs := [14]) (by kernel_rfl) (by simp) ?_
                refine AllReadyH.cons rfl (fun K hK => ?_) (AllReadyH.nil)
                obtain ⟨v2, hv13, _, _⟩ := lit_cell (unhide g2_11) (lit4 (by decide) (by decide) (by decide) (unhide Ox2)) r2 (by simpa using hr2)
                go_simp
                clear hv13
                refine hK.out _ _ trivial (fun _ => ?_)
                clear hK K
                try simp only [Act.put, List.setIfInBounds_toArray, List.set_cons_zero, List.set_cons_succ, List.getElem_toArray, List.getElem_cons_zero, List.getElem_cons_succ]
                refine wpAnyH_take (i := 17) (v := ?vdc30_17) rfl (by kernel_rfl) (by kernel_rfl) (by kernel_rfl) (fun _ _ _ h => h) (Or.inl ⟨by rfl, ?hydc30_17⟩) (by assumption) ?_
                case hydc30_17 =>
                  intro w hSw
                  try dsimp only at hSw
                  go_simp
                  try with_reducible rfl
                try simp only [Act.put, List.setIfInBounds_toArray, List.set_cons_zero, List.set_cons_succ, List.getElem_toArray, List.getElem_cons_zero, List.getElem_cons_succ]
                refine wpAnyH_done (by kernel_rfl) ?_ _
                go_wp2_with fail
                refine bodyPost_ret (v := .tuple #[.string t, .int .i64 v1, .int .i64 v2]) (by simp [results, Try.results6]) rfl ⟨t, v1, v2, rfl, ht0, unhide W11⟩
              · obtain ⟨v2, hv12, _, _⟩ := lit_cell (unhide g2_11) (lit4 (by decide) (by decide) (by decide) (unhide Ox2)) r2 (by simpa using hr2)
                go_simp
                clear hv12
                refine hK.out _ _ trivial (fun _ => ?_)
                clear hK K
                try simp only [Act.put, List.setIfInBounds_toArray, List.set_cons_zero, List.set_cons_succ, List.getElem_toArray, List.getElem_cons_zero, List.getElem_cons_succ]
                refine wpAnyH_ready (rs := [7]) (by kernel_rfl) (by simp) ?_
                refine AllReadyH.cons rfl (fun K hK => ?_) (AllReadyH.nil)
                obtain ⟨v1, hv13, _, _⟩ := lit_cell (unhide g1_11) (lit4 (by decide) (by decide) (by decide) (unhide Ox1)) r1 (by simpa using hr1)
                go_simp
                clear hv13
                refine hK.out _ _ trivial (fun _ => ?_)
                clear hK K
                try simp only [Act.put, List.setIfInBounds_toArray, List.set_cons_zero, List.set_cons_succ, List.getElem_toArray, List.getElem_cons_zero, List.getElem_cons_succ]
                refine wpAnyH_take (i := 16) (v := ?vdc31_16) rfl (by kernel_rfl) (by kernel_rfl) (by kernel_rfl) (fun _ _ _ h => h) (Or.inl ⟨by rfl, ?hydc31_16⟩) (by assumption) ?_
                case hydc31_16 =>
                  intro w hSw
                  try dsimp only at hSw
                  go_simp
                  try with_reducible rfl
                try simp only [Act.put, List.setIfInBounds_toArray, List.set_cons_zero, List.set_cons_succ, List.getElem_toArray, List.getElem_cons_zero, List.getElem_cons_succ]
                refine wpAnyH_take (i := 17) (v := ?vdc32_17) rfl (by kernel_rfl) (by kernel_rfl) (by kernel_rfl) (fun _ _ _ h => h) (Or.inl ⟨by rfl, ?hydc32_17⟩) (by assumption) ?_
                case hydc32_17 =>
                  intro w hSw
                  try dsimp only at hSw
                  go_simp
                  try with_reducible rfl
                try simp only [Act.put, List.setIfInBounds_toArray, List.set_cons_zero, List.set_cons_succ, List.getElem_toArray, List.getElem_cons_zero, List.getElem_cons_succ]
                refine wpAnyH_done (by kernel_rfl) ?_ _
                go_wp2_with fail
                refine bodyPost_ret (v := .tuple #[.string t, .int .i64 v1, .int .i64 v2]) (by simp [results, Try.results6]) rfl ⟨t, v1, v2, rfl, ht0, unhide W11⟩
          · go_simp
            refine (src_n z9 w.heap.size sl n 4 (by decide) hn (unhide S9) ((unhide HD).below (unhide W9))).mono ?_
            rintro e z10 ⟨r2, rfl, hr20, hS10, ht10⟩
            have hr2 : r2 < 4 := by omega
            have hr2i : (r2 : Int) < 4 := by omega
            have S10 := hide hS10
            have W10 := hide ((unhide W9).trans ht10.below)
            have g1_10 := hide ((ht10.block z6.heap.size (by have := unhide ltg1; omega)).trans (unhide g1_9))
            clear hS10 ht10 hr20
            go_wp2_with fail
            refine hK.out _ _ trivial (fun _ => ?_)
            clear hK K
            try simp only [Act.put, List.setIfInBounds_toArray, List.set_cons_zero, List.set_cons_succ, List.getElem_toArray, List.getElem_cons_zero, List.getElem_cons_succ]
            refine wpAnyH_take (i := 15) (v := ?vdc33_15) rfl (by kernel_rfl) (by kernel_rfl) (by kernel_rfl) (fun _ _ _ h => h) (Or.inl ⟨by rfl, ?hydc33_15⟩) (by assumption) ?_
            case hydc33_15 =>
              intro w hSw
              try dsimp only at hSw
              go_simp
              try with_reducible rfl
            try simp only [Act.put, List.setIfInBounds_toArray, List.set_cons_zero, List.set_cons_succ, List.getElem_toArray, List.getElem_cons_zero, List.getElem_cons_succ]
            refine wpAnyH_ready (rs := [7, 10]) (by kernel_rfl) (by simp) ?_
            refine AllReadyH.cons rfl (fun K hK => ?_) (AllReadyH.cons rfl (fun K hK => ?_) (AllReadyH.nil))
            · obtain ⟨v1, hv11, _, _⟩ := lit_cell (unhide g1_10) (lit4 (by decide) (by decide) (by decide) (unhide Ox1)) r1 (by simpa using hr1)
              go_simp
              clear hv11
              refine hK.out _ _ trivial (fun _ => ?_)
              clear hK K
              try simp only [Act.put, List.setIfInBounds_toArray, List.set_cons_zero, List.set_cons_succ, List.getElem_toArray, List.getElem_cons_zero, List.getElem_cons_succ]
              refine wpAnyH_take (i := 16) (v := ?vdc34_16) rfl (by kernel_rfl) (by kernel_rfl) (by kernel_rfl) (fun _ _ _ h => h) (Or.inl ⟨by rfl, ?hydc34_16⟩) (by assumption) ?_
              case hydc34_16 =>
                intro w hSw
                try dsimp only at hSw
                go_simp
                try with_reducible rfl
              try simp only [Act.put, List.setIfInBounds_toArray, List.set_cons_zero, List.set_cons_succ, List.getElem_toArray, List.getElem_cons_zero, List.getElem_cons_succ]
              refine wpAnyH_ready (rs := [10]) (by kernel_rfl) (by simp) ?_
              refine AllReadyH.cons rfl (fun K hK => ?_) (AllReadyH.nil)
              have hb12 : Below z10.heap.size z10 (z10.alloc (.cells #[.int .i64 (-1), .int .i64 16777215, .int .i64 16777212, .int .i64 x2] 2)) := (Below.refl _ _).alloc (Nat.le_refl _) _
              have ltg2 : Hid (w.heap.size < z10.heap.size) := hide ((unhide S10).lt)
              have S12 := hide ((unhide S10).same (hb12.block _ (unhide S10).lt))
              have W12 := hide ((unhide W10).trans (hb12.mono (unhide W10).size))
              have g1_12 := hide ((hb12.block z6.heap.size (Array.getElem?_eq_some_iff.1 (unhide g1_10)).1).trans (unhide g1_10))
              have g2_12 : Hid ((z10.alloc (.cells #[.int .i64 (-1), .int .i64 16777215, .int .i64 16777212, .int .i64 x2] 2)).heap[z10.heap.size]? = some (.cells #[.int .i64 (-1), .int .i64 16777215, .int .i64 16777212, .int .i64 x2] 2)) := hide (heap_alloc_new z10 (.cells #[.int .i64 (-1), .int .i64 16777215, .int .i64 16777212, .int .i64 x2] 2))
              clear hb12
              go_simp
              refine hK.out _ _ trivial (fun _ => ?_)
              clear hK K
              try simp only [Act.put, List.setIfInBounds_toArray, List.set_cons_zero, List.set_cons_succ, List.getElem_toArray, List.getElem_cons_zero, List.getElem_cons_succ]
              refine wpAnyH_take (i := 13) (v := ?vdc35_13) rfl (by kernel_rfl) (by kernel_rfl) (by kernel_rfl) (fun _ _ _ h => h) (Or.inl ⟨by rfl, ?hydc35_13⟩) (by assumption) ?_
              case hydc35_13 =>
                intro w hSw
                try dsimp only at hSw
                go_simp
                try with_reducible rfl
              try simp only [Act.put, List.setIfInBounds_toArray, List.set_cons_zero, List.set_cons_succ, List.getElem_toArray, List.getElem_cons_zero, List.getElem_cons_succ]
              refine wpAnyH_ready (rs := [14]) (by kernel_rfl) (by simp) ?_
              refine AllReadyH.cons rfl (fun K hK => ?_) (AllReadyH.nil)
              obtain ⟨v2, hv13, _, _⟩ := lit_cell (unhide g2_12) (lit4 (by decide) (by decide) (by decide) (unhide Ox2)) r2 (by simpa using hr2)
              go_simp
              clear hv13
              refine hK.out _ _ trivial (fun _ => ?_)
              clear hK K
              try simp only [Act.put, List.setIfInBounds_toArray, List.set_cons_zero, List.set_cons_succ, List.getElem_toArray, List.getElem_cons_zero, List.getElem_cons_succ]
              refine wpAnyH_take (i := 17) (v := ?vdc36_17) rfl (by kernel_rfl) (by kernel_rfl) (by kernel_rfl) (fun _ _ _ h => h) (Or.inl ⟨by rfl, ?hydc36_17⟩) (by assumption) ?_
              case hydc36_17 =>
                intro w hSw
                try dsimp only at hSw
                go_simp
                try with_reducible rfl
              try simp only [Act.put, List.setIfInBounds_toArray, List.set_cons_zero, List.set_cons_succ, List.getElem_toArray, List.getElem_cons_zero, List.getElem_cons_succ]
              refine wpAnyH_done (by kernel_rfl) ?_ _
              go_wp2_with fail
              refine bodyPost_ret (v := .tuple #[.string t, .int .i64 v1, .int .i64 v2]) (by simp [results, Try.results6]) rfl ⟨t, v1, v2, rfl, ht0, unhide W12⟩
            · have hb11 : Below z10.heap.size z10 (z10.alloc (.cells #[.int .i64 (-1), .int .i64 16777215, .int .i64 16777212, .int .i64 x2] 2)) := (Below.refl _ _).alloc (Nat.le_refl _) _
              have ltg2 : Hid (w.heap.size < z10.heap.size) := hide ((unhide S10).lt)
              have S11 := hide ((unhide S10).same (hb11.block _ (unhide S10).lt))
              have W11 := hide ((unhide W10).trans (hb11.mono (unhide W10).size))
              have g1_11 := hide ((hb11.block z6.heap.size (Array.getElem?_eq_some_iff.1 (unhide g1_10)).1).trans (unhide g1_10))
              have g2_11 : Hid ((z10.alloc (.cells #[.int .i64 (-1), .int .i64 16777215, .int .i64 16777212, .int .i64 x2] 2)).heap[z10.heap.size]? = some (.cells #[.int .i64 (-1), .int .i64 16777215, .int .i64 16777212, .int .i64 x2] 2)) := hide (heap_alloc_new z10 (.cells #[.int .i64 (-1), .int .i64 16777215, .int .i64 16777212, .int .i64 x2] 2))
              clear hb11
              go_simp
              refine hK.out _ _ trivial (fun _ => ?_)
              clear hK K
              try simp only [Act.put, List.setIfInBounds_toArray, List.set_cons_zero, List.set_cons_succ, List.getElem_toArray, List.getElem_cons_zero, List.getElem_cons_succ]
              refine wpAnyH_take (i := 13) (v := ?vdc37_13) rfl (by kernel_rfl) (by kernel_rfl) (by kernel_rfl) (fun _ _ _ h => h) (Or.inl ⟨by rfl, ?hydc37_13⟩) (by assumption) ?_
              case hydc37_13 =>
                intro w hSw
                try dsimp only at hSw
                go_simp
                try with_reducible rfl
              try simp only [Act.put, List.setIfInBounds_toArray, List.set_cons_zero, List.set_cons_succ, List.getElem_toArray, List.getElem_cons_zero, List.getElem_cons_succ]
              refine wpAnyH_ready (rs := [7, 14]) (by kernel_rfl) (by simp) ?_
              refine AllReadyH.cons rfl (fun K hK => ?_) (AllReadyH.cons rfl (fun K hK => ?_) (AllReadyH.nil))
              · obtain ⟨v1, hv12, _, _⟩ := lit_cell (unhide g1_11) (lit4 (by decide) (by decide) (by decide) (unhide Ox1)) r1 (by simpa using hr1)
                go_simp
                clear hv12
                refine hK.out _ _ trivial (fun _ => ?_)
                clear hK K
                try simp only [Act.put, List.setIfInBounds_toArray, List.set_cons_zero, List.set_cons_succ, List.getElem_toArray, List.getElem_cons_zero, List.getElem_cons_succ]
                refine wpAnyH_take (i := 16) (v := ?vdc38_16) rfl (by kernel_rfl) (by kernel_rfl) (by kernel_rfl) (fun _ _ _ h => h) (Or.inl ⟨by rfl, ?hydc38_16⟩) (by assumption) ?_
                case hydc38_16 =>
                  intro w hSw
                  try dsimp only at hSw
                  go_simp
                  try with_reducible rfl
                try simp only [Act.put, List.setIfInBounds_toArray, List.set_cons_zero, List.set_cons_succ, List.getElem_toArray, List.getElem_cons_zero, List.getElem_cons_succ]
                refine wpAnyH_ready (rs := [14]) (by kernel_rfl) (by simp) ?_
                refine AllReadyH.cons rfl (fun K hK => ?_) (AllReadyH.nil)
                obtain ⟨v2, hv13, _, _⟩ := lit_cell (unhide g2_11) (lit4 (by decide) (by decide) (by decide) (unhide Ox2)) r2 (by simpa using hr2)
                go_simp
                clear hv13
                refine hK.out _ _ trivial (fun _ => ?_)
                clear hK K
                try simp only [Act.put, List.setIfInBounds_toArray, List.set_cons_zero, List.set_cons_succ, List.getElem_toArray, List.getElem_cons_zero, List.getElem_cons_succ]
                refine wpAnyH_take (i := 17) (v := ?vdc39_17) rfl (by kernel_rfl) (by kernel_rfl) (by kernel_rfl) (fun _ _ _ h => h) (Or.inl ⟨by rfl, ?hydc39_17⟩) (by assumption) ?_
                case hydc39_17 =>
                  intro w hSw
                  try dsimp only at hSw
                  go_simp
                  try with_reducible rfl
                try simp only [Act.put, List.setIfInBounds_toArray, List.set_cons_zero, List.set_cons_succ, List.getElem_toArray, List.getElem_cons_zero, List.getElem_cons_succ]
                refine wpAnyH_done (by kernel_rfl) ?_ _
                go_wp2_with fail
                refine bodyPost_ret (v := .tuple #[.string t, .int .i64 v1, .int .i64 v2]) (by simp [results, Try.results6]) rfl ⟨t, v1, v2, rfl, ht0, unhide W11⟩
              · obtain ⟨v2, hv12, _, _⟩ := lit_cell (unhide g2_11) (lit4 (by decide) (by decide) (by decide) (unhide Ox2)) r2 (by simpa using hr2)
                go_simp
                clear hv12
                refine hK.out _ _ trivial (fun _ => ?_)
                clear hK K
                try simp only [Act.put, List.setIfInBounds_toArray, List.set_cons_zero, List.set_cons_succ, List.getElem_toArray, List.getElem_cons_zero, List.getElem_cons_succ]
                refine wpAnyH_ready (rs := [7]) (by kernel_rfl) (by simp) ?_
                refine AllReadyH.cons rfl (fun K hK => ?_) (AllReadyH.nil)
                obtain ⟨v1, hv13, _, _⟩ := lit_cell (unhide g1_11) (lit4 (by decide) (by decide) (by decide) (unhide Ox1)) r1 (by simpa using hr1)
                go_simp
                clear hv13
                refine hK.out _ _ trivial (fun _ => ?_)
                clear hK K
                try simp only [Act.put, List.setIfInBounds_toArray, List.set_cons_zero, List.set_cons_succ, List.getElem_toArray, List.getElem_cons_zero, List.getElem_cons_succ]
                refine wpAnyH_take (i := 16) (v := ?vdc40_16) rfl (by kernel_rfl) (by kernel_rfl) (by kernel_rfl) (fun _ _ _ h => h) (Or.inl ⟨by rfl, ?hydc40_16⟩) (by assumption) ?_
                case hydc40_16 =>
                  intro w hSw
                  try dsimp only at hSw
                  go_simp
                  try with_reducible rfl
                try simp only [Act.put, List.setIfInBounds_toArray, List.set_cons_zero, List.set_cons_succ, List.getElem_toArray, List.getElem_cons_zero, List.getElem_cons_succ]
                refine wpAnyH_take (i := 17) (v := ?vdc41_17) rfl (by kernel_rfl) (by kernel_rfl) (by kernel_rfl) (fun _ _ _ h => h) (Or.inl ⟨by rfl, ?hydc41_17⟩) (by assumption) ?_
                case hydc41_17 =>
                  intro w hSw
                  try dsimp only at hSw
                  go_simp
                  try with_reducible rfl
                try simp only [Act.put, List.setIfInBounds_toArray, List.set_cons_zero, List.set_cons_succ, List.getElem_toArray, List.getElem_cons_zero, List.getElem_cons_succ]
                refine wpAnyH_done (by kernel_rfl) ?_ _
                go_wp2_with fail
                refine bodyPost_ret (v := .tuple #[.string t, .int .i64 v1, .int .i64 v2]) (by simp [results, Try.results6]) rfl ⟨t, v1, v2, rfl, ht0, unhide W11⟩
      · go_simp
        refine (src_n z6 w.heap.size sl n 4 (by decide) hn (unhide S6) ((unhide HD).below (unhide W6))).mono ?_
        rintro e z7 ⟨r1, rfl, hr10, hS7, ht7⟩
        have hr1 : r1 < 4 := by omega
        have hr1i : (r1 : Int) < 4 := by omega
        have S7 := hide hS7
        have W7 := hide ((unhide W6).trans ht7.below)
        clear hS7 ht7 hr10
        go_wp2_with fail
        refine hK.out _ _ trivial (fun _ => ?_)
        clear hK K
        try simp only [Act.put, List.setIfInBounds_toArray, List.set_cons_zero, List.set_cons_succ, List.getElem_toArray, List.getElem_cons_zero, List.getElem_cons_succ]
        refine wpAnyH_ready (rs := [3, 9]) (by kernel_rfl) (by simp) ?_
        refine AllReadyH.cons rfl (fun K hK => ?_) (AllReadyH.cons rfl (fun K hK => ?_) (AllReadyH.nil))
        · have hb8 : Below z7.heap.size z7 (z7.alloc (.cells #[.int .i64 0, .int .i64 200, .int .i64 201, .int .i64 x1] 2)) := (Below.refl _ _).alloc (Nat.le_refl _) _
          have ltg1 : Hid (w.heap.size < z7.heap.size) := hide ((unhide S7).lt)
          have S8 := hide ((unhide S7).same (hb8.block _ (unhide S7).lt))
          have W8 := hide ((unhide W7).trans (hb8.mono (unhide W7).size))
          have g1_8 : Hid ((z7.alloc (.cells #[.int .i64 0, .int .i64 200, .int .i64 201, .int .i64 x1] 2)).heap[z7.heap.size]? = some (.cells #[.int .i64 0, .int .i64 200, .int .i64 201, .int .i64 x1] 2)) := hide (heap_alloc_new z7 (.cells #[.int .i64 0, .int .i64 200, .int .i64 201, .int .i64 x1] 2))
          clear hb8
          go_simp
          refine hK.out _ _ trivial (fun _ => ?_)
          clear hK K
          try simp only [Act.put, List.setIfInBounds_toArray, List.set_cons_zero, List.set_cons_succ, List.getElem_toArray, List.getElem_cons_zero, List.getElem_cons_succ]
          refine wpAnyH_take (i := 6) (v := ?vdc42_6) rfl (by kernel_rfl) (by kernel_rfl) (by kernel_rfl) (fun _ _ _ h => h) (Or.inl ⟨by rfl, ?hydc42_6⟩) (by assumption) ?_
          case hydc42_6 =>
            intro w hSw
            try dsimp only at hSw
            go_simp
            try with_reducible rfl
          try simp only [Act.put, List.setIfInBounds_toArray, List.set_cons_zero, List.set_cons_succ, List.getElem_toArray, List.getElem_cons_zero, List.getElem_cons_succ]
          refine wpAnyH_ready (rs := [7, 9]) (by kernel_rfl) (by simp) ?_
          refine AllReadyH.cons rfl (fun K hK => ?_) (AllReadyH.cons rfl (fun K hK => ?_) (AllReadyH.nil))
          · obtain ⟨v1, hv9, _, _⟩ := lit_cell (unhide g1_8) (lit4 (by decide) (by decide) (by decide) (unhide Ox1)) r1 (by simpa using hr1)
            go_simp
            clear hv9
            refine hK.out _ _ trivial (fun _ => ?_)
            clear hK K
            try simp only [Act.put, List.setIfInBounds_toArray, List.set_cons_zero, List.set_cons_succ, List.getElem_toArray, List.getElem_cons_zero, List.getElem_cons_succ]
            refine wpAnyH_ready (rs := [9]) (by kernel_rfl) (by simp) ?_
            refine AllReadyH.cons rfl (fun K hK => ?_) (AllReadyH.nil)
            go_simp
            refine (src_edge_g (z7.alloc (.cells #[.int .i64 0, .int .i64 200, .int .i64 201, .int .i64 x1] 2)) w.heap.size sl n hn (unhide S8) ((unhide HD).below (unhide W8))).mono ?_
            rintro e z10 ⟨x2, rfl, hx2a, hx2b, hS10, hn10⟩
            have Ox2 : Hid (okI64 (.int .i64 x2) = true) := hide (decide_eq_true ⟨hx2a, hx2b⟩)
            have S10 := hide hS10
            have W10 := hide ((unhide W8).trans (hn10.below (Nat.le_of_lt (unhide S8).lt)))
            have g1_10 := hide ((hn10.block z7.heap.size (Array.getElem?_eq_some_iff.1 (unhide g1_8)).1 (by have := unhide ltg1; omega)).trans (unhide g1_8))
            clear hS10 hn10 hx2a hx2b
            go_wp2_with fail
            refine hK.out _ _ trivial (fun _ => ?_)
            clear hK K
            try simp only [Act.put, List.setIfInBounds_toArray, List.set_cons_zero, List.set_cons_succ, List.getElem_toArray, List.getElem_cons_zero, List.getElem_cons_succ]
            refine wpAnyH_ready (rs := [10, 12]) (by kernel_rfl) (by simp) ?_
            refine AllReadyH.cons rfl (fun K hK => ?_) (AllReadyH.cons rfl (fun K hK => ?_) (AllReadyH.nil))
            · have hb11 : Below z10.heap.size z10 (z10.alloc (.cells #[.int .i64 (-1), .int .i64 16777215, .int .i64 16777212, .int .i64 x2] 2)) := (Below.refl _ _).alloc (Nat.le_refl _) _
              have ltg2 : Hid (w.heap.size < z10.heap.size) := hide ((unhide S10).lt)
              have S11 := hide ((unhide S10).same (hb11.block _ (unhide S10).lt))
              have W11 := hide ((unhide W10).trans (hb11.mono (unhide W10).size))
              have g1_11 := hide ((hb11.block z7.heap.size (Array.getElem?_eq_some_iff.1 (unhide g1_10)).1).trans (unhide g1_10))
              have g2_11 : Hid ((z10.alloc (.cells #[.int .i64 (-1), .int .i64 16777215, .int .i64 16777212, .int .i64 x2] 2)).heap[z10.heap.size]? = some (.cells #[.int .i64 (-1), .int .i64 16777215, .int .i64 16777212, .int .i64 x2] 2)) := hide (heap_alloc_new z10 (.cells #[.int .i64 (-1), .int .i64 16777215, .int .i64 16777212, .int .i64 x2] 2))
              clear hb11
              go_simp
              refine hK.out _ _ trivial (fun _ => ?_)
              clear hK K
              try simp only [Act.put, List.setIfInBounds_toArray, List.set_cons_zero, List.set_cons_succ, List.getElem_toArray, List.getElem_cons_zero, List.getElem_cons_succ]
              refine wpAnyH_ready (rs := [12]) (by kernel_rfl) (by simp) ?_
              refine AllReadyH.cons rfl (fun K hK => ?_) (AllReadyH.nil)
              go_simp
              refine (src_n (z10.alloc (.cells #[.int .i64 (-1), .int .i64 16777215, .int .i64 16777212, .int .i64 x2] 2)) w.heap.size sl n 4 (by decide) hn (unhide S11) ((unhide HD).below (unhide W11))).mono ?_
              rintro e z12 ⟨r2, rfl, hr20, hS12, ht12⟩
              have hr2 : r2 < 4 := by omega
              have hr2i : (r2 : Int) < 4 := by omega
              have S12 := hide hS12
              have W12 := hide ((unhide W11).trans ht12.below)
              have g1_12 := hide ((ht12.block z7.heap.size (by have := unhide ltg1; omega)).trans (unhide g1_11))
              have g2_12 := hide ((ht12.block z10.heap.size (by have := unhide ltg2; omega)).trans (unhide g2_11))
              clear hS12 ht12 hr20
              go_wp2_with fail
              refine hK.out _ _ trivial (fun _ => ?_)
              clear hK K
              try simp only [Act.put, List.setIfInBounds_toArray, List.set_cons_zero, List.set_cons_succ, List.getElem_toArray, List.getElem_cons_zero, List.getElem_cons_succ]
              refine wpAnyH_take (i := 13) (v := ?vdc43_13) rfl (by kernel_rfl) (by kernel_rfl) (by kernel_rfl) (fun _ _ _ h => h) (Or.inl ⟨by rfl, ?hydc43_13⟩) (by assumption) ?_
              case hydc43_13 =>
                intro w hSw
                try dsimp only at hSw
                go_simp
                try with_reducible rfl
              try simp only [Act.put, List.setIfInBounds_toArray, List.set_cons_zero, List.set_cons_succ, List.getElem_toArray, List.getElem_cons_zero, List.getElem_cons_succ]
              refine wpAnyH_take (i := 15) (v := ?vdc44_15) rfl (by kernel_rfl) (by kernel_rfl) (by kernel_rfl) (fun _ _ _ h => h) (Or.inl ⟨by rfl, ?hydc44_15⟩) (by assumption) ?_
              case hydc44_15 =>
                intro w hSw
                try dsimp only at hSw
                go_simp
                try with_reducible rfl
              try simp only [Act.put, List.setIfInBounds_toArray, List.set_cons_zero, List.set_cons_succ, List.getElem_toArray, List.getElem_cons_zero, List.getElem_cons_succ]
              refine wpAnyH_take (i := 16) (v := ?vdc45_16) rfl (by kernel_rfl) (by kernel_rfl) (by kernel_rfl) (fun _ _ _ h => h) (Or.inl ⟨by rfl, ?hydc45_16⟩) (by assumption) ?_
              case hydc45_16 =>
                intro w hSw
                try dsimp only at hSw
                go_simp
                try with_reducible rfl
              try simp only [Act.put, List.setIfInBounds_toArray, List.set_cons_zero, List.set_cons_succ, List.getElem_toArray, List.getElem_cons_zero, List.getElem_cons_succ]
              refine wpAnyH_ready (rs := [14]) (by kernel_rfl) (by simp) ?_
              refine AllReadyH.cons rfl (fun K hK => ?_) (AllReadyH.nil)
              obtain ⟨v2, hv13, _, _⟩ := lit_cell (unhide g2_12) (lit4 (by decide) (by decide) (by decide) (unhide Ox2)) r2 (by simpa using hr2)
              go_simp
              clear hv13
              refine hK.out _ _ trivial (fun _ => ?_)
              clear hK K
              try simp only [Act.put, List.setIfInBounds_toArray, List.set_cons_zero, List.set_cons_succ, List.getElem_toArray, List.getElem_cons_zero, List.getElem_cons_succ]
              refine wpAnyH_take (i := 17) (v := ?vdc46_17) rfl (by kernel_rfl) (by kernel_rfl) (by kernel_rfl) (fun _ _ _ h => h) (Or.inl ⟨by rfl, ?hydc46_17⟩) (by assumption) ?_
              case hydc46_17 =>
                intro w hSw
                try dsimp only at hSw
                go_simp
                try with_reducible rfl
              try simp only [Act.put, List.setIfInBounds_toArray, List.set_cons_zero, List.set_cons_succ, List.getElem_toArray, List.getElem_cons_zero, List.getElem_cons_succ]
              refine wpAnyH_done (by kernel_rfl) ?_ _
              go_wp2_with fail
              refine bodyPost_ret (v := .tuple #[.string t, .int .i64 v1, .int .i64 v2]) (by simp [results, Try.results6]) rfl ⟨t, v1, v2, rfl, ht0, unhide W12⟩
            · go_simp
              refine (src_n z10 w.heap.size sl n 4 (by decide) hn (unhide S10) ((unhide HD).below (unhide W10))).mono ?_
              rintro e z11 ⟨r2, rfl, hr20, hS11, ht11⟩
              have hr2 : r2 < 4 := by omega
              have hr2i : (r2 : Int) < 4 := by omega
              have S11 := hide hS11
              have W11 := hide ((unhide W10).trans ht11.below)
              have g1_11 := hide ((ht11.block z7.heap.size (by have := unhide ltg1; omega)).trans (unhide g1_10))
              clear hS11 ht11 hr20
              go_wp2_with fail
              refine hK.out _ _ trivial (fun _ => ?_)
              clear hK K
              try simp only [Act.put, List.setIfInBounds_toArray, List.set_cons_zero, List.set_cons_succ, List.getElem_toArray, List.getElem_cons_zero, List.getElem_cons_succ]
              refine wpAnyH_take (i := 15) (v := ?vdc47_15) rfl (by kernel_rfl) (by kernel_rfl) (by kernel_rfl) (fun _ _ _ h => h) (Or.inl ⟨by rfl, ?hydc47_15⟩) (by assumption) ?_
              case hydc47_15 =>
                intro w hSw
                try dsimp only at hSw
                go_simp
                try with_reducible rfl
              try simp only [Act.put, List.setIfInBounds_toArray, List.set_cons_zero, List.set_cons_succ, List.getElem_toArray, List.getElem_cons_zero, List.getElem_cons_succ]
              refine wpAnyH_take (i := 16) (v := ?vdc48_16) rfl (by kernel_rfl) (by kernel_rfl) (by kernel_rfl) (fun _ _ _ h => h) (Or.inl ⟨by rfl, ?hydc48_16⟩) (by assumption) ?_
              case hydc48_16 =>
                intro w hSw
                try dsimp only at hSw
                go_simp
                try with_reducible rfl
              try simp only [Act.put, List.setIfInBounds_toArray, List.set_cons_zero, List.set_cons_succ, List.getElem_toArray, List.getElem_cons_zero, List.getElem_cons_succ]
              refine wpAnyH_ready (rs := [10]) (by kernel_rfl) (by simp) ?_
              refine AllReadyH.cons rfl (fun K hK => ?_) (AllReadyH.nil)
              have hb12 : Below z11.heap.size z11 (z11.alloc (.cells #[.int .i64 (-1), .int .i64 16777215, .int .i64 16777212, .int .i64 x2] 2)) := (Below.refl _ _).alloc (Nat.le_refl _) _
              have ltg2 : Hid (w.heap.size < z11.heap.size) := hide ((unhide S11).lt)
              have S12 := hide ((unhide S11).same (hb12.block _ (unhide S11).lt))
              have W12 := hide ((unhide W11).trans (hb12.mono (unhide W11).size))
              have g1_12 := hide ((hb12.block z7.heap.size (Array.getElem?_eq_some_iff.1 (unhide g1_11)).1).trans (unhide g1_11))
              have g2_12 : Hid ((z11.alloc (.cells #[.int .i64 (-1), .int .i64 16777215, .int .i64 16777212, .int .i64 x2] 2)).heap[z11.heap.size]? = some (.cells #[.int .i64 (-1), .int .i64 16777215, .int .i64 16777212, .int .i64 x2] 2)) := hide (heap_alloc_new z11 (.cells #[.int .i64 (-1), .int .i64 16777215, .int .i64 16777212, .int .i64 x2] 2))
              clear hb12
              go_simp
              refine hK.out _ _ trivial (fun _ => ?_)
              clear hK K
              try simp only [Act.put, List.setIfInBounds_toArray, List.set_cons_zero, List.set_cons_succ, List.getElem_toArray, List.getElem_cons_zero, List.getElem_cons_succ]
              refine wpAnyH_take (i := 13) (v := ?vdc49_13) rfl (by kernel_rfl) (by kernel_rfl) (by kernel_rfl) (fun _ _ _ h => h) (Or.inl ⟨by rfl, ?hydc49_13⟩) (by assumption) ?_
              case hydc49_13 =>
                intro w hSw
                try dsimp only at hSw
                go_simp
                try with_reducible rfl
              try simp only [Act.put, List.setIfInBounds_toArray, List.set_cons_zero, List.set_cons_succ, List.getElem_toArray, List.getElem_cons_zero, List.getElem_cons_succ]
              refine wpAnyH_ready (rs := [14]) (by kernel_rfl) (by simp) ?_
              refine AllReadyH.cons rfl (fun K hK => ?_) (AllReadyH.nil)
              obtain ⟨v2, hv13, _, _⟩ := lit_cell (unhide g2_12) (lit4 (by decide) (by decide) (by decide) (unhide Ox2)) r2 (by simpa using hr2)
              go_simp
              clear hv13
              refine hK.out _ _ trivial (fun _ => ?_)
              clear hK K
              try simp only [Act.put, List.setIfInBounds_toArray, List.set_cons_zero, List.set_cons_succ, List.getElem_toArray, List.getElem_cons_zero, List.getElem_cons_succ]
              refine wpAnyH_take (i := 17) (v := ?vdc50_17) rfl (by kernel_rfl) (by kernel_rfl) (by kernel_rfl) (fun _ _ _ h => h) (Or.inl ⟨by rfl, ?hydc50_17⟩) (by assumption) ?_
              case hydc50_17 =>
                intro w hSw
                try dsimp only at hSw
                go_simp
                try with_reducible rfl
              try simp only [Act.put, List.setIfInBounds_toArray, List.set_cons_zero, List.set_cons_succ, List.getElem_toArray, List.getElem_cons_zero, List.getElem_cons_succ]
              refine wpAnyH_done (by kernel_rfl) ?_ _
              go_wp2_with fail
              refine bodyPost_ret (v := .tuple #[.string t, .int .i64 v1, .int .i64 v2]) (by simp [results, Try.results6]) rfl ⟨t, v1, v2, rfl, ht0, unhide W12⟩
          · go_simp
            refine (src_edge_g (z7.alloc (.cells #[.int .i64 0, .int .i64 200, .int .i64 201, .int .i64 x1] 2)) w.heap.size sl n hn (unhide S8) ((unhide HD).below (unhide W8))).mono ?_
            rintro e z9 ⟨x2, rfl, hx2a, hx2b, hS9, hn9⟩
            have Ox2 : Hid (okI64 (.int .i64 x2) = true) := hide (decide_eq_true ⟨hx2a, hx2b⟩)
            have S9 := hide hS9
            have W9 := hide ((unhide W8).trans (hn9.below (Nat.le_of_lt (unhide S8).lt)))
            have g1_9 := hide ((hn9.block z7.heap.size (Array.getElem?_eq_some_iff.1 (unhide g1_8)).1 (by have := unhide ltg1; omega)).trans (unhide g1_8))
            clear hS9 hn9 hx2a hx2b
            go_wp2_with fail
            refine hK.out _ _ trivial (fun _ => ?_)
            clear hK K
            try simp only [Act.put, List.setIfInBounds_toArray, List.set_cons_zero, List.set_cons_succ, List.getElem_toArray, List.getElem_cons_zero, List.getElem_cons_succ]
            refine wpAnyH_ready (rs := [7, 10, 12]) (by kernel_rfl) (by simp) ?_
            refine AllReadyH.cons rfl (fun K hK => ?_) (AllReadyH.cons rfl (fun K hK => ?_) (AllReadyH.cons rfl (fun K hK => ?_) (AllReadyH.nil)))
            · obtain ⟨v1, hv10, _, _⟩ := lit_cell (unhide g1_9) (lit4 (by decide) (by decide) (by decide) (unhide Ox1)) r1 (by simpa using hr1)
              go_simp
              clear hv10
              refine hK.out _ _ trivial (fun _ => ?_)
              clear hK K
              try simp only [Act.put, List.setIfInBounds_toArray, List.set_cons_zero, List.set_cons_succ, List.getElem_toArray, List.getElem_cons_zero, List.getElem_cons_succ]
              refine wpAnyH_ready (rs := [10, 12]) (by kernel_rfl) (by simp) ?_
              refine AllReadyH.cons rfl (fun K hK => ?_) (AllReadyH.cons rfl (fun K hK => ?_) (AllReadyH.nil))
              · have hb11 : Below z9.heap.size z9 (z9.alloc (.cells #[.int .i64 (-1), .int .i64 16777215, .int .i64 16777212, .int .i64 x2] 2)) := (Below.refl _ _).alloc (Nat.le_refl _) _
                have ltg2 : Hid (w.heap.size < z9.heap.size) := hide ((unhide S9).lt)
                have S11 := hide ((unhide S9).same (hb11.block _ (unhide S9).lt))
                have W11 := hide ((unhide W9).trans (hb11.mono (unhide W9).size))
                have g1_11 := hide ((hb11.block z7.heap.size (Array.getElem?_eq_some_iff.1 (unhide g1_9)).1).trans (unhide g1_9))
                have g2_11 : Hid ((z9.alloc (.cells #[.int .i64 (-1), .int .i64 16777215, .int .i64 16777212, .int .i64 x2] 2)).heap[z9.heap.size]? = some (.cells #[.int .i64 (-1), .int .i64 16777215, .int .i64 16777212, .int .i64 x2] 2)) := hide (heap_alloc_new z9 (.cells #[.int .i64 (-1), .int .i64 16777215, .int .i64 16777212, .int .i64 x2] 2))
                clear hb11
                go_simp
                refine hK.out _ _ trivial (fun _ => ?_)
                clear hK K
                try simp only [Act.put, List.setIfInBounds_toArray, List.set_cons_zero, List.set_cons_succ, List.getElem_toArray, List.getElem_cons_zero, List.getElem_cons_succ]
                refine wpAnyH_ready (rs := [12]) (by kernel_rfl) (by simp) ?_
                refine AllReadyH.cons rfl (fun K hK => ?_) (AllReadyH.nil)
                go_simp
                refine (src_n (z9.alloc (.cells #[.int .i64 (-1), .int .i64 16777215, .int .i64 16777212, .int .i64 x2] 2)) w.heap.size sl n 4 (by decide) hn (unhide S11) ((unhide HD).below (unhide W11))).mono ?_
                rintro e z12 ⟨r2, rfl, hr20, hS12, ht12⟩
                have hr2 : r2 < 4 := by omega
                have hr2i : (r2 : Int) < 4 := by omega
                have S12 := hide hS12
                have W12 := hide ((unhide W11).trans ht12.below)
                have g1_12 := hide ((ht12.block z7.heap.size (by have := unhide ltg1; omega)).trans (unhide g1_11))
                have g2_12 := hide ((ht12.block z9.heap.size (by have := unhide ltg2; omega)).trans (unhide g2_11))
                clear hS12 ht12 hr20
                go_wp2_with fail
                refine hK.out _ _ trivial (fun _ => ?_)
                clear hK K
                try simp only [Act.put, List.setIfInBounds_toArray, List.set_cons_zero, List.set_cons_succ, List.getElem_toArray, List.getElem_cons_zero, List.getElem_cons_succ]
                refine wpAnyH_take (i := 13) (v := ?vdc51_13) rfl (by kernel_rfl) (by kernel_rfl) (by kernel_rfl) (fun _ _ _ h => h) (Or.inl ⟨by rfl, ?hydc51_13⟩) (by assumption) ?_
                case hydc51_13 =>
                  intro w hSw
                  try dsimp only at hSw
                  go_simp
                  try with_reducible rfl
                try simp only [Act.put, List.setIfInBounds_toArray, List.set_cons_zero, List.set_cons_succ, List.getElem_toArray, List.getElem_cons_zero, List.getElem_cons_succ]
                refine wpAnyH_take (i := 15) (v := ?vdc52_15) rfl (by kernel_rfl) (by kernel_rfl) (by kernel_rfl) (fun _ _ _ h => h) (Or.inl ⟨by rfl, ?hydc52_15⟩) (by assumption) ?_
                case hydc52_15 =>
                  intro w hSw
                  try dsimp only at hSw
                  go_simp
                  try with_reducible rfl
                try simp only [Act.put, List.setIfInBounds_toArray, List.set_cons_zero, List.set_cons_succ, List.getElem_toArray, List.getElem_cons_zero, List.getElem_cons_succ]
                refine wpAnyH_take (i := 16) (v := ?vdc53_16) rfl (by kernel_rfl) (by kernel_rfl) (by kernel_rfl) (fun _ _ _ h => h) (Or.inl ⟨by rfl, ?hydc53_16⟩) (by assumption) ?_
                case hydc53_16 =>
                  intro w hSw
                  try dsimp only at hSw
                  go_simp
                  try with_reducible rfl
                try simp only [Act.put, List.setIfInBounds_toArray, List.set_cons_zero, List.set_cons_succ, List.getElem_toArray, List.getElem_cons_zero, List.getElem_cons_succ]
                refine wpAnyH_ready (rs := [14]) (by kernel_rfl) (by simp) ?_
                refine AllReadyH.cons rfl (fun K hK => ?_) (AllReadyH.nil)
                obtain ⟨v2, hv13, _, _⟩ := lit_cell (unhide g2_12) (lit4 (by decide) (by decide) (by decide) (unhide Ox2)) r2 (by simpa using hr2)
                go_simp
                clear hv13
                refine hK.out _ _ trivial (fun _ => ?_)
                clear hK K
                try simp only [Act.put, List.setIfInBounds_toArray, List.set_cons_zero, List.set_cons_succ, List.getElem_toArray, List.getElem_cons_zero, List.getElem_cons_succ]
                refine wpAnyH_take (i := 17) (v := ?vdc54_17) rfl (by kernel_rfl) (by kernel_rfl) (by kernel_rfl) (fun _ _ _ h => h) (Or.inl ⟨by rfl, ?hydc54_17⟩) (by assumption) ?_
                case hydc54_17 =>
                  intro w hSw
                  try dsimp only at hSw
                  go_simp
                  try with_reducible rfl
                try simp only [Act.put, List.setIfInBounds_toArray, List.set_cons_zero, List.set_cons_succ, List.getElem_toArray, List.getElem_cons_zero, List.getElem_cons_succ]
                refine wpAnyH_done (by kernel_rfl) ?_ _
                go_wp2_with fail
                refine bodyPost_ret (v := .tuple #[.string t, .int .i64 v1, .int .i64 v2]) (by simp [results, Try.results6]) rfl ⟨t, v1, v2, rfl, ht0, unhide W12⟩
              · go_simp
                refine (src_n z9 w.heap.size sl n 4 (by decide) hn (unhide S9) ((unhide HD).below (unhide W9))).mono ?_
                rintro e z11 ⟨r2, rfl, hr20, hS11, ht11⟩
                have hr2 : r2 < 4 := by omega
                have hr2i : (r2 : Int) < 4 := by omega
                have S11 := hide hS11
                have W11 := hide ((unhide W9).trans ht11.below)
                have g1_11 := hide ((ht11.block z7.heap.size (by have := unhide ltg1; omega)).trans (unhide g1_9))
                clear hS11 ht11 hr20
                go_wp2_with fail
                refine hK.out _ _ trivial (fun _ => ?_)
                clear hK K
                try simp only [Act.put, List.setIfInBounds_toArray, List.set_cons_zero, List.set_cons_succ, List.getElem_toArray, List.getElem_cons_zero, List.getElem_cons_succ]
                refine wpAnyH_take (i := 15) (v := ?vdc55_15) rfl (by kernel_rfl) (by kernel_rfl) (by kernel_rfl) (fun _ _ _ h => h) (Or.inl ⟨by rfl, ?hydc55_15⟩) (by assumption) ?_
                case hydc55_15 =>
                  intro w hSw
                  try dsimp only at hSw
                  go_simp
                  try with_reducible rfl
                try simp only [Act.put, List.setIfInBounds_toArray, List.set_cons_zero, List.set_cons_succ, List.getElem_toArray, List.getElem_cons_zero, List.getElem_cons_succ]
                refine wpAnyH_take (i := 16) (v := ?vdc56_16) rfl (by kernel_rfl) (by kernel_rfl) (by kernel_rfl) (fun _ _ _ h => h) (Or.inl ⟨by rfl, ?hydc56_16⟩) (by assumption) ?_
                case hydc56_16 =>
                  intro w hSw
                  try dsimp only at hSw
                  go_simp
                  try with_reducible rfl
                try simp only [Act.put, List.setIfInBounds_toArray, List.set_cons_zero, List.set_cons_succ, List.getElem_toArray, List.getElem_cons_zero, List.getElem_cons_succ]
                refine wpAnyH_ready (rs := [10]) (by kernel_rfl) (by simp) ?_
                refine AllReadyH.cons rfl (fun K hK => ?_) (AllReadyH.nil)
                have hb12 : Below z11.heap.size z11 (z11.alloc (.cells #[.int .i64 (-1), .int .i64 16777215, .int .i64 16777212, .int .i64 x2] 2)) := (Below.refl _ _).alloc (Nat.le_refl _) _
                have ltg2 : Hid (w.heap.size < z11.heap.size) := hide ((unhide S11).lt)
                have S12 := hide ((unhide S11).same (hb12.block _ (unhide S11).lt))
                have W12 := hide ((unhide W11).trans (hb12.mono (unhide W11).size))
                have g1_12 := hide ((hb12.block z7.heap.size (Array.getElem?_eq_some_iff.1 (unhide g1_11)).1).trans (unhide g1_11))
                have g2_12 : Hid ((z11.alloc (.cells #[.int .i64 (-1), .int .i64 16777215, .int .i64 16777212, .int .i64 x2] 2)).heap[z11.heap.size]? = some (.cells #[.int .i64 (-1), .int .i64 16777215, .int .i64 16777212, .int .i64 x2] 2)) := hide (heap_alloc_new z11 (.cells #[.int .i64 (-1), .int .i64 16777215, .int .i64 16777212, .int .i64 x2] 2))
                clear hb12
                go_simp
                refine hK.out _ _ trivial (fun _ => ?_)
                clear hK K
                try simp only [Act.put, List.setIfInBounds_toArray, List.set_cons_zero, List.set_cons_succ, List.getElem_toArray, List.getElem_cons_zero, List.getElem_cons_succ]
                refine wpAnyH_take (i := 13) (v := ?vdc57_13) rfl (by kernel_rfl) (by kernel_rfl) (by kernel_rfl) (fun _ _ _ h => h) (Or.inl ⟨by rfl, ?hydc57_13⟩) (by assumption) ?_
                case hydc57_13 =>
                  intro w hSw
                  try dsimp only at hSw
                  go_simp
                  try with_reducible rfl
                try simp only [Act.put, List.setIfInBounds_toArray, List.set_cons_zero, List.set_cons_succ, List.getElem_toArray, List.getElem_cons_zero, List.getElem_cons_succ]
                refine wpAnyH_ready (rs := [14]) (by kernel_rfl) (by simp) ?_
                refine AllReadyH.cons rfl (fun K hK => ?_) (AllReadyH.nil)
                obtain ⟨v2, hv13, _, _⟩ := lit_cell (unhide g2_12) (lit4 (by decide) (by decide) (by decide) (unhide Ox2)) r2 (by simpa using hr2)
                go_simp
                clear hv13
                refine hK.out _ _ trivial (fun _ => ?_)
                clear hK K
                try simp only [Act.put, List.setIfInBounds_toArray, List.set_cons_zero, List.set_cons_succ, List.getElem_toArray, List.getElem_cons_zero, List.getElem_cons_succ]
                refine wpAnyH_take (i := 17) (v := ?vdc58_17) rfl (by kernel_rfl) (by kernel_rfl) (by kernel_rfl) (fun _ _ _ h => h) (Or.inl ⟨by rfl, ?hydc58_17⟩) (by assumption) ?_
                case hydc58_17 =>
                  intro w hSw
                  try dsimp only at hSw
                  go_simp
                  try with_reducible rfl
                try simp only [Act.put, List.setIfInBounds_toArray, List.set_cons_zero, List.set_cons_succ, List.getElem_toArray, List.getElem_cons_zero, List.getElem_cons_succ]
                refine wpAnyH_done (by kernel_rfl) ?_ _
                go_wp2_with fail
                refine bodyPost_ret (v := .tuple #[.string t, .int .i64 v1, .int .i64 v2]) (by simp [results, Try.results6]) rfl ⟨t, v1, v2, rfl, ht0, unhide W12⟩
            · have hb10 : Below z9.heap.size z9 (z9.alloc (.cells #[.int .i64 (-1), .int .i64 16777215, .int .i64 16777212, .int .i64 x2] 2)) := (Below.refl _ _).alloc (Nat.le_refl _) _
              have ltg2 : Hid (w.heap.size < z9.heap.size) := hide ((unhide S9).lt)
              have S10 := hide ((unhide S9).same (hb10.block _ (unhide S9).lt))
              have W10 := hide ((unhide W9).trans (hb10.mono (unhide W9).size))
              have g1_10 := hide ((hb10.block z7.heap.size (Array.getElem?_eq_some_iff.1 (unhide g1_9)).1).trans (unhide g1_9))
              have g2_10 : Hid ((z9.alloc (.cells #[.int .i64 (-1), .int .i64 16777215, .int .i64 16777212, .int .i64 x2] 2)).heap[z9.heap.size]? = some (.cells #[.int .i64 (-1), .int .i64 16777215, .int .i64 16777212, .int .i64 x2] 2)) := hide (heap_alloc_new z9 (.cells #[.int .i64 (-1), .int .i64 16777215, .int .i64 16777212, .int .i64 x2] 2))
              clear hb10
              go_simp
              refine hK.out _ _ trivial (fun _ => ?_)
              clear hK K
              try simp only [Act.put, List.setIfInBounds_toArray, List.set_cons_zero, List.set_cons_succ, List.getElem_toArray, List.getElem_cons_zero, List.getElem_cons_succ]
              refine wpAnyH_ready (rs := [7, 12]) (by kernel_rfl) (by simp) ?_
              refine AllReadyH.cons rfl (fun K hK => ?_) (AllReadyH.cons rfl (fun K hK => ?_) (AllReadyH.nil))
              · obtain ⟨v1, hv11, _, _⟩ := lit_cell (unhide g1_10) (lit4 (by decide) (by decide) (by decide) (unhide Ox1)) r1 (by simpa using hr1)
                go_simp
                clear hv11
                refine hK.out _ _ trivial (fun _ => ?_)
                clear hK K
                try simp only [Act.put, List.setIfInBounds_toArray, List.set_cons_zero, List.set_cons_succ, List.getElem_toArray, List.getElem_cons_zero, List.getElem_cons_succ]
                refine wpAnyH_ready (rs := [12]) (by kernel_rfl) (by simp) ?_
                refine AllReadyH.cons rfl (fun K hK => ?_) (AllReadyH.nil)
                go_simp
                refine (src_n (z9.alloc (.cells #[.int .i64 (-1), .int .i64 16777215, .int .i64 16777212, .int .i64 x2] 2)) w.heap.size sl n 4 (by decide) hn (unhide S10) ((unhide HD).below (unhide W10))).mono ?_
                rintro e z12 ⟨r2, rfl, hr20, hS12, ht12⟩
                have hr2 : r2 < 4 := by omega
                have hr2i : (r2 : Int) < 4 := by omega
                have S12 := hide hS12
                have W12 := hide ((unhide W10).trans ht12.below)
                have g1_12 := hide ((ht12.block z7.heap.size (by have := unhide ltg1; omega)).trans (unhide g1_10))
                have g2_12 := hide ((ht12.block z9.heap.size (by have := unhide ltg2; omega)).trans (unhide g2_10))
                clear hS12 ht12 hr20
                go_wp2_with fail
                refine hK.out _ _ trivial (fun _ => ?_)
                clear hK K
                try simp only [Act.put, List.setIfInBounds_toArray, List.set_cons_zero, List.set_cons_succ, List.getElem_toArray, List.getElem_cons_zero, List.getElem_cons_succ]
                refine wpAnyH_take (i := 13) (v := ?vdc59_13) rfl (by kernel_rfl) (by kernel_rfl) (by kernel_rfl) (fun _ _ _ h => h) (Or.inl ⟨by rfl, ?hydc59_13⟩) (by assumption) ?_
                case hydc59_13 =>
                  intro w hSw
                  try dsimp only at hSw
                  go_simp
                  try with_reducible rfl
                try simp only [Act.put, List.setIfInBounds_toArray, List.set_cons_zero, List.set_cons_succ, List.getElem_toArray, List.getElem_cons_zero, List.getElem_cons_succ]
                refine wpAnyH_take (i := 15) (v := ?vdc60_15) rfl (by kernel_rfl) (by kernel_rfl) (by kernel_rfl) (fun _ _ _ h => h) (Or.inl ⟨by rfl, ?hydc60_15⟩) (by assumption) ?_
                case hydc60_15 =>
                  intro w hSw
                  try dsimp only at hSw
                  go_simp
                  try with_reducible rfl
                try simp only [Act.put, List.setIfInBounds_toArray, List.set_cons_zero, List.set_cons_succ, List.getElem_toArray, List.getElem_cons_zero, List.getElem_cons_succ]
                refine wpAnyH_take (i := 16) (v := ?vdc61_16) rfl (by kernel_rfl) (by kernel_rfl) (by kernel_rfl) (fun _ _ _ h => h) (Or.inl ⟨by rfl, ?hydc61_16⟩) (by assumption) ?_
                case hydc61_16 =>
                  intro w hSw
                  try dsimp only at hSw
                  go_simp
                  try with_reducible rfl
                try simp only [Act.put, List.setIfInBounds_toArray, List.set_cons_zero, List.set_cons_succ, List.getElem_toArray, List.getElem_cons_zero, List.getElem_cons_succ]
                refine wpAnyH_ready (rs := [14]) (by kernel_rfl) (by simp) ?_
                refine AllReadyH.cons rfl (fun K hK => ?_) (AllReadyH.nil)
                obtain ⟨v2, hv13, _, _⟩ := lit_cell (unhide g2_12) (lit4 (by decide) (by decide) (by decide) (unhide Ox2)) r2 (by simpa using hr2)
                go_simp
                clear hv13
                refine hK.out _ _ trivial (fun _ => ?_)
                clear hK K
                try simp only [Act.put, List.setIfInBounds_toArray, List.set_cons_zero, List.set_cons_succ, List.getElem_toArray, List.getElem_cons_zero, List.getElem_cons_succ]
                refine wpAnyH_take (i := 17) (v := ?vdc62_17) rfl (by kernel_rfl) (by kernel_rfl) (by kernel_rfl) (fun _ _ _ h => h) (Or.inl ⟨by rfl, ?hydc62_17⟩) (by assumption) ?_
                case hydc62_17 =>
                  intro w hSw
                  try dsimp only at hSw
                  go_simp
                  try with_reducible rfl
                try simp only [Act.put, List.setIfInBounds_toArray, List.set_cons_zero, List.set_cons_succ, List.getElem_toArray, List.getElem_cons_zero, List.getElem_cons_succ]
                refine wpAnyH_done (by kernel_rfl) ?_ _
                go_wp2_with fail
                refine bodyPost_ret (v := .tuple #[.string t, .int .i64 v1, .int .i64 v2]) (by simp [results, Try.results6]) rfl ⟨t, v1, v2, rfl, ht0, unhide W12⟩
              · go_simp
                refine (src_n (z9.alloc (.cells #[.int .i64 (-1), .int .i64 16777215, .int .i64 16777212, .int .i64 x2] 2)) w.heap.size sl n 4 (by decide) hn (unhide S10) ((unhide HD).below (unhide W10))).mono ?_
                rintro e z11 ⟨r2, rfl, hr20, hS11, ht11⟩
                have hr2 : r2 < 4 := by omega
                have hr2i : (r2 : Int) < 4 := by omega
                have S11 := hide hS11
                have W11 := hide ((unhide W10).trans ht11.below)
                have g1_11 := hide ((ht11.block z7.heap.size (by have := unhide ltg1; omega)).trans (unhide g1_10))
                have g2_11 := hide ((ht11.block z9.heap.size (by have := unhide ltg2; omega)).trans (unhide g2_10))
                clear hS11 ht11 hr20
                go_wp2_with fail
                refine hK.out _ _ trivial (fun _ => ?_)
                clear hK K
                try simp only [Act.put, List.setIfInBounds_toArray, List.set_cons_zero, List.set_cons_succ, List.getElem_toArray, List.getElem_cons_zero, List.getElem_cons_succ]
                refine wpAnyH_take (i := 13) (v := ?vdc63_13) rfl (by kernel_rfl) (by kernel_rfl) (by kernel_rfl) (fun _ _ _ h => h) (Or.inl ⟨by rfl, ?hydc63_13⟩) (by assumption) ?_
                case hydc63_13 =>
                  intro w hSw
                  try dsimp only at hSw
                  go_simp
                  try with_reducible rfl
                try simp only [Act.put, List.setIfInBounds_toArray, List.set_cons_zero, List.set_cons_succ, List.getElem_toArray, List.getElem_cons_zero, List.getElem_cons_succ]
                refine wpAnyH_take (i := 15) (v := ?vdc64_15) rfl (by kernel_rfl) (by kernel_rfl) (by kernel_rfl) (fun _ _ _ h => h) (Or.inl ⟨by rfl, ?hydc64_15⟩) (by assumption) ?_
                case hydc64_15 =>
                  intro w hSw
                  try dsimp only at hSw
                  go_simp
                  try with_reducible rfl
                try simp only [Act.put, List.setIfInBounds_toArray, List.set_cons_zero, List.set_cons_succ, List.getElem_toArray, List.getElem_cons_zero, List.getElem_cons_succ]
                refine wpAnyH_ready (rs := [7, 14]) (by kernel_rfl) (by simp) ?_
                refine AllReadyH.cons rfl (fun K hK => ?_) (AllReadyH.cons rfl (fun K hK => ?_) (AllReadyH.nil))
                · obtain ⟨v1, hv12, _, _⟩ := lit_cell (unhide g1_11) (lit4 (by decide) (by decide) (by decide) (unhide Ox1)) r1 (by simpa using hr1)
                  go_simp
                  clear hv12
                  refine hK.out _ _ trivial (fun _ => ?_)
                  clear hK K
                  try simp only [Act.put, List.setIfInBounds_toArray, List.set_cons_zero, List.set_cons_succ, List.getElem_toArray, List.getElem_cons_zero, List.getElem_cons_succ]
                  refine wpAnyH_take (i := 16) (v := ?vdc65_16) rfl (by kernel_rfl) (by kernel_rfl) (by kernel_rfl) (fun _ _ _ h => h) (Or.inl ⟨by rfl, ?hydc65_16⟩) (by assumption) ?_
                  case hydc65_16 =>
                    intro w hSw
                    try dsimp only at hSw
                    go_simp
                    try with_reducible rfl
                  try simp only [Act.put, List.setIfInBounds_toArray, List.set_cons_zero, List.set_cons_succ, List.getElem_toArray, List.getElem_cons_zero, List.getElem_cons_succ]
                  refine wpAnyH_ready (rs := [14]) (by kernel_rfl) (by simp) ?_
                  refine AllReadyH.cons rfl (fun K hK => ?_) (AllReadyH.nil)
                  obtain ⟨v2, hv13, _, _⟩ := lit_cell (unhide g2_11) (lit4 (by decide) (by decide) (by decide) (unhide Ox2)) r2 (by simpa using hr2)
                  go_simp
                  clear hv13
                  refine hK.out _ _ trivial (fun _ => ?_)
                  clear hK K
                  try simp only [Act.put, List.setIfInBounds_toArray, List.set_cons_zero, List.set_cons_succ, List.getElem_toArray, List.getElem_cons_zero, List.getElem_cons_succ]
                  refine wpAnyH_take (i := 17) (v := ?vdc66_17) rfl (by kernel_rfl) (by kernel_rfl) (by kernel_rfl) (fun _ _ _ h => h) (Or.inl ⟨by rfl, ?hydc66_17⟩) (by assumption) ?_
                  case hydc66_17 =>
                    intro w hSw
                    try dsimp only at hSw
                    go_simp
                    try with_reducible rfl
                  try simp only [Act.put, List.setIfInBounds_toArray, List.set_cons_zero, List.set_cons_succ, List.getElem_toArray, List.getElem_cons_zero, List.getElem_cons_succ]
                  refine wpAnyH_done (by kernel_rfl) ?_ _
                  go_wp2_with fail
                  refine bodyPost_ret (v := .tuple #[.string t, .int .i64 v1, .int .i64 v2]) (by simp [results, Try.results6]) rfl ⟨t, v1, v2, rfl, ht0, unhide W11⟩
                · obtain ⟨v2, hv12, _, _⟩ := lit_cell (unhide g2_11) (lit4 (by decide) (by decide) (by decide) (unhide Ox2)) r2 (by simpa using hr2)
                  go_simp
                  clear hv12
                  refine hK.out _ _ trivial (fun _ => ?_)
                  clear hK K
                  try simp only [Act.put, List.setIfInBounds_toArray, List.set_cons_zero, List.set_cons_succ, List.getElem_toArray, List.getElem_cons_zero, List.getElem_cons_succ]
                  refine wpAnyH_ready (rs := [7]) (by kernel_rfl) (by simp) ?_
                  refine AllReadyH.cons rfl (fun K hK => ?_) (AllReadyH.nil)
                  obtain ⟨v1, hv13, _, _⟩ := lit_cell (unhide g1_11) (lit4 (by decide) (by decide) (by decide) (unhide Ox1)) r1 (by simpa using hr1)
                  go_simp
                  clear hv13
                  refine hK.out _ _ trivial (fun _ => ?_)
                  clear hK K
                  try simp only [Act.put, List.setIfInBounds_toArray, List.set_cons_zero, List.set_cons_succ, List.getElem_toArray, List.getElem_cons_zero, List.getElem_cons_succ]
                  refine wpAnyH_take (i := 16) (v := ?vdc67_16) rfl (by kernel_rfl) (by kernel_rfl) (by kernel_rfl) (fun _ _ _ h => h) (Or.inl ⟨by rfl, ?hydc67_16⟩) (by assumption) ?_
                  case hydc67_16 =>
                    intro w hSw
                    try dsimp only at hSw
                    go_simp
                    try with_reducible rfl
                  try simp only [Act.put, List.setIfInBounds_toArray, List.set_cons_zero, List.set_cons_succ, List.getElem_toArray, List.getElem_cons_zero, List.getElem_cons_succ]
                  refine wpAnyH_take (i := 17) (v := ?vdc68_17) rfl (by kernel_rfl) (by kernel_rfl) (by kernel_rfl) (fun _ _ _ h => h) (Or.inl ⟨by rfl, ?hydc68_17⟩) (by assumption) ?_
                  case hydc68_17 =>
                    intro w hSw
                    try dsimp only at hSw
                    go_simp
                    try with_reducible rfl
                  try simp only [Act.put, List.setIfInBounds_toArray, List.set_cons_zero, List.set_cons_succ, List.getElem_toArray, List.getElem_cons_zero, List.getElem_cons_succ]
                  refine wpAnyH_done (by kernel_rfl) ?_ _
                  go_wp2_with fail
                  refine bodyPost_ret (v := .tuple #[.string t, .int .i64 v1, .int .i64 v2]) (by simp [results, Try.results6]) rfl ⟨t, v1, v2, rfl, ht0, unhide W11⟩
            · go_simp
              refine (src_n z9 w.heap.size sl n 4 (by decide) hn (unhide S9) ((unhide HD).below (unhide W9))).mono ?_
              rintro e z10 ⟨r2, rfl, hr20, hS10, ht10⟩
              have hr2 : r2 < 4 := by omega
              have hr2i : (r2 : Int) < 4 := by omega
              have S10 := hide hS10
              have W10 := hide ((unhide W9).trans ht10.below)
              have g1_10 := hide ((ht10.block z7.heap.size (by have := unhide ltg1; omega)).trans (unhide g1_9))
              clear hS10 ht10 hr20
              go_wp2_with fail
              refine hK.out _ _ trivial (fun _ => ?_)
              clear hK K
              try simp only [Act.put, List.setIfInBounds_toArray, List.set_cons_zero, List.set_cons_succ, List.getElem_toArray, List.getElem_cons_zero, List.getElem_cons_succ]
              refine wpAnyH_take (i := 15) (v := ?vdc69_15) rfl (by kernel_rfl) (by kernel_rfl) (by kernel_rfl) (fun _ _ _ h => h) (Or.inl ⟨by rfl, ?hydc69_15⟩) (by assumption) ?_
              case hydc69_15 =>
                intro w hSw
                try dsimp only at hSw
                go_simp
                try with_reducible rfl
              try simp only [Act.put, List.setIfInBounds_toArray, List.set_cons_zero, List.set_cons_succ, List.getElem_toArray, List.getElem_cons_zero, List.getElem_cons_succ]
              refine wpAnyH_ready (rs := [7, 10]) (by kernel_rfl) (by simp) ?_
              refine AllReadyH.cons rfl (fun K hK => ?_) (AllReadyH.cons rfl (fun K hK => ?_) (AllReadyH.nil))
              · obtain ⟨v1, hv11, _, _⟩ := lit_cell (unhide g1_10) (lit4 (by decide) (by decide) (by decide) (unhide Ox1)) r1 (by simpa using hr1)
                go_simp
                clear hv11
                refine hK.out _ _ trivial (fun _ => ?_)
                clear hK K
                try simp only [Act.put, List.setIfInBounds_toArray, List.set_cons_zero, List.set_cons_succ, List.getElem_toArray, List.getElem_cons_zero, List.getElem_cons_succ]
                refine wpAnyH_take (i := 16) (v := ?vdc70_16) rfl (by kernel_rfl) (by kernel_rfl) (by kernel_rfl) (fun _ _ _ h => h) (Or.inl ⟨by rfl, ?hydc70_16⟩) (by assumption) ?_
                case hydc70_16 =>
                  intro w hSw
                  try dsimp only at hSw
                  go_simp
                  try with_reducible rfl
                try simp only [Act.put, List.setIfInBounds_toArray, List.set_cons_zero, List.set_cons_succ, List.getElem_toArray, List.getElem_cons_zero, List.getElem_cons_succ]
                refine wpAnyH_ready (rs := [10]) (by kernel_rfl) (by simp) ?_
                refine AllReadyH.cons rfl (fun K hK => ?_) (AllReadyH.nil)
                have hb12 : Below z10.heap.size z10 (z10.alloc (.cells #[.int .i64 (-1), .int .i64 16777215, .int .i64 16777212, .int .i64 x2] 2)) := (Below.refl _ _).alloc (Nat.le_refl _) _
                have ltg2 : Hid (w.heap.size < z10.heap.size) := hide ((unhide S10).lt)
                have S12 := hide ((unhide S10).same (hb12.block _ (unhide S10).lt))
                have W12 := hide ((unhide W10).trans (hb12.mono (unhide W10).size))
                have g1_12 := hide ((hb12.block z7.heap.size (Array.getElem?_eq_some_iff.1 (unhide g1_10)).1).trans (unhide g1_10))
                have g2_12 : Hid ((z10.alloc (.cells #[.int .i64 (-1), .int .i64 16777215, .int .i64 16777212, .int .i64 x2] 2)).heap[z10.heap.size]? = some (.cells #[.int .i64 (-1), .int .i64 16777215, .int .i64 16777212, .int .i64 x2] 2)) := hide (heap_alloc_new z10 (.cells #[.int .i64 (-1), .int .i64 16777215, .int .i64 16777212, .int .i64 x2] 2))
                clear hb12
                go_simp
                refine hK.out _ _ trivial (fun _ => ?_)
                clear hK K
                try simp only [Act.put, List.setIfInBounds_toArray, List.set_cons_zero, List.set_cons_succ, List.getElem_toArray, List.getElem_cons_zero, List.getElem_cons_succ]
                refine wpAnyH_take (i := 13) (v := ?vdc71_13) rfl (by kernel_rfl) (by kernel_rfl) (by kernel_rfl) (fun _ _ _ h => h) (Or.inl ⟨by rfl, ?hydc71_13⟩) (by assumption) ?_
                case hydc71_13 =>
                  intro w hSw
                  try dsimp only at hSw
                  go_simp
                  try with_reducible rfl
                try simp only [Act.put, List.setIfInBounds_toArray, List.set_cons_zero, List.set_cons_succ, List.getElem_toArray, List.getElem_cons_zero, List.getElem_cons_succ]
                refine wpAnyH_ready (rs := [14]) (by kernel_rfl) (by simp) ?_
                refine AllReadyH.cons rfl (fun K hK => ?_) (AllReadyH.nil)
                obtain ⟨v2, hv13, _, _⟩ := lit_cell (unhide g2_12) (lit4 (by decide) (by decide) (by decide) (unhide Ox2)) r2 (by simpa using hr2)
                go_simp
                clear hv13
                refine hK.out _ _ trivial (fun _ => ?_)
                clear hK K
                try simp only [Act.put, List.setIfInBounds_toArray, List.set_cons_zero, List.set_cons_succ, List.getElem_toArray, List.getElem_cons_zero, List.getElem_cons_succ]
                refine wpAnyH_take (i := 17) (v := ?vdc72_17) rfl (by kernel_rfl) (by kernel_rfl) (by kernel_rfl) (fun _ _ _ h => h) (Or.inl ⟨by rfl, ?hydc72_17⟩) (by assumption) ?_
                case hydc72_17 =>
                  intro w hSw
                  try dsimp only at hSw
                  go_simp
                  try with_reducible rfl
                try simp only [Act.put, List.setIfInBounds_toArray, List.set_cons_zero, List.set_cons_succ, List.getElem_toArray, List.getElem_cons_zero, List.getElem_cons_succ]
                refine wpAnyH_done (by kernel_rfl) ?_ _
                go_wp2_with fail
                refine bodyPost_ret (v := .tuple #[.string t, .int .i64 v1, .int .i64 v2]) (by simp [results, Try.results6]) rfl ⟨t, v1, v2, rfl, ht0, unhide W12⟩
              · have hb11 : Below z10.heap.size z10 (z10.alloc (.cells #[.int .i64 (-1), .int .i64 16777215, .int .i64 16777212, .int .i64 x2] 2)) := (Below.refl _ _).alloc (Nat.le_refl _) _
                have ltg2 : Hid (w.heap.size < z10.heap.size) := hide ((unhide S10).lt)
                have S11 := hide ((unhide S10).same (hb11.block _ (unhide S10).lt))
                have W11 := hide ((unhide W10).trans (hb11.mono (unhide W10).size))
                have g1_11 := hide ((hb11.block z7.heap.size (Array.getElem?_eq_some_iff.1 (unhide g1_10)).1).trans (unhide g1_10))
                have g2_11 : Hid ((z10.alloc (.cells #[.int .i64 (-1), .int .i64 16777215, .int .i64 16777212, .int .i64 x2] 2)).heap[z10.heap.size]? = some (.cells #[.int .i64 (-1), .int .i64 16777215, .int .i64 16777212, .int .i64 x2] 2)) := hide (heap_alloc_new z10 (.cells #[.int .i64 (-1), .int .i64 16777215, .int .i64 16777212, .int .i64 x2] 2))
                clear hb11
                go_simp
                refine hK.out _ _ trivial (fun _ => ?_)
                clear hK K
                try simp only [Act.put, List.setIfInBounds_toArray, List.set_cons_zero, List.set_cons_succ, List.getElem_toArray, List.getElem_cons_zero, List.getElem_cons_succ]
                refine wpAnyH_take (i := 13) (v := ?vdc73_13) rfl (by kernel_rfl) (by kernel_rfl) (by kernel_rfl) (fun _ _ _ h => h) (Or.inl ⟨by rfl, ?hydc73_13⟩) (by assumption) ?_
                case hydc73_13 =>
                  intro w hSw
                  try dsimp only at hSw
                  go_simp
                  try with_reducible rfl
                try simp only [Act.put, List.setIfInBounds_toArray, List.set_cons_zero, List.set_cons_succ, List.getElem_toArray, List.getElem_cons_zero, List.getElem_cons_succ]
                refine wpAnyH_ready (rs := [7, 14]) (by kernel_rfl) (by simp) ?_
                refine AllReadyH.cons rfl (fun K hK => ?_) (AllReadyH.cons rfl (fun K hK => ?_) (AllReadyH.nil))
                · obtain ⟨v1, hv12, _, _⟩ := lit_cell (unhide g1_11) (lit4 (by decide) (by decide) (by decide) (unhide Ox1)) r1 (by simpa using hr1)
                  go_simp
                  clear hv12
                  refine hK.out _ _ trivial (fun _ => ?_)
                  clear hK K
                  try simp only [Act.put, List.setIfInBounds_toArray, List.set_cons_zero, List.set_cons_succ, List.getElem_toArray, List.getElem_cons_zero, List.getElem_cons_succ]
                  refine wpAnyH_take (i := 16) (v := ?vdc74_16) rfl (by kernel_rfl) (by kernel_rfl) (by kernel_rfl) (fun _ _ _ h => h) (Or.inl ⟨by rfl, ?hydc74_16⟩) (by assumption) ?_
                  case hydc74_16 =>
                    intro w hSw
                    try dsimp only at hSw
                    go_simp
                    try with_reducible rfl
                  try simp only [Act.put, List.setIfInBounds_toArray, List.set_cons_zero, List.set_cons_succ, List.getElem_toArray, List.getElem_cons_zero, List.getElem_cons_succ]
                  refine wpAnyH_ready (rs := [14]) (by kernel_rfl) (by simp) ?_
                  refine AllReadyH.cons rfl (fun K hK => ?_) (AllReadyH.nil)
                  obtain ⟨v2, hv13, _, _⟩ := lit_cell (unhide g2_11) (lit4 (by decide) (by decide) (by decide) (unhide Ox2)) r2 (by simpa using hr2)
                  go_simp
                  clear hv13
                  refine hK.out _ _ trivial (fun _ => ?_)
                  clear hK K
                  try simp only [Act.put, List.setIfInBounds_toArray, List.set_cons_zero, List.set_cons_succ, List.getElem_toArray, List.getElem_cons_zero, List.getElem_cons_succ]
                  refine wpAnyH_take (i := 17) (v := ?vdc75_17) rfl (by kernel_rfl) (by kernel_rfl) (by kernel_rfl) (fun _ _ _ h => h) (Or.inl ⟨by rfl, ?hydc75_17⟩) (by assumption) ?_
                  case hydc75_17 =>
                    intro w hSw
                    try dsimp only at hSw
                    go_simp
                    try with_reducible rfl
                  try simp only [Act.put, List.setIfInBounds_toArray, List.set_cons_zero, List.set_cons_succ, List.getElem_toArray, List.getElem_cons_zero, List.getElem_cons_succ]
                  refine wpAnyH_done (by kernel_rfl) ?_ _
                  go_wp2_with fail
                  refine bodyPost_ret (v := .tuple #[.string t, .int .i64 v1, .int .i64 v2]) (by simp [results, Try.results6]) rfl ⟨t, v1, v2, rfl, ht0, unhide W11⟩
                · obtain ⟨v2, hv12, _, _⟩ := lit_cell (unhide g2_11) (lit4 (by decide) (by decide) (by decide) (unhide Ox2)) r2 (by simpa using hr2)
                  go_simp
                  clear hv12
                  refine hK.out _ _ trivial (fun _ => ?_)
                  clear hK K
                  try simp only [Act.put, List.setIfInBounds_toArray, List.set_cons_zero, List.set_cons_succ, List.getElem_toArray, List.getElem_cons_zero, List.getElem_cons_succ]
                  refine wpAnyH_ready (rs := [7]) (by kernel_rfl) (by simp) ?_
                  refine AllReadyH.cons rfl (fun K hK => ?_) (AllReadyH.nil)
                  obtain ⟨v1, hv13, _, _⟩ := lit_cell (unhide g1_11) (lit4 (by decide) (by decide) (by decide) (unhide Ox1)) r1 (by simpa using hr1)
                  go_simp
                  clear hv13
                  refine hK.out _ _ trivial (fun _ => ?_)
                  clear hK K
                  try simp only [Act.put, List.setIfInBounds_toArray, List.set_cons_zero, List.set_cons_succ, List.getElem_toArray, List.getElem_cons_zero, List.getElem_cons_succ]
                  refine wpAnyH_take (i := 16) (v := ?vdc76_16) rfl (by kernel_rfl) (by kernel_rfl) (by kernel_rfl) (fun _ _ _ h => h) (Or.inl ⟨by rfl, ?hydc76_16⟩) (by assumption) ?_
                  case hydc76_16 =>
                    intro w hSw
                    try dsimp only at hSw
                    go_simp
                    try with_reducible rfl
                  try simp only [Act.put, List.setIfInBounds_toArray, List.set_cons_zero, List.set_cons_succ, List.getElem_toArray, List.getElem_cons_zero, List.getElem_cons_succ]
                  refine wpAnyH_take (i := 17) (v := ?vdc77_17) rfl (by kernel_rfl) (by kernel_rfl) (by kernel_rfl) (fun _ _ _ h => h) (Or.inl ⟨by rfl, ?hydc77_17⟩) (by assumption) ?_
                  case hydc77_17 =>
                    intro w hSw
                    try dsimp only at hSw
                    go_simp
                    try with_reducible rfl
                  try simp only [Act.put, List.setIfInBounds_toArray, List.set_cons_zero, List.set_cons_succ, List.getElem_toArray, List.getElem_cons_zero, List.getElem_cons_succ]
                  refine wpAnyH_done (by kernel_rfl) ?_ _
                  go_wp2_with fail
                  refine bodyPost_ret (v := .tuple #[.string t, .int .i64 v1, .int .i64 v2]) (by simp [results, Try.results6]) rfl ⟨t, v1, v2, rfl, ht0, unhide W11⟩
        · go_simp
          refine (src_edge_g z7 w.heap.size sl n hn (unhide S7) ((unhide HD).below (unhide W7))).mono ?_
          rintro e z8 ⟨x2, rfl, hx2a, hx2b, hS8, hn8⟩
          have Ox2 : Hid (okI64 (.int .i64 x2) = true) := hide (decide_eq_true ⟨hx2a, hx2b⟩)
          have S8 := hide hS8
          have W8 := hide ((unhide W7).trans (hn8.below (Nat.le_of_lt (unhide S7).lt)))
          clear hS8 hn8 hx2a hx2b
          go_wp2_with fail
          refine hK.out _ _ trivial (fun _ => ?_)
          clear hK K
          try simp only [Act.put, List.setIfInBounds_toArray, List.set_cons_zero, List.set_cons_succ, List.getElem_toArray, List.getElem_cons_zero, List.getElem_cons_succ]
          refine wpAnyH_ready (rs := [3, 10, 12]) (by kernel_rfl) (by simp) ?_
          refine AllReadyH.cons rfl (fun K hK => ?_) (AllReadyH.cons rfl (fun K hK => ?_) (AllReadyH.cons rfl (fun K hK => ?_) (AllReadyH.nil)))
          · have hb9 : Below z8.heap.size z8 (z8.alloc (.cells #[.int .i64 0, .int .i64 200, .int .i64 201, .int .i64 x1] 2)) := (Below.refl _ _).alloc (Nat.le_refl _) _
            have ltg1 : Hid (w.heap.size < z8.heap.size) := hide ((unhide S8).lt)
            have S9 := hide ((unhide S8).same (hb9.block _ (unhide S8).lt))
            have W9 := hide ((unhide W8).trans (hb9.mono (unhide W8).size))
            have g1_9 : Hid ((z8.alloc (.cells #[.int .i64 0, .int .i64 200, .int .i64 201, .int .i64 x1] 2)).heap[z8.heap.size]? = some (.cells #[.int .i64 0, .int .i64 200, .int .i64 201, .int .i64 x1] 2)) := hide (heap_alloc_new z8 (.cells #[.int .i64 0, .int .i64 200, .int .i64 201, .int .i64 x1] 2))
            clear hb9
            go_simp
            refine hK.out _ _ trivial (fun _ => ?_)
            clear hK K
            try simp only [Act.put, List.setIfInBounds_toArray, List.set_cons_zero, List.set_cons_succ, List.getElem_toArray, List.getElem_cons_zero, List.getElem_cons_succ]
            refine wpAnyH_take (i := 6) (v := ?vdc78_6) rfl (by kernel_rfl) (by kernel_rfl) (by kernel_rfl) (fun _ _ _ h => h) (Or.inl ⟨by rfl, ?hydc78_6⟩) (by assumption) ?_
            case hydc78_6 =>
              intro w hSw
              try dsimp only at hSw
              go_simp
              try with_reducible rfl
            try simp only [Act.put, List.setIfInBounds_toArray, List.set_cons_zero, List.set_cons_succ, List.getElem_toArray, List.getElem_cons_zero, List.getElem_cons_succ]
            refine wpAnyH_ready (rs := [7, 10, 12]) (by kernel_rfl) (by simp) ?_
            refine AllReadyH.cons rfl (fun K hK => ?_) (AllReadyH.cons rfl (fun K hK => ?_) (AllReadyH.cons rfl (fun K hK => ?_) (AllReadyH.nil)))
            · obtain ⟨v1, hv10, _, _⟩ := lit_cell (unhide g1_9) (lit4 (by decide) (by decide) (by decide) (unhide Ox1)) r1 (by simpa using hr1)
              go_simp
              clear hv10
              refine hK.out _ _ trivial (fun _ => ?_)
              clear hK K
              try simp only [Act.put, List.setIfInBounds_toArray, List.set_cons_zero, List.set_cons_succ, List.getElem_toArray, List.getElem_cons_zero, List.getElem_cons_succ]
              refine wpAnyH_ready (rs := [10, 12]) (by kernel_rfl) (by simp) ?_
              refine AllReadyH.cons rfl (fun K hK => ?_) (AllReadyH.cons rfl (fun K hK => ?_) (AllReadyH.nil))
              · have ez11 : (z8.alloc (.cells #[.int .i64 0, .int .i64 200, .int .i64 201, .int .i64 x1] 2)).heap.size = (z8.heap.size + 1) := by simp
                have hb11 : Below (z8.alloc (.cells #[.int .i64 0, .int .i64 200, .int .i64 201, .int .i64 x1] 2)).heap.size (z8.alloc (.cells #[.int .i64 0, .int .i64 200, .int .i64 201, .int .i64 x1] 2)) ((z8.alloc (.cells #[.int .i64 0, .int .i64 200, .int .i64 201, .int .i64 x1] 2)).alloc (.cells #[.int .i64 (-1), .int .i64 16777215, .int .i64 16777212, .int .i64 x2] 2)) := (Below.refl _ _).alloc (Nat.le_refl _) _
                have ltg2 : Hid (w.heap.size < (z8.heap.size + 1)) := hide (Nat.lt_of_lt_of_eq (unhide S9).lt ez11)
                have S11 := hide ((unhide S9).same (hb11.block _ (unhide S9).lt))
                have W11 := hide ((unhide W9).trans (hb11.mono (unhide W9).size))
                have g1_11 := hide ((hb11.block z8.heap.size (Array.getElem?_eq_some_iff.1 (unhide g1_9)).1).trans (unhide g1_9))
                have g2_11 : Hid (((z8.alloc (.cells #[.int .i64 0, .int .i64 200, .int .i64 201, .int .i64 x1] 2)).alloc (.cells #[.int .i64 (-1), .int .i64 16777215, .int .i64 16777212, .int .i64 x2] 2)).heap[(z8.heap.size + 1)]? = some (.cells #[.int .i64 (-1), .int .i64 16777215, .int .i64 16777212, .int .i64 x2] 2)) := hide (by rw [← ez11]; exact heap_alloc_new (z8.alloc (.cells #[.int .i64 0, .int .i64 200, .int .i64 201, .int .i64 x1] 2)) (.cells #[.int .i64 (-1), .int .i64 16777215, .int .i64 16777212, .int .i64 x2] 2))
                clear hb11 ez11
                go_simp
                refine hK.out _ _ trivial (fun _ => ?_)
                clear hK K
                try simp only [Act.put, List.setIfInBounds_toArray, List.set_cons_zero, List.set_cons_succ, List.getElem_toArray, List.getElem_cons_zero, List.getElem_cons_succ]
                refine wpAnyH_ready (rs := [12]) (by kernel_rfl) (by simp) ?_
                refine AllReadyH.cons rfl (fun K hK => ?_) (AllReadyH.nil)
                go_simp
                refine (src_n ((z8.alloc (.cells #[.int .i64 0, .int .i64 200, .int .i64 201, .int .i64 x1] 2)).alloc (.cells #[.int .i64 (-1), .int .i64 16777215, .int .i64 16777212, .int .i64 x2] 2)) w.heap.size sl n 4 (by decide) hn (unhide S11) ((unhide HD).below (unhide W11))).mono ?_
                rintro e z12 ⟨r2, rfl, hr20, hS12, ht12⟩
                have hr2 : r2 < 4 := by omega
                have hr2i : (r2 : Int) < 4 := by omega
                have S12 := hide hS12
                have W12 := hide ((unhide W11).trans ht12.below)
                have g1_12 := hide ((ht12.block z8.heap.size (by have := unhide ltg1; omega)).trans (unhide g1_11))
                have g2_12 := hide ((ht12.block (z8.heap.size + 1) (by have := unhide ltg2; omega)).trans (unhide g2_11))
                clear hS12 ht12 hr20
                go_wp2_with fail
                refine hK.out _ _ trivial (fun _ => ?_)
                clear hK K
                try simp only [Act.put, List.setIfInBounds_toArray, List.set_cons_zero, List.set_cons_succ, List.getElem_toArray, List.getElem_cons_zero, List.getElem_cons_succ]
                refine wpAnyH_take (i := 13) (v := ?vdc79_13) rfl (by kernel_rfl) (by kernel_rfl) (by kernel_rfl) (fun _ _ _ h => h) (Or.inl ⟨by rfl, ?hydc79_13⟩) (by assumption) ?_
                case hydc79_13 =>
                  intro w hSw
                  try dsimp only at hSw
                  go_simp
                  try with_reducible rfl
                try simp only [Act.put, List.setIfInBounds_toArray, List.set_cons_zero, List.set_cons_succ, List.getElem_toArray, List.getElem_cons_zero, List.getElem_cons_succ]
                refine wpAnyH_take (i := 15) (v := ?vdc80_15) rfl (by kernel_rfl) (by kernel_rfl) (by kernel_rfl) (fun _ _ _ h => h) (Or.inl ⟨by rfl, ?hydc80_15⟩) (by assumption) ?_
                case hydc80_15 =>
                  intro w hSw
                  try dsimp only at hSw
                  go_simp
                  try with_reducible rfl
                try simp only [Act.put, List.setIfInBounds_toArray, List.set_cons_zero, List.set_cons_succ, List.getElem_toArray, List.getElem_cons_zero, List.getElem_cons_succ]
                refine wpAnyH_take (i := 16) (v := ?vdc81_16) rfl (by kernel_rfl) (by kernel_rfl) (by kernel_rfl) (fun _ _ _ h => h) (Or.inl ⟨by rfl, ?hydc81_16⟩) (by assumption) ?_
                case hydc81_16 =>
                  intro w hSw
                  try dsimp only at hSw
                  go_simp
                  try with_reducible rfl
                try simp only [Act.put, List.setIfInBounds_toArray, List.set_cons_zero, List.set_cons_succ, List.getElem_toArray, List.getElem_cons_zero, List.getElem_cons_succ]
                refine wpAnyH_ready (rs := [14]) (by kernel_rfl) (by simp) ?_
                refine AllReadyH.cons rfl (fun K hK => ?_) (AllReadyH.nil)
                obtain ⟨v2, hv13, _, _⟩ := lit_cell (unhide g2_12) (lit4 (by decide) (by decide) (by decide) (unhide Ox2)) r2 (by simpa using hr2)
                go_simp
                clear hv13
                refine hK.out _ _ trivial (fun _ => ?_)
                clear hK K
                try simp only [Act.put, List.setIfInBounds_toArray, List.set_cons_zero, List.set_cons_succ, List.getElem_toArray, List.getElem_cons_zero, List.getElem_cons_succ]
                refine wpAnyH_take (i := 17) (v := ?vdc82_17) rfl (by kernel_rfl) (by kernel_rfl) (by kernel_rfl) (fun _ _ _ h => h) (Or.inl ⟨by rfl, ?hydc82_17⟩) (by assumption) ?_
                case hydc82_17 =>
                  intro w hSw
                  try dsimp only at hSw
                  go_simp
                  try with_reducible rfl
                try simp only [Act.put, List.setIfInBounds_toArray, List.set_cons_zero, List.set_cons_succ, List.getElem_toArray, List.getElem_cons_zero, List.getElem_cons_succ]
                refine wpAnyH_done (by kernel_rfl) ?_ _
                go_wp2_with fail
                refine bodyPost_ret (v := .tuple #[.string t, .int .i64 v1, .int .i64 v2]) (by simp [results, Try.results6]) rfl ⟨t, v1, v2, rfl, ht0, unhide W12⟩
              · go_simp
                refine (src_n (z8.alloc (.cells #[.int .i64 0, .int .i64 200, .int .i64 201, .int .i64 x1] 2)) w.heap.size sl n 4 (by decide) hn (unhide S9) ((unhide HD).below (unhide W9))).mono ?_
                rintro e z11 ⟨r2, rfl, hr20, hS11, ht11⟩
                have hr2 : r2 < 4 := by omega
                have hr2i : (r2 : Int) < 4 := by omega
                have S11 := hide hS11
                have W11 := hide ((unhide W9).trans ht11.below)
                have g1_11 := hide ((ht11.block z8.heap.size (by have := unhide ltg1; omega)).trans (unhide g1_9))
                clear hS11 ht11 hr20
                go_wp2_with fail
                refine hK.out _ _ trivial (fun _ => ?_)
                clear hK K
                try simp only [Act.put, List.setIfInBounds_toArray, List.set_cons_zero, List.set_cons_succ, List.getElem_toArray, List.getElem_cons_zero, List.getElem_cons_succ]
                refine wpAnyH_take (i := 15) (v := ?vdc83_15) rfl (by kernel_rfl) (by kernel_rfl) (by kernel_rfl) (fun _ _ _ h => h) (Or.inl ⟨by rfl, ?hydc83_15⟩) (by assumption) ?_
                case hydc83_15 =>
                  intro w hSw
                  try dsimp only at hSw
                  go_simp
                  try with_reducible rfl
                try simp only [Act.put, List.setIfInBounds_toArray, List.set_cons_zero, List.set_cons_succ, List.getElem_toArray, List.getElem_cons_zero, List.getElem_cons_succ]
                refine wpAnyH_take (i := 16) (v := ?vdc84_16) rfl (by kernel_rfl) (by kernel_rfl) (by kernel_rfl) (fun _ _ _ h => h) (Or.inl ⟨by rfl, ?hydc84_16⟩) (by assumption) ?_
                case hydc84_16 =>
                  intro w hSw
                  try dsimp only at hSw
                  go_simp
                  try with_reducible rfl
                try simp only [Act.put, List.setIfInBounds_toArray, List.set_cons_zero, List.set_cons_succ, List.getElem_toArray, List.getElem_cons_zero, List.getElem_cons_succ]
                refine wpAnyH_ready (rs := [10]) (by kernel_rfl) (by simp) ?_
                refine AllReadyH.cons rfl (fun K hK => ?_) (AllReadyH.nil)
                have hb12 : Below z11.heap.size z11 (z11.alloc (.cells #[.int .i64 (-1), .int .i64 16777215, .int .i64 16777212, .int .i64 x2] 2)) := (Below.refl _ _).alloc (Nat.le_refl _) _
                have ltg2 : Hid (w.heap.size < z11.heap.size) := hide ((unhide S11).lt)
                have S12 := hide ((unhide S11).same (hb12.block _ (unhide S11).lt))
                have W12 := hide ((unhide W11).trans (hb12.mono (unhide W11).size))
                have g1_12 := hide ((hb12.block z8.heap.size (Array.getElem?_eq_some_iff.1 (unhide g1_11)).1).trans (unhide g1_11))
                have g2_12 : Hid ((z11.alloc (.cells #[.int .i64 (-1), .int .i64 16777215, .int .i64 16777212, .int .i64 x2] 2)).heap[z11.heap.size]? = some (.cells #[.int .i64 (-1), .int .i64 16777215, .int .i64 16777212, .int .i64 x2] 2)) := hide (heap_alloc_new z11 (.cells #[.int .i64 (-1), .int .i64 16777215, .int .i64 16777212, .int .i64 x2] 2))
                clear hb12
                go_simp
                refine hK.out _ _ trivial (fun _ => ?_)
                clear hK K
                try simp only [Act.put, List.setIfInBounds_toArray, List.set_cons_zero, List.set_cons_succ, List.getElem_toArray, List.getElem_cons_zero, List.getElem_cons_succ]
                refine wpAnyH_take (i := 13) (v := ?vdc85_13) rfl (by kernel_rfl) (by kernel_rfl) (by kernel_rfl) (fun _ _ _ h => h) (Or.inl ⟨by rfl, ?hydc85_13⟩) (by assumption) ?_
                case hydc85_13 =>
                  intro w hSw
                  try dsimp only at hSw
                  go_simp
                  try with_reducible rfl
                try simp only [Act.put, List.setIfInBounds_toArray, List.set_cons_zero, List.set_cons_succ, List.getElem_toArray, List.getElem_cons_zero, List.getElem_cons_succ]
                refine wpAnyH_ready (rs := [14]) (by kernel_rfl) (by simp) ?_
                refine AllReadyH.cons rfl (fun K hK => ?_) (AllReadyH.nil)
                obtain ⟨v2, hv13, _, _⟩ := lit_cell (unhide g2_12) (lit4 (by decide) (by decide) (by decide) (unhide Ox2)) r2 (by simpa using hr2)
                go_simp
                clear hv13
                refine hK.out _ _ trivial (fun _ => ?_)
                clear hK K
                try simp only [Act.put, List.setIfInBounds_toArray, List.set_cons_zero, List.set_cons_succ, List.getElem_toArray, List.getElem_cons_zero, List.getElem_cons_succ]
                refine wpAnyH_take (i := 17) (v := ?vdc86_17) rfl (by kernel_rfl) (by kernel_rfl) (by kernel_rfl) (fun _ _ _ h => h) (Or.inl ⟨by rfl, ?hydc86_17⟩) (by assumption) ?_
                case hydc86_17 =>
                  intro w hSw
                  try dsimp only at hSw
                  go_simp
                  try with_reducible rfl
                try simp only [Act.put, List.setIfInBounds_toArray, List.set_cons_zero, List.set_cons_succ, List.getElem_toArray, List.getElem_cons_zero, List.getElem_cons_succ]
                refine wpAnyH_done (by kernel_rfl) ?_ _
                go_wp2_with fail
                refine bodyPost_ret (v := .tuple #[.string t, .int .i64 v1, .int .i64 v2]) (by simp [results, Try.results6]) rfl ⟨t, v1, v2, rfl, ht0, unhide W12⟩
            · have ez10 : (z8.alloc (.cells #[.int .i64 0, .int .i64 200, .int .i64 201, .int .i64 x1] 2)).heap.size = (z8.heap.size + 1) := by simp
              have hb10 : Below (z8.alloc (.cells #[.int .i64 0, .int .i64 200, .int .i64 201, .int .i64 x1] 2)).heap.size (z8.alloc (.cells #[.int .i64 0, .int .i64 200, .int .i64 201, .int .i64 x1] 2)) ((z8.alloc (.cells #[.int .i64 0, .int .i64 200, .int .i64 201, .int .i64 x1] 2)).alloc (.cells #[.int .i64 (-1), .int .i64 16777215, .int .i64 16777212, .int .i64 x2] 2)) := (Below.refl _ _).alloc (Nat.le_refl _) _
              have ltg2 : Hid (w.heap.size < (z8.heap.size + 1)) := hide (Nat.lt_of_lt_of_eq (unhide S9).lt ez10)
              have S10 := hide ((unhide S9).same (hb10.block _ (unhide S9).lt))
              have W10 := hide ((unhide W9).trans (hb10.mono (unhide W9).size))
              have g1_10 := hide ((hb10.block z8.heap.size (Array.getElem?_eq_some_iff.1 (unhide g1_9)).1).trans (unhide g1_9))
              have g2_10 : Hid (((z8.alloc (.cells #[.int .i64 0, .int .i64 200, .int .i64 201, .int .i64 x1] 2)).alloc (.cells #[.int .i64 (-1), .int .i64 16777215, .int .i64 16777212, .int .i64 x2] 2)).heap[(z8.heap.size + 1)]? = some (.cells #[.int .i64 (-1), .int .i64 16777215, .int .i64 16777212, .int .i64 x2] 2)) := hide (by rw [← ez10]; exact heap_alloc_new (z8.alloc (.cells #[.int .i64 0, .int .i64 200, .int .i64 201, .int .i64 x1] 2)) (.cells #[.int .i64 (-1), .int .i64 16777215, .int .i64 16777212, .int .i64 x2] 2))
              clear hb10 ez10
              go_simp
              refine hK.out _ _ trivial (fun _ => ?_)
              clear hK K
              try simp only [Act.put, List.setIfInBounds_toArray, List.set_cons_zero, List.set_cons_succ, List.getElem_toArray, List.getElem_cons_zero, List.getElem_cons_succ]
              refine wpAnyH_ready (rs := [7, 12]) (by kernel_rfl) (by simp) ?_
              refine AllReadyH.cons rfl (fun K hK => ?_) (AllReadyH.cons rfl (fun K hK => ?_) (AllReadyH.nil))
              · obtain ⟨v1, hv11, _, _⟩ := lit_cell (unhide g1_10) (lit4 (by decide) (by decide) (by decide) (unhide Ox1)) r1 (by simpa using hr1)
                go_simp
                clear hv11
                refine hK.out _ _ trivial (fun _ => ?_)
                clear hK K
                try simp only [Act.put, List.setIfInBounds_toArray, List.set_cons_zero, List.set_cons_succ, List.getElem_toArray, List.getElem_cons_zero, List.getElem_cons_succ]
                refine wpAnyH_ready (rs := [12]) (by kernel_rfl) (by simp) ?_
                refine AllReadyH.cons rfl (fun K hK => ?_) (AllReadyH.nil)
                go_simp
                refine (src_n ((z8.alloc (.cells #[.int .i64 0, .int .i64 200, .int .i64 201, .int .i64 x1] 2)).alloc (.cells #[.int .i64 (-1), .int .i64 16777215, .int .i64 16777212, .int .i64 x2] 2)) w.heap.size sl n 4 (by decide) hn (unhide S10) ((unhide HD).below (unhide W10))).mono ?_
                rintro e z12 ⟨r2, rfl, hr20, hS12, ht12⟩
                have hr2 : r2 < 4 := by omega
                have hr2i : (r2 : Int) < 4 := by omega
                have S12 := hide hS12
                have W12 := hide ((unhide W10).trans ht12.below)
                have g1_12 := hide ((ht12.block z8.heap.size (by have := unhide ltg1; omega)).trans (unhide g1_10))
                have g2_12 := hide ((ht12.block (z8.heap.size + 1) (by have := unhide ltg2; omega)).trans (unhide g2_10))
                clear hS12 ht12 hr20
                go_wp2_with fail
                refine hK.out _ _ trivial (fun _ => ?_)
                clear hK K
                try simp only [Act.put, List.setIfInBounds_toArray, List.set_cons_zero, List.set_cons_succ, List.getElem_toArray, List.getElem_cons_zero, List.getElem_cons_succ]
                refine wpAnyH_take (i := 13) (v := ?vdc87_13) rfl (by kernel_rfl) (by kernel_rfl) (by kernel_rfl) (fun _ _ _ h => h) (Or.inl ⟨by rfl, ?hydc87_13⟩) (by assumption) ?_
                case hydc87_13 =>
                  intro w hSw
                  try dsimp only at hSw
                  go_simp
                  try with_reducible rfl
                try simp only [Act.put, List.setIfInBounds_toArray, List.set_cons_zero, List.set_cons_succ, List.getElem_toArray, List.getElem_cons_zero, List.getElem_cons_succ]
                refine wpAnyH_take (i := 15) (v := ?vdc88_15) rfl (by kernel_rfl) (by kernel_rfl) (by kernel_rfl) (fun _ _ _ h => h) (Or.inl ⟨by rfl, ?hydc88_15⟩) (by assumption) ?_
                case hydc88_15 =>
                  intro w hSw
                  try dsimp only at hSw
                  go_simp
                  try with_reducible rfl
                try simp only [Act.put, List.setIfInBounds_toArray, List.set_cons_zero, List.set_cons_succ, List.getElem_toArray, List.getElem_cons_zero, List.getElem_cons_succ]
                refine wpAnyH_take (i := 16) (v := ?vdc89_16) rfl (by kernel_rfl) (by kernel_rfl) (by kernel_rfl) (fun _ _ _ h => h) (Or.inl ⟨by rfl, ?hydc89_16⟩) (by assumption) ?_
                case hydc89_16 =>
                  intro w hSw
                  try dsimp only at hSw
                  go_simp
                  try with_reducible rfl
                try simp only [Act.put, List.setIfInBounds_toArray, List.set_cons_zero, List.set_cons_succ, List.getElem_toArray, List.getElem_cons_zero, List.getElem_cons_succ]
                refine wpAnyH_ready (rs := [14]) (by kernel_rfl) (by simp) ?_
                refine AllReadyH.cons rfl (fun K hK => ?_) (AllReadyH.nil)
                obtain ⟨v2, hv13, _, _⟩ := lit_cell (unhide g2_12) (lit4 (by decide) (by decide) (by decide) (unhide Ox2)) r2 (by simpa using hr2)
                go_simp
                clear hv13
                refine hK.out _ _ trivial (fun _ => ?_)
                clear hK K
                try simp only [Act.put, List.setIfInBounds_toArray, List.set_cons_zero, List.set_cons_succ, List.getElem_toArray, List.getElem_cons_zero, List.getElem_cons_succ]
                refine wpAnyH_take (i := 17) (v := ?vdc90_17) rfl (by kernel_rfl) (by kernel_rfl) (by kernel_rfl) (fun _ _ _ h => h) (Or.inl ⟨by rfl, ?hydc90_17⟩) (by assumption) ?_
                case hydc90_17 =>
                  intro w hSw
                  try dsimp only at hSw
                  go_simp
                  try with_reducible rfl
                try simp only [Act.put, List.setIfInBounds_toArray, List.set_cons_zero, List.set_cons_succ, List.getElem_toArray, List.getElem_cons_zero, List.getElem_cons_succ]
                refine wpAnyH_done (by kernel_rfl) ?_ _
                go_wp2_with fail
                refine bodyPost_ret (v := .tuple #[.string t, .int .i64 v1, .int .i64 v2]) (by simp [results, Try.results6]) rfl ⟨t, v1, v2, rfl, ht0, unhide W12⟩
              · go_simp
                refine (src_n ((z8.alloc (.cells #[.int .i64 0, .int .i64 200, .int .i64 201, .int .i64 x1] 2)).alloc (.cells #[.int .i64 (-1), .int .i64 16777215, .int .i64 16777212, .int .i64 x2] 2)) w.heap.size sl n 4 (by decide) hn (unhide S10) ((unhide HD).below (unhide W10))).mono ?_
                rintro e z11 ⟨r2, rfl, hr20, hS11, ht11⟩
                have hr2 : r2 < 4 := by omega
                have hr2i : (r2 : Int) < 4 := by omega
                have S11 := hide hS11
                have W11 := hide ((unhide W10).trans ht11.below)
                have g1_11 := hide ((ht11.block z8.heap.size (by have := unhide ltg1; omega)).trans (unhide g1_10))
                have g2_11 := hide ((ht11.block (z8.heap.size + 1) (by have := unhide ltg2; omega)).trans (unhide g2_10))
                clear hS11 ht11 hr20
                go_wp2_with fail
                refine hK.out _ _ trivial (fun _ => ?_)
                clear hK K
                try simp only [Act.put, List.setIfInBounds_toArray, List.set_cons_zero, List.set_cons_succ, List.getElem_toArray, List.getElem_cons_zero, List.getElem_cons_succ]
                refine wpAnyH_take (i := 13) (v := ?vdc91_13) rfl (by kernel_rfl) (by kernel_rfl) (by kernel_rfl) (fun _ _ _ h => h) (Or.inl ⟨by rfl, ?hydc91_13⟩) (by assumption) ?_
                case hydc91_13 =>
                  intro w hSw
                  try dsimp only at hSw
                  go_simp
                  try with_reducible rfl
                try simp only [Act.put, List.setIfInBounds_toArray, List.set_cons_zero, List.set_cons_succ, List.getElem_toArray, List.getElem_cons_zero, List.getElem_cons_succ]
                refine wpAnyH_take (i := 15) (v := ?vdc92_15) rfl (by kernel_rfl) (by kernel_rfl) (by kernel_rfl) (fun _ _ _ h => h) (Or.inl ⟨by rfl, ?hydc92_15⟩) (by assumption) ?_
                case hydc92_15 =>
                  intro w hSw
                  try dsimp only at hSw
                  go_simp
                  try with_reducible rfl
                try simp only [Act.put, List.setIfInBounds_toArray, List.set_cons_zero, List.set_cons_succ, List.getElem_toArray, List.getElem_cons_zero, List.getElem_cons_succ]
                refine wpAnyH_ready (rs := [7, 14]) (by kernel_rfl) (by simp) ?_
                refine AllReadyH.cons rfl (fun K hK => ?_) (AllReadyH.cons rfl (fun K hK => ?_) (AllReadyH.nil))
                · obtain ⟨v1, hv12, _, _⟩ := lit_cell (unhide g1_11) (lit4 (by decide) (by decide) (by decide) (unhide Ox1)) r1 (by simpa using hr1)
                  go_simp
                  clear hv12
                  refine hK.out _ _ trivial (fun _ => ?_)
                  clear hK K
                  try simp only [Act.put, List.setIfInBounds_toArray, List.set_cons_zero, List.set_cons_succ, List.getElem_toArray, List.getElem_cons_zero, List.getElem_cons_succ]
                  refine wpAnyH_take (i := 16) (v := ?vdc93_16) rfl (by kernel_rfl) (by kernel_rfl) (by kernel_rfl) (fun _ _ _ h => h) (Or.inl ⟨by rfl, ?hydc93_16⟩) (by assumption) ?_
                  case hydc93_16 =>
                    intro w hSw
                    try dsimp only at hSw
                    go_simp
                    try with_reducible rfl
                  try simp only [Act.put, List.setIfInBounds_toArray, List.set_cons_zero, List.set_cons_succ, List.getElem_toArray, List.getElem_cons_zero, List.getElem_cons_succ]
                  refine wpAnyH_ready (rs := [14]) (by kernel_rfl) (by simp) ?_
                  refine AllReadyH.cons rfl (fun K hK => ?_) (AllReadyH.nil)
                  obtain ⟨v2, hv13, _, _⟩ := lit_cell (unhide g2_11) (lit4 (by decide) (by decide) (by decide) (unhide Ox2)) r2 (by simpa using hr2)
                  go_simp
                  clear hv13
                  refine hK.out _ _ trivial (fun _ => ?_)
                  clear hK K
                  try simp only [Act.put, List.setIfInBounds_toArray, List.set_cons_zero, List.set_cons_succ, List.getElem_toArray, List.getElem_cons_zero, List.getElem_cons_succ]
                  refine wpAnyH_take (i := 17) (v := ?vdc94_17) rfl (by kernel_rfl) (by kernel_rfl) (by kernel_rfl) (fun _ _ _ h => h) (Or.inl ⟨by rfl, ?hydc94_17⟩) (by assumption) ?_
                  case hydc94_17 =>
                    intro w hSw
                    try dsimp only at hSw
                    go_simp
                    try with_reducible rfl
                  try simp only [Act.put, List.setIfInBounds_toArray, List.set_cons_zero, List.set_cons_succ, List.getElem_toArray, List.getElem_cons_zero, List.getElem_cons_succ]
                  refine wpAnyH_done (by kernel_rfl) ?_ _
                  go_wp2_with fail
                  refine bodyPost_ret (v := .tuple #[.string t, .int .i64 v1, .int .i64 v2]) (by simp [results, Try.results6]) rfl ⟨t, v1, v2, rfl, ht0, unhide W11⟩
                · obtain ⟨v2, hv12, _, _⟩ := lit_cell (unhide g2_11) (lit4 (by decide) (by decide) (by decide) (unhide Ox2)) r2 (by simpa using hr2)
                  go_simp
                  clear hv12
                  refine hK.out _ _ trivial (fun _ => ?_)
                  clear hK K
                  try simp only [Act.put, List.setIfInBounds_toArray, List.set_cons_zero, List.set_cons_succ, List.getElem_toArray, List.getElem_cons_zero, List.getElem_cons_succ]
                  refine wpAnyH_ready (rs := [7]) (by kernel_rfl) (by simp) ?_
                  refine AllReadyH.cons rfl (fun K hK => ?_) (AllReadyH.nil)
                  obtain ⟨v1, hv13, _, _⟩ := lit_cell (unhide g1_11) (lit4 (by decide) (by decide) (by decide) (unhide Ox1)) r1 (by simpa using hr1)
                  go_simp
                  clear hv13
                  refine hK.out _ _ trivial (fun _ => ?_)
                  clear hK K
                  try simp only [Act.put, List.setIfInBounds_toArray, List.set_cons_zero, List.set_cons_succ, List.getElem_toArray, List.getElem_cons_zero, List.getElem_cons_succ]
                  refine wpAnyH_take (i := 16) (v := ?vdc95_16) rfl (by kernel_rfl) (by kernel_rfl) (by kernel_rfl) (fun _ _ _ h => h) (Or.inl ⟨by rfl, ?hydc95_16⟩) (by assumption) ?_
                  case hydc95_16 =>
                    intro w hSw
                    try dsimp only at hSw
                    go_simp
                    try with_reducible rfl
                  try simp only [Act.put, List.setIfInBounds_toArray, List.set_cons_zero, List.set_cons_succ, List.getElem_toArray, List.getElem_cons_zero, List.getElem_cons_succ]
                  refine wpAnyH_take (i := 17) (v := ?vdc96_17) rfl (by kernel_rfl) (by kernel_rfl) (by kernel_rfl) (fun _ _ _ h => h) (Or.inl ⟨by rfl, ?hydc96_17⟩) (by assumption) ?_
                  case hydc96_17 =>
                    intro w hSw
                    try dsimp only at hSw
                    go_simp
                    try with_reducible rfl
                  try simp only [Act.put, List.setIfInBounds_toArray, List.set_cons_zero, List.set_cons_succ, List.getElem_toArray, List.getElem_cons_zero, List.getElem_cons_succ]
                  refine wpAnyH_done (by kernel_rfl) ?_ _
                  go_wp2_with fail
                  refine bodyPost_ret (v := .tuple #[.string t, .int .i64 v1, .int .i64 v2]) (by simp [results, Try.results6]) rfl ⟨t, v1, v2, rfl, ht0, unhide W11⟩
            · go_simp
              refine (src_n (z8.alloc (.cells #[.int .i64 0, .int .i64 200, .int .i64 201, .int .i64 x1] 2)) w.heap.size sl n 4 (by decide) hn (unhide S9) ((unhide HD).below (unhide W9))).mono ?_
              rintro e z10 ⟨r2, rfl, hr20, hS10, ht10⟩
              have hr2 : r2 < 4 := by omega
              have hr2i : (r2 : Int) < 4 := by omega
              have S10 := hide hS10
              have W10 := hide ((unhide W9).trans ht10.below)
              have g1_10 := hide ((ht10.block z8.heap.size (by have := unhide ltg1; omega)).trans (unhide g1_9))
              clear hS10 ht10 hr20
              go_wp2_with fail
              refine hK.out _ _ trivial (fun _ => ?_)
              clear hK K
              try simp only [Act.put, List.setIfInBounds_toArray, List.set_cons_zero, List.set_cons_succ, List.getElem_toArray, List.getElem_cons_zero, List.getElem_cons_succ]
              refine wpAnyH_take (i := 15) (v := ?vdc97_15) rfl (by kernel_rfl) (by kernel_rfl) (by kernel_rfl) (fun _ _ _ h => h) (Or.inl ⟨by rfl, ?hydc97_15⟩) (by assumption) ?_
              case hydc97_15 =>
                intro w hSw
                try dsimp only at hSw
                go_simp
                try with_reducible rfl
              try simp only [Act.put, List.setIfInBounds_toArray, List.set_cons_zero, List.set_cons_succ, List.getElem_toArray, List.getElem_cons_zero, List.getElem_cons_succ]
              refine wpAnyH_ready (rs := [7, 10]) (by kernel_rfl) (by simp) ?_
              refine AllReadyH.cons rfl (fun K hK => ?_) (AllReadyH.cons rfl (fun K hK => ?_) (AllReadyH.nil))
              · obtain ⟨v1, hv11, _, _⟩ := lit_cell (unhide g1_10) (lit4 (by decide) (by decide) (by decide) (unhide Ox1)) r1 (by simpa using hr1)
                go_simp
                clear hv11
                refine hK.out _ _ trivial (fun _ => ?_)
                clear hK K
                try simp only [Act.put, List.setIfInBounds_toArray, List.set_cons_zero, List.set_cons_succ, List.getElem_toArray, List.getElem_cons_zero, List.getElem_cons_succ]
                refine wpAnyH_take (i := 16) (v := ?vdc98_16) rfl (by kernel_rfl) (by kernel_rfl) (by kernel_rfl) (fun _ _ _ h => h) (Or.inl ⟨by rfl, ?hydc98_16⟩) (by assumption) ?_
                case hydc98_16 =>
                  intro w hSw
                  try dsimp only at hSw
                  go_simp
                  try with_reducible rfl
                try simp only [Act.put, List.setIfInBounds_toArray, List.set_cons_zero, List.set_cons_succ, List.getElem_toArray, List.getElem_cons_zero, List.getElem_cons_succ]
                refine wpAnyH_ready (rs := [10]) (by kernel_rfl) (by simp) ?_
                refine AllReadyH.cons rfl (fun K hK => ?_) (AllReadyH.nil)
                have hb12 : Below z10.heap.size z10 (z10.alloc (.cells #[.int .i64 (-1), .int .i64 16777215, .int .i64 16777212, .int .i64 x2] 2)) := (Below.refl _ _).alloc (Nat.le_refl _) _
                have ltg2 : Hid (w.heap.size < z10.heap.size) := hide ((unhide S10).lt)
                have S12 := hide ((unhide S10).same (hb12.block _ (unhide S10).lt))
                have W12 := hide ((unhide W10).trans (hb12.mono (unhide W10).size))
                have g1_12 := hide ((hb12.block z8.heap.size (Array.getElem?_eq_some_iff.1 (unhide g1_10)).1).trans (unhide g1_10))
                have g2_12 : Hid ((z10.alloc (.cells #[.int .i64 (-1), .int .i64 16777215, .int .i64 16777212, .int .i64 x2] 2)).heap[z10.heap.size]? = some (.cells #[.int .i64 (-1), .int .i64 16777215, .int .i64 16777212, .int .i64 x2] 2)) := hide (heap_alloc_new z10 (.cells #[.int .i64 (-1), .int .i64 16777215, .int .i64 16777212, .int .i64 x2] 2))
                clear hb12
                go_simp
                refine hK.out _ _ trivial (fun _ => ?_)
                clear hK K
                try simp only [Act.put, List.setIfInBounds_toArray, List.set_cons_zero, List.set_cons_succ, List.getElem_toArray, List.getElem_cons_zero, List.getElem_cons_succ]
                refine wpAnyH_take (i := 13) (v := ?vdc99_13) rfl (by kernel_rfl) (by kernel_rfl) (by kernel_rfl) (fun _ _ _ h => h) (Or.inl ⟨by rfl, ?hydc99_13⟩) (by assumption) ?_
                case hydc99_13 =>
                  intro w hSw
                  try dsimp only at hSw
                  go_simp
                  try with_reducible rfl
                try simp only [Act.put, List.setIfInBounds_toArray, List.set_cons_zero, List.set_cons_succ, List.getElem_toArray, List.getElem_cons_zero, List.getElem_cons_succ]
                refine wpAnyH_ready (rs := [14]) (by kernel_rfl) (by simp) ?_
                refine AllReadyH.cons rfl (fun K hK => ?_) (AllReadyH.nil)
                obtain ⟨v2, hv13, _, _⟩ := lit_cell (unhide g2_12) (lit4 (by decide) (by decide) (by decide) (unhide Ox2)) r2 (by simpa using hr2)
                go_simp
                clear hv13
                refine hK.out _ _ trivial (fun _ => ?_)
                clear hK K
                try simp only [Act.put, List.setIfInBounds_toArray, List.set_cons_zero, List.set_cons_succ, List.getElem_toArray, List.getElem_cons_zero, List.getElem_cons_succ]
                refine wpAnyH_take (i := 17) (v := ?vdc100_17) rfl (by kernel_rfl) (by kernel_rfl) (by kernel_rfl) (fun _ _ _ h => h) (Or.inl ⟨by rfl, ?hydc100_17⟩) (by assumption) ?_
                case hydc100_17 =>
                  intro w hSw
                  try dsimp only at hSw
                  go_simp
                  try with_reducible rfl
                try simp only [Act.put, List.setIfInBounds_toArray, List.set_cons_zero, List.set_cons_succ, List.getElem_toArray, List.getElem_cons_zero, List.getElem_cons_succ]
                refine wpAnyH_done (by kernel_rfl) ?_ _
                go_wp2_with fail
                refine bodyPost_ret (v := .tuple #[.string t, .int .i64 v1, .int .i64 v2]) (by simp [results, Try.results6]) rfl ⟨t, v1, v2, rfl, ht0, unhide W12⟩
              · have hb11 : Below z10.heap.size z10 (z10.alloc (.cells #[.int .i64 (-1), .int .i64 16777215, .int .i64 16777212, .int .i64 x2] 2)) := (Below.refl _ _).alloc (Nat.le_refl _) _
                have ltg2 : Hid (w.heap.size < z10.heap.size) := hide ((unhide S10).lt)
                have S11 := hide ((unhide S10).same (hb11.block _ (unhide S10).lt))
                have W11 := hide ((unhide W10).trans (hb11.mono (unhide W10).size))
                have g1_11 := hide ((hb11.block z8.heap.size (Array.getElem?_eq_some_iff.1 (unhide g1_10)).1).trans (unhide g1_10))
                have g2_11 : Hid ((z10.alloc (.cells #[.int .i64 (-1), .int .i64 16777215, .int .i64 16777212, .int .i64 x2] 2)).heap[z10.heap.size]? = some (.cells #[.int .i64 (-1), .int .i64 16777215, .int .i64 16777212, .int .i64 x2] 2)) := hide (heap_alloc_new z10 (.cells #[.int .i64 (-1), .int .i64 16777215, .int .i64 16777212, .int .i64 x2] 2))
                clear hb11
                go_simp
                refine hK.out _ _ trivial (fun _ => ?_)
                clear hK K
                try simp only [Act.put, List.setIfInBounds_toArray, List.set_cons_zero, List.set_cons_succ, List.getElem_toArray, List.getElem_cons_zero, List.getElem_cons_succ]
                refine wpAnyH_take (i := 13) (v := ?vdc101_13) rfl (by kernel_rfl) (by kernel_rfl) (by kernel_rfl) (fun _ _ _ h => h) (Or.inl ⟨by rfl, ?hydc101_13⟩) (by assumption) ?_
                case hydc101_13 =>
                  intro w hSw
                  try dsimp only at hSw
                  go_simp
                  try with_reducible rfl
                try simp only [Act.put, List.setIfInBounds_toArray, List.set_cons_zero, List.set_cons_succ, List.getElem_toArray, List.getElem_cons_zero, List.getElem_cons_succ]
                refine wpAnyH_ready (rs := [7, 14]) (by kernel_rfl) (by simp) ?_
                refine AllReadyH.cons rfl (fun K hK => ?_) (AllReadyH.cons rfl (fun K hK => ?_) (AllReadyH.nil))
                · obtain ⟨v1, hv12, _, _⟩ := lit_cell (unhide g1_11) (lit4 (by decide) (by decide) (by decide) (unhide Ox1)) r1 (by simpa using hr1)
                  go_simp
                  clear hv12
                  refine hK.out _ _ trivial (fun _ => ?_)
                  clear hK K
                  try simp only [Act.put, List.setIfInBounds_toArray, List.set_cons_zero, List.set_cons_succ, List.getElem_toArray, List.getElem_cons_zero, List.getElem_cons_succ]
                  refine wpAnyH_take (i := 16) (v := ?vdc102_16) rfl (by kernel_rfl) (by kernel_rfl) (by kernel_rfl) (fun _ _ _ h => h) (Or.inl ⟨by rfl, ?hydc102_16⟩) (by assumption) ?_
                  case hydc102_16 =>
                    intro w hSw
                    try dsimp only at hSw
                    go_simp
                    try with_reducible rfl
                  try simp only [Act.put, List.setIfInBounds_toArray, List.set_cons_zero, List.set_cons_succ, List.getElem_toArray, List.getElem_cons_zero, List.getElem_cons_succ]
                  refine wpAnyH_ready (rs := [14]) (by kernel_rfl) (by simp) ?_
                  refine AllReadyH.cons rfl (fun K hK => ?_) (AllReadyH.nil)
                  obtain ⟨v2, hv13, _, _⟩ := lit_cell (unhide g2_11) (lit4 (by decide) (by decide) (by decide) (unhide Ox2)) r2 (by simpa using hr2)
                  go_simp
                  clear hv13
                  refine hK.out _ _ trivial (fun _ => ?_)
                  clear hK K
                  try simp only [Act.put, List.setIfInBounds_toArray, List.set_cons_zero, List.set_cons_succ, List.getElem_toArray, List.getElem_cons_zero, List.getElem_cons_succ]
                  refine wpAnyH_take (i := 17) (v := ?vdc103_17) rfl (by kernel_rfl) (by kernel_rfl) (by kernel_rfl) (fun _ _ _ h => h) (Or.inl ⟨by rfl, ?hydc103_17⟩) (by assumption) ?_
                  case hydc103_17 =>
                    intro w hSw
                    try dsimp only at hSw
                    go_simp
                    try with_reducible rfl
                  try simp only [Act.put, List.setIfInBounds_toArray, List.set_cons_zero, List.set_cons_succ, List.getElem_toArray, List.getElem_cons_zero, List.getElem_cons_succ]
                  refine wpAnyH_done (by kernel_rfl) ?_ _
                  go_wp2_with fail
                  refine bodyPost_ret (v := .tuple #[.string t, .int .i64 v1, .int .i64 v2]) (by simp [results, Try.results6]) rfl ⟨t, v1, v2, rfl, ht0, unhide W11⟩
                · obtain ⟨v2, hv12, _, _⟩ := lit_cell (unhide g2_11) (lit4 (by decide) (by decide) (by decide) (unhide Ox2)) r2 (by simpa using hr2)
                  go_simp
                  clear hv12
                  refine hK.out _ _ trivial (fun _ => ?_)
                  clear hK K
                  try simp only [Act.put, List.setIfInBounds_toArray, List.set_cons_zero, List.set_cons_succ, List.getElem_toArray, List.getElem_cons_zero, List.getElem_cons_succ]
                  refine wpAnyH_ready (rs := [7]) (by kernel_rfl) (by simp) ?_
                  refine AllReadyH.cons rfl (fun K hK => ?_) (AllReadyH.nil)
                  obtain ⟨v1, hv13, _, _⟩ := lit_cell (unhide g1_11) (lit4 (by decide) (by decide) (by decide) (unhide Ox1)) r1 (by simpa using hr1)
                  go_simp
                  clear hv13
                  refine hK.out _ _ trivial (fun _ => ?_)
                  clear hK K
                  try simp only [Act.put, List.setIfInBounds_toArray, List.set_cons_zero, List.set_cons_succ, List.getElem_toArray, List.getElem_cons_zero, List.getElem_cons_succ]
                  refine wpAnyH_take (i := 16) (v := ?vdc104_16) rfl (by kernel_rfl) (by kernel_rfl) (by kernel_rfl) (fun _ _ _ h => h) (Or.inl ⟨by rfl, ?hydc104_16⟩) (by assumption) ?_
                  case hydc104_16 =>
                    intro w hSw
                    try dsimp only at hSw
                    go_simp
                    try with_reducible rfl
                  try simp only [Act.put, List.setIfInBounds_toArray, List.set_cons_zero, List.set_cons_succ, List.getElem_toArray, List.getElem_cons_zero, List.getElem_cons_succ]
                  refine wpAnyH_take (i := 17) (v := ?vdc105_17) rfl (by kernel_rfl) (by kernel_rfl) (by kernel_rfl) (fun _ _ _ h => h) (Or.inl ⟨by rfl, ?hydc105_17⟩) (by assumption) ?_
                  case hydc105_17 =>
                    intro w hSw
                    try dsimp only at hSw
                    go_simp
                    try with_reducible rfl
                  try simp only [Act.put, List.setIfInBounds_toArray, List.set_cons_zero, List.set_cons_succ, List.getElem_toArray, List.getElem_cons_zero, List.getElem_cons_succ]
                  refine wpAnyH_done (by kernel_rfl) ?_ _
                  go_wp2_with fail
                  refine bodyPost_ret (v := .tuple #[.string t, .int .i64 v1, .int .i64 v2]) (by simp [results, Try.results6]) rfl ⟨t, v1, v2, rfl, ht0, unhide W11⟩
          · have hb9 : Below z8.heap.size z8 (z8.alloc (.cells #[.int .i64 (-1), .int .i64 16777215, .int .i64 16777212, .int .i64 x2] 2)) := (Below.refl _ _).alloc (Nat.le_refl _) _
            have ltg2 : Hid (w.heap.size < z8.heap.size) := hide ((unhide S8).lt)
            have S9 := hide ((unhide S8).same (hb9.block _ (unhide S8).lt))
            have W9 := hide ((unhide W8).trans (hb9.mono (unhide W8).size))
            have g2_9 : Hid ((z8.alloc (.cells #[.int .i64 (-1), .int .i64 16777215, .int .i64 16777212, .int .i64 x2] 2)).heap[z8.heap.size]? = some (.cells #[.int .i64 (-1), .int .i64 16777215, .int .i64 16777212, .int .i64 x2] 2)) := hide (heap_alloc_new z8 (.cells #[.int .i64 (-1), .int .i64 16777215, .int .i64 16777212, .int .i64 x2] 2))
            clear hb9
            go_simp
            refine hK.out _ _ trivial (fun _ => ?_)
            clear hK K
            try simp only [Act.put, List.setIfInBounds_toArray, List.set_cons_zero, List.set_cons_succ, List.getElem_toArray, List.getElem_cons_zero, List.getElem_cons_succ]
            refine wpAnyH_ready (rs := [3, 12]) (by kernel_rfl) (by simp) ?_
            refine AllReadyH.cons rfl (fun K hK => ?_) (AllReadyH.cons rfl (fun K hK => ?_) (AllReadyH.nil))
            · have ez10 : (z8.alloc (.cells #[.int .i64 (-1), .int .i64 16777215, .int .i64 16777212, .int .i64 x2] 2)).heap.size = (z8.heap.size + 1) := by simp
              have hb10 : Below (z8.alloc (.cells #[.int .i64 (-1), .int .i64 16777215, .int .i64 16777212, .int .i64 x2] 2)).heap.size (z8.alloc (.cells #[.int .i64 (-1), .int .i64 16777215, .int .i64 16777212, .int .i64 x2] 2)) ((z8.alloc (.cells #[.int .i64 (-1), .int .i64 16777215, .int .i64 16777212, .int .i64 x2] 2)).alloc (.cells #[.int .i64 0, .int .i64 200, .int .i64 201, .int .i64 x1] 2)) := (Below.refl _ _).alloc (Nat.le_refl _) _
              have ltg1 : Hid (w.heap.size < (z8.heap.size + 1)) := hide (Nat.lt_of_lt_of_eq (unhide S9).lt ez10)
              have S10 := hide ((unhide S9).same (hb10.block _ (unhide S9).lt))
              have W10 := hide ((unhide W9).trans (hb10.mono (unhide W9).size))
              have g2_10 := hide ((hb10.block z8.heap.size (Array.getElem?_eq_some_iff.1 (unhide g2_9)).1).trans (unhide g2_9))
              have g1_10 : Hid (((z8.alloc (.cells #[.int .i64 (-1), .int .i64 16777215, .int .i64 16777212, .int .i64 x2] 2)).alloc (.cells #[.int .i64 0, .int .i64 200, .int .i64 201, .int .i64 x1] 2)).heap[(z8.heap.size + 1)]? = some (.cells #[.int .i64 0, .int .i64 200, .int .i64 201, .int .i64 x1] 2)) := hide (by rw [← ez10]; exact heap_alloc_new (z8.alloc (.cells #[.int .i64 (-1), .int .i64 16777215, .int .i64 16777212, .int .i64 x2] 2)) (.cells #[.int .i64 0, .int .i64 200, .int .i64 201, .int .i64 x1] 2))
              clear hb10 ez10
              go_simp
              refine hK.out _ _ trivial (fun _ => ?_)
              clear hK K
              try simp only [Act.put, List.setIfInBounds_toArray, List.set_cons_zero, List.set_cons_succ, List.getElem_toArray, List.getElem_cons_zero, List.getElem_cons_succ]
              refine wpAnyH_take (i := 6) (v := ?vdc106_6) rfl (by kernel_rfl) (by kernel_rfl) (by kernel_rfl) (fun _ _ _ h => h) (Or.inl ⟨by rfl, ?hydc106_6⟩) (by assumption) ?_
              case hydc106_6 =>
                intro w hSw
                try dsimp only at hSw
                go_simp
                try with_reducible rfl
              try simp only [Act.put, List.setIfInBounds_toArray, List.set_cons_zero, List.set_cons_succ, List.getElem_toArray, List.getElem_cons_zero, List.getElem_cons_succ]
              refine wpAnyH_ready (rs := [7, 12]) (by kernel_rfl) (by simp) ?_
              refine AllReadyH.cons rfl (fun K hK => ?_) (AllReadyH.cons rfl (fun K hK => ?_) (AllReadyH.nil))
              · obtain ⟨v1, hv11, _, _⟩ := lit_cell (unhide g1_10) (lit4 (by decide) (by decide) (by decide) (unhide Ox1)) r1 (by simpa using hr1)
                go_simp
                clear hv11
                refine hK.out _ _ trivial (fun _ => ?_)
                clear hK K
                try simp only [Act.put, List.setIfInBounds_toArray, List.set_cons_zero, List.set_cons_succ, List.getElem_toArray, List.getElem_cons_zero, List.getElem_cons_succ]
                refine wpAnyH_ready (rs := [12]) (by kernel_rfl) (by simp) ?_
                refine AllReadyH.cons rfl (fun K hK => ?_) (AllReadyH.nil)
                go_simp
                refine (src_n ((z8.alloc (.cells #[.int .i64 (-1), .int .i64 16777215, .int .i64 16777212, .int .i64 x2] 2)).alloc (.cells #[.int .i64 0, .int .i64 200, .int .i64 201, .int .i64 x1] 2)) w.heap.size sl n 4 (by decide) hn (unhide S10) ((unhide HD).below (unhide W10))).mono ?_
                rintro e z12 ⟨r2, rfl, hr20, hS12, ht12⟩
                have hr2 : r2 < 4 := by omega
                have hr2i : (r2 : Int) < 4 := by omega
                have S12 := hide hS12
                have W12 := hide ((unhide W10).trans ht12.below)
                have g1_12 := hide ((ht12.block (z8.heap.size + 1) (by have := unhide ltg1; omega)).trans (unhide g1_10))
                have g2_12 := hide ((ht12.block z8.heap.size (by have := unhide ltg2; omega)).trans (unhide g2_10))
                clear hS12 ht12 hr20
                go_wp2_with fail
                refine hK.out _ _ trivial (fun _ => ?_)
                clear hK K
                try simp only [Act.put, List.setIfInBounds_toArray, List.set_cons_zero, List.set_cons_succ, List.getElem_toArray, List.getElem_cons_zero, List.getElem_cons_succ]
                refine wpAnyH_take (i := 13) (v := ?vdc107_13) rfl (by kernel_rfl) (by kernel_rfl) (by kernel_rfl) (fun _ _ _ h => h) (Or.inl ⟨by rfl, ?hydc107_13⟩) (by assumption) ?_
                case hydc107_13 =>
                  intro w hSw
                  try dsimp only at hSw
                  go_simp
                  try with_reducible rfl
                try simp only [Act.put, List.setIfInBounds_toArray, List.set_cons_zero, List.set_cons_succ, List.getElem_toArray, List.getElem_cons_zero, List.getElem_cons_succ]
                refine wpAnyH_take (i := 15) (v := ?vdc108_15) rfl (by kernel_rfl) (by kernel_rfl) (by kernel_rfl) (fun _ _ _ h => h) (Or.inl ⟨by rfl, ?hydc108_15⟩) (by assumption) ?_
                case hydc108_15 =>
                  intro w hSw
                  try dsimp only at hSw
                  go_simp
                  try with_reducible rfl
                try simp only [Act.put, List.setIfInBounds_toArray, List.set_cons_zero, List.set_cons_succ, List.getElem_toArray, List.getElem_cons_zero, List.getElem_cons_succ]
                refine wpAnyH_take (i := 16) (v := ?vdc109_16) rfl (by kernel_rfl) (by kernel_rfl) (by kernel_rfl) (fun _ _ _ h => h) (Or.inl ⟨by rfl, ?hydc109_16⟩) (by assumption) ?_
                case hydc109_16 =>
                  intro w hSw
                  try dsimp only at hSw
                  go_simp
                  try with_reducible rfl
                try simp only [Act.put, List.setIfInBounds_toArray, List.set_cons_zero, List.set_cons_succ, List.getElem_toArray, List.getElem_cons_zero, List.getElem_cons_succ]
                refine wpAnyH_ready (rs := [14]) (by kernel_rfl) (by simp) ?_
                refine AllReadyH.cons rfl (fun K hK => ?_) (AllReadyH.nil)
                obtain ⟨v2, hv13, _, _⟩ := lit_cell (unhide g2_12) (lit4 (by decide) (by decide) (by decide) (unhide Ox2)) r2 (by simpa using hr2)
                go_simp
                clear hv13
                refine hK.out _ _ trivial (fun _ => ?_)
                clear hK K
                try simp only [Act.put, List.setIfInBounds_toArray, List.set_cons_zero, List.set_cons_succ, List.getElem_toArray, List.getElem_cons_zero, List.getElem_cons_succ]
                refine wpAnyH_take (i := 17) (v := ?vdc110_17) rfl (by kernel_rfl) (by kernel_rfl) (by kernel_rfl) (fun _ _ _ h => h) (Or.inl ⟨by rfl, ?hydc110_17⟩) (by assumption) ?_
                case hydc110_17 =>
                  intro w hSw
                  try dsimp only at hSw
                  go_simp
                  try with_reducible rfl
                try simp only [Act.put, List.setIfInBounds_toArray, List.set_cons_zero, List.set_cons_succ, List.getElem_toArray, List.getElem_cons_zero, List.getElem_cons_succ]
                refine wpAnyH_done (by kernel_rfl) ?_ _
                go_wp2_with fail
                refine bodyPost_ret (v := .tuple #[.string t, .int .i64 v1, .int .i64 v2]) (by simp [results, Try.results6]) rfl ⟨t, v1, v2, rfl, ht0, unhide W12⟩
              · go_simp
                refine (src_n ((z8.alloc (.cells #[.int .i64 (-1), .int .i64 16777215, .int .i64 16777212, .int .i64 x2] 2)).alloc (.cells #[.int .i64 0, .int .i64 200, .int .i64 201, .int .i64 x1] 2)) w.heap.size sl n 4 (by decide) hn (unhide S10) ((unhide HD).below (unhide W10))).mono ?_
                rintro e z11 ⟨r2, rfl, hr20, hS11, ht11⟩
                have hr2 : r2 < 4 := by omega
                have hr2i : (r2 : Int) < 4 := by omega
                have S11 := hide hS11
                have W11 := hide ((unhide W10).trans ht11.below)
                have g1_11 := hide ((ht11.block (z8.heap.size + 1) (by have := unhide ltg1; omega)).trans (unhide g1_10))
                have g2_11 := hide ((ht11.block z8.heap.size (by have := unhide ltg2; omega)).trans (unhide g2_10))
                clear hS11 ht11 hr20
                go_wp2_with fail
                refine hK.out _ _ trivial (fun _ => ?_)
                clear hK K
                try simp only [Act.put, List.setIfInBounds_toArray, List.set_cons_zero, List.set_cons_succ, List.getElem_toArray, List.getElem_cons_zero, List.getElem_cons_succ]
                refine wpAnyH_take (i := 13) (v := ?vdc111_13) rfl (by kernel_rfl) (by kernel_rfl) (by kernel_rfl) (fun _ _ _ h => h) (Or.inl ⟨by rfl, ?hydc111_13⟩) (by assumption) ?_
                case hydc111_13 =>
                  intro w hSw
                  try dsimp only at hSw
                  go_simp
                  try with_reducible rfl
                try simp only [Act.put, List.setIfInBounds_toArray, List.set_cons_zero, List.set_cons_succ, List.getElem_toArray, List.getElem_cons_zero, List.getElem_cons_succ]
                refine wpAnyH_take (i := 15) (v := ?vdc112_15) rfl (by kernel_rfl) (by kernel_rfl) (by kernel_rfl) (fun _ _ _ h => h) (Or.inl ⟨by rfl, ?hydc112_15⟩) (by assumption) ?_
                case hydc112_15 =>
                  intro w hSw
                  try dsimp only at hSw
                  go_simp
                  try with_reducible rfl
                try simp only [Act.put, List.setIfInBounds_toArray, List.set_cons_zero, List.set_cons_succ, List.getElem_toArray, List.getElem_cons_zero, List.getElem_cons_succ]
                refine wpAnyH_ready (rs := [7, 14]) (by kernel_rfl) (by simp) ?_
                refine AllReadyH.cons rfl (fun K hK => ?_) (AllReadyH.cons rfl (fun K hK => ?_) (AllReadyH.nil))
                · obtain ⟨v1, hv12, _, _⟩ := lit_cell (unhide g1_11) (lit4 (by decide) (by decide) (by decide) (unhide Ox1)) r1 (by simpa using hr1)
                  go_simp
                  clear hv12
                  refine hK.out _ _ trivial (fun _ => ?_)
                  clear hK K
                  try simp only [Act.put, List.setIfInBounds_toArray, List.set_cons_zero, List.set_cons_succ, List.getElem_toArray, List.getElem_cons_zero, List.getElem_cons_succ]
                  refine wpAnyH_take (i := 16) (v := ?vdc113_16) rfl (by kernel_rfl) (by kernel_rfl) (by kernel_rfl) (fun _ _ _ h => h) (Or.inl ⟨by rfl, ?hydc113_16⟩) (by assumption) ?_
                  case hydc113_16 =>
                    intro w hSw
                    try dsimp only at hSw
                    go_simp
                    try with_reducible rfl
                  try simp only [Act.put, List.setIfInBounds_toArray, List.set_cons_zero, List.set_cons_succ, List.getElem_toArray, List.getElem_cons_zero, List.getElem_cons_succ]
                  refine wpAnyH_ready (rs := [14]) (by kernel_rfl) (by simp) ?_
                  refine AllReadyH.cons rfl (fun K hK => ?_) (AllReadyH.nil)
                  obtain ⟨v2, hv13, _, _⟩ := lit_cell (unhide g2_11) (lit4 (by decide) (by decide) (by decide) (unhide Ox2)) r2 (by simpa using hr2)
                  go_simp
                  clear hv13
                  refine hK.out _ _ trivial (fun _ => ?_)
                  clear hK K
                  try simp only [Act.put, List.setIfInBounds_toArray, List.set_cons_zero, List.set_cons_succ, List.getElem_toArray, List.getElem_cons_zero, List.getElem_cons_succ]
                  refine wpAnyH_take (i := 17) (v := ?vdc114_17) rfl (by kernel_rfl) (by kernel_rfl) (by kernel_rfl) (fun _ _ _ h => h) (Or.inl ⟨by rfl, ?hydc114_17⟩) (by assumption) ?_
                  case hydc114_17 =>
                    intro w hSw
                    try dsimp only at hSw
                    go_simp
                    try with_reducible rfl
                  try simp only [Act.put, List.setIfInBounds_toArray, List.set_cons_zero, List.set_cons_succ, List.getElem_toArray, List.getElem_cons_zero, List.getElem_cons_succ]
                  refine wpAnyH_done (by kernel_rfl) ?_ _
                  go_wp2_with fail
                  refine bodyPost_ret (v := .tuple #[.string t, .int .i64 v1, .int .i64 v2]) (by simp [results, Try.results6]) rfl ⟨t, v1, v2, rfl, ht0, unhide W11⟩
                · obtain ⟨v2, hv12, _, _⟩ := lit_cell (unhide g2_11) (lit4 (by decide) (by decide) (by decide) (unhide Ox2)) r2 (by simpa using hr2)
                  go_simp
                  clear hv12
                  refine hK.out _ _ trivial (fun _ => ?_)
                  clear hK K
                  try simp only [Act.put, List.setIfInBounds_toArray, List.set_cons_zero, List.set_cons_succ, List.getElem_toArray, List.getElem_cons_zero, List.getElem_cons_succ]
                  refine wpAnyH_ready (rs := [7]) (by kernel_rfl) (by simp) ?_
                  refine AllReadyH.cons rfl (fun K hK => ?_) (AllReadyH.nil)
                  obtain ⟨v1, hv13, _, _⟩ := lit_cell (unhide g1_11) (lit4 (by decide) (by decide) (by decide) (unhide Ox1)) r1 (by simpa using hr1)
                  go_simp
                  clear hv13
                  refine hK.out _ _ trivial (fun _ => ?_)
                  clear hK K
                  try simp only [Act.put, List.setIfInBounds_toArray, List.set_cons_zero, List.set_cons_succ, List.getElem_toArray, List.getElem_cons_zero, List.getElem_cons_succ]
                  refine wpAnyH_take (i := 16) (v := ?vdc115_16) rfl (by kernel_rfl) (by kernel_rfl) (by kernel_rfl) (fun _ _ _ h => h) (Or.inl ⟨by rfl, ?hydc115_16⟩) (by assumption) ?_
                  case hydc115_16 =>
                    intro w hSw
                    try dsimp only at hSw
                    go_simp
                    try with_reducible rfl
                  try simp only [Act.put, List.setIfInBounds_toArray, List.set_cons_zero, List.set_cons_succ, List.getElem_toArray, List.getElem_cons_zero, List.getElem_cons_succ]
                  refine wpAnyH_take (i := 17) (v := ?vdc116_17) rfl (by kernel_rfl) (by kernel_rfl) (by kernel_rfl) (fun _ _ _ h => h) (Or.inl ⟨by rfl, ?hydc116_17⟩) (by assumption) ?_
                  case hydc116_17 =>
                    intro w hSw
                    try dsimp only at hSw
                    go_simp
                    try with_reducible rfl
                  try simp only [Act.put, List.setIfInBounds_toArray, List.set_cons_zero, List.set_cons_succ, List.getElem_toArray, List.getElem_cons_zero, List.getElem_cons_succ]
                  refine wpAnyH_done (by kernel_rfl) ?_ _
                  go_wp2_with fail
                  refine bodyPost_ret (v := .tuple #[.string t, .int .i64 v1, .int .i64 v2]) (by simp [results, Try.results6]) rfl ⟨t, v1, v2, rfl, ht0, unhide W11⟩
            · go_simp
              refine (src_n (z8.alloc (.cells #[.int .i64 (-1), .int .i64 16777215, .int .i64 16777212, .int .i64 x2] 2)) w.heap.size sl n 4 (by decide) hn (unhide S9) ((unhide HD).below (unhide W9))).mono ?_
              rintro e z10 ⟨r2, rfl, hr20, hS10, ht10⟩
              have hr2 : r2 < 4 := by omega
              have hr2i : (r2 : Int) < 4 := by omega
              have S10 := hide hS10
              have W10 := hide ((unhide W9).trans ht10.below)
              have g2_10 := hide ((ht10.block z8.heap.size (by have := unhide ltg2; omega)).trans (unhide g2_9))
              clear hS10 ht10 hr20
              go_wp2_with fail
              refine hK.out _ _ trivial (fun _ => ?_)
              clear hK K
              try simp only [Act.put, List.setIfInBounds_toArray, List.set_cons_zero, List.set_cons_succ, List.getElem_toArray, List.getElem_cons_zero, List.getElem_cons_succ]
              refine wpAnyH_take (i := 13) (v := ?vdc117_13) rfl (by kernel_rfl) (by kernel_rfl) (by kernel_rfl) (fun _ _ _ h => h) (Or.inl ⟨by rfl, ?hydc117_13⟩) (by assumption) ?_
              case hydc117_13 =>
                intro w hSw
                try dsimp only at hSw
                go_simp
                try with_reducible rfl
              try simp only [Act.put, List.setIfInBounds_toArray, List.set_cons_zero, List.set_cons_succ, List.getElem_toArray, List.getElem_cons_zero, List.getElem_cons_succ]
              refine wpAnyH_take (i := 15) (v := ?vdc118_15) rfl (by kernel_rfl) (by kernel_rfl) (by kernel_rfl) (fun _ _ _ h => h) (Or.inl ⟨by rfl, ?hydc118_15⟩) (by assumption) ?_
              case hydc118_15 =>
                intro w hSw
                try dsimp only at hSw
                go_simp
                try with_reducible rfl
              try simp only [Act.put, List.setIfInBounds_toArray, List.set_cons_zero, List.set_cons_succ, List.getElem_toArray, List.getElem_cons_zero, List.getElem_cons_succ]
              refine wpAnyH_ready (rs := [3, 14]) (by kernel_rfl) (by simp) ?_
              refine AllReadyH.cons rfl (fun K hK => ?_) (AllReadyH.cons rfl (fun K hK => ?_) (AllReadyH.nil))
              · have hb11 : Below z10.heap.size z10 (z10.alloc (.cells #[.int .i64 0, .int .i64 200, .int .i64 201, .int .i64 x1] 2)) := (Below.refl _ _).alloc (Nat.le_refl _) _
                have ltg1 : Hid (w.heap.size < z10.heap.size) := hide ((unhide S10).lt)
                have S11 := hide ((unhide S10).same (hb11.block _ (unhide S10).lt))
                have W11 := hide ((unhide W10).trans (hb11.mono (unhide W10).size))
                have g2_11 := hide ((hb11.block z8.heap.size (Array.getElem?_eq_some_iff.1 (unhide g2_10)).1).trans (unhide g2_10))
                have g1_11 : Hid ((z10.alloc (.cells #[.int .i64 0, .int .i64 200, .int .i64 201, .int .i64 x1] 2)).heap[z10.heap.size]? = some (.cells #[.int .i64 0, .int .i64 200, .int .i64 201, .int .i64 x1] 2)) := hide (heap_alloc_new z10 (.cells #[.int .i64 0, .int .i64 200, .int .i64 201, .int .i64 x1] 2))
                clear hb11
                go_simp
                refine hK.out _ _ trivial (fun _ => ?_)
                clear hK K
                try simp only [Act.put, List.setIfInBounds_toArray, List.set_cons_zero, List.set_cons_succ, List.getElem_toArray, List.getElem_cons_zero, List.getElem_cons_succ]
                refine wpAnyH_take (i := 6) (v := ?vdc119_6) rfl (by kernel_rfl) (by kernel_rfl) (by kernel_rfl) (fun _ _ _ h => h) (Or.inl ⟨by rfl, ?hydc119_6⟩) (by assumption) ?_
                case hydc119_6 =>
                  intro w hSw
                  try dsimp only at hSw
                  go_simp
                  try with_reducible rfl
                try simp only [Act.put, List.setIfInBounds_toArray, List.set_cons_zero, List.set_cons_succ, List.getElem_toArray, List.getElem_cons_zero, List.getElem_cons_succ]
                refine wpAnyH_ready (rs := [7, 14]) (by kernel_rfl) (by simp) ?_
                refine AllReadyH.cons rfl (fun K hK => ?_) (AllReadyH.cons rfl (fun K hK => ?_) (AllReadyH.nil))
                · obtain ⟨v1, hv12, _, _⟩ := lit_cell (unhide g1_11) (lit4 (by decide) (by decide) (by decide) (unhide Ox1)) r1 (by simpa using hr1)
                  go_simp
                  clear hv12
                  refine hK.out _ _ trivial (fun _ => ?_)
                  clear hK K
                  try simp only [Act.put, List.setIfInBounds_toArray, List.set_cons_zero, List.set_cons_succ, List.getElem_toArray, List.getElem_cons_zero, List.getElem_cons_succ]
                  refine wpAnyH_take (i := 16) (v := ?vdc120_16) rfl (by kernel_rfl) (by kernel_rfl) (by kernel_rfl) (fun _ _ _ h => h) (Or.inl ⟨by rfl, ?hydc120_16⟩) (by assumption) ?_
                  case hydc120_16 =>
                    intro w hSw
                    try dsimp only at hSw
                    go_simp
                    try with_reducible rfl
                  try simp only [Act.put, List.setIfInBounds_toArray, List.set_cons_zero, List.set_cons_succ, List.getElem_toArray, List.getElem_cons_zero, List.getElem_cons_succ]
                  refine wpAnyH_ready (rs := [14]) (by kernel_rfl) (by simp) ?_
                  refine AllReadyH.cons rfl (fun K hK => ?_) (AllReadyH.nil)
                  obtain ⟨v2, hv13, _, _⟩ := lit_cell (unhide g2_11) (lit4 (by decide) (by decide) (by decide) (unhide Ox2)) r2 (by simpa using hr2)
                  go_simp
                  clear hv13
                  refine hK.out _ _ trivial (fun _ => ?_)
                  clear hK K
                  try simp only [Act.put, List.setIfInBounds_toArray, List.set_cons_zero, List.set_cons_succ, List.getElem_toArray, List.getElem_cons_zero, List.getElem_cons_succ]
                  refine wpAnyH_take (i := 17) (v := ?vdc121_17) rfl (by kernel_rfl) (by kernel_rfl) (by kernel_rfl) (fun _ _ _ h => h) (Or.inl ⟨by rfl, ?hydc121_17⟩) (by assumption) ?_
                  case hydc121_17 =>
                    intro w hSw
                    try dsimp only at hSw
                    go_simp
                    try with_reducible rfl
                  try simp only [Act.put, List.setIfInBounds_toArray, List.set_cons_zero, List.set_cons_succ, List.getElem_toArray, List.getElem_cons_zero, List.getElem_cons_succ]
                  refine wpAnyH_done (by kernel_rfl) ?_ _
                  go_wp2_with fail
                  refine bodyPost_ret (v := .tuple #[.string t, .int .i64 v1, .int .i64 v2]) (by simp [results, Try.results6]) rfl ⟨t, v1, v2, rfl, ht0, unhide W11⟩
                · obtain ⟨v2, hv12, _, _⟩ := lit_cell (unhide g2_11) (lit4 (by decide) (by decide) (by decide) (unhide Ox2)) r2 (by simpa using hr2)
                  go_simp
                  clear hv12
                  refine hK.out _ _ trivial (fun _ => ?_)
                  clear hK K
                  try simp only [Act.put, List.setIfInBounds_toArray, List.set_cons_zero, List.set_cons_succ, List.getElem_toArray, List.getElem_cons_zero, List.getElem_cons_succ]
                  refine wpAnyH_ready (rs := [7]) (by kernel_rfl) (by simp) ?_
                  refine AllReadyH.cons rfl (fun K hK => ?_) (AllReadyH.nil)
                  obtain ⟨v1, hv13, _, _⟩ := lit_cell (unhide g1_11) (lit4 (by decide) (by decide) (by decide) (unhide Ox1)) r1 (by simpa using hr1)
                  go_simp
                  clear hv13
                  refine hK.out _ _ trivial (fun _ => ?_)
                  clear hK K
                  try simp only [Act.put, List.setIfInBounds_toArray, List.set_cons_zero, List.set_cons_succ, List.getElem_toArray, List.getElem_cons_zero, List.getElem_cons_succ]
                  refine wpAnyH_take (i := 16) (v := ?vdc122_16) rfl (by kernel_rfl) (by kernel_rfl) (by kernel_rfl) (fun _ _ _ h => h) (Or.inl ⟨by rfl, ?hydc122_16⟩) (by assumption) ?_
                  case hydc122_16 =>
                    intro w hSw
                    try dsimp only at hSw
                    go_simp
                    try with_reducible rfl
                  try simp only [Act.put, List.setIfInBounds_toArray, List.set_cons_zero, List.set_cons_succ, List.getElem_toArray, List.getElem_cons_zero, List.getElem_cons_succ]
                  refine wpAnyH_take (i := 17) (v := ?vdc123_17) rfl (by kernel_rfl) (by kernel_rfl) (by kernel_rfl) (fun _ _ _ h => h) (Or.inl ⟨by rfl, ?hydc123_17⟩) (by assumption) ?_
                  case hydc123_17 =>
                    intro w hSw
                    try dsimp only at hSw
                    go_simp
                    try with_reducible rfl
                  try simp only [Act.put, List.setIfInBounds_toArray, List.set_cons_zero, List.set_cons_succ, List.getElem_toArray, List.getElem_cons_zero, List.getElem_cons_succ]
                  refine wpAnyH_done (by kernel_rfl) ?_ _
                  go_wp2_with fail
                  refine bodyPost_ret (v := .tuple #[.string t, .int .i64 v1, .int .i64 v2]) (by simp [results, Try.results6]) rfl ⟨t, v1, v2, rfl, ht0, unhide W11⟩
              · obtain ⟨v2, hv11, _, _⟩ := lit_cell (unhide g2_10) (lit4 (by decide) (by decide) (by decide) (unhide Ox2)) r2 (by simpa using hr2)
                go_simp
                clear hv11
                refine hK.out _ _ trivial (fun _ => ?_)
                clear hK K
                try simp only [Act.put, List.setIfInBounds_toArray, List.set_cons_zero, List.set_cons_succ, List.getElem_toArray, List.getElem_cons_zero, List.getElem_cons_succ]
                refine wpAnyH_ready (rs := [3]) (by kernel_rfl) (by simp) ?_
                refine AllReadyH.cons rfl (fun K hK => ?_) (AllReadyH.nil)
                have hb12 : Below z10.heap.size z10 (z10.alloc (.cells #[.int .i64 0, .int .i64 200, .int .i64 201, .int .i64 x1] 2)) := (Below.refl _ _).alloc (Nat.le_refl _) _
                have ltg1 : Hid (w.heap.size < z10.heap.size) := hide ((unhide S10).lt)
                have S12 := hide ((unhide S10).same (hb12.block _ (unhide S10).lt))
                have W12 := hide ((unhide W10).trans (hb12.mono (unhide W10).size))
                have g2_12 := hide ((hb12.block z8.heap.size (Array.getElem?_eq_some_iff.1 (unhide g2_10)).1).trans (unhide g2_10))
                have g1_12 : Hid ((z10.alloc (.cells #[.int .i64 0, .int .i64 200, .int .i64 201, .int .i64 x1] 2)).heap[z10.heap.size]? = some (.cells #[.int .i64 0, .int .i64 200, .int .i64 201, .int .i64 x1] 2)) := hide (heap_alloc_new z10 (.cells #[.int .i64 0, .int .i64 200, .int .i64 201, .int .i64 x1] 2))
                clear hb12
                go_simp
                refine hK.out _ _ trivial (fun _ => ?_)
                clear hK K
                try simp only [Act.put, List.setIfInBounds_toArray, List.set_cons_zero, List.set_cons_succ, List.getElem_toArray, List.getElem_cons_zero, List.getElem_cons_succ]
                refine wpAnyH_take (i := 6) (v := ?vdc124_6) rfl (by kernel_rfl) (by kernel_rfl) (by kernel_rfl) (fun _ _ _ h => h) (Or.inl ⟨by rfl, ?hydc124_6⟩) (by assumption) ?_
                case hydc124_6 =>
                  intro w hSw
                  try dsimp only at hSw
                  go_simp
                  try with_reducible rfl
                try simp only [Act.put, List.setIfInBounds_toArray, List.set_cons_zero, List.set_cons_succ, List.getElem_toArray, List.getElem_cons_zero, List.getElem_cons_succ]
                refine wpAnyH_ready (rs := [7]) (by kernel_rfl) (by simp) ?_
                refine AllReadyH.cons rfl (fun K hK => ?_) (AllReadyH.nil)
                obtain ⟨v1, hv13, _, _⟩ := lit_cell (unhide g1_12) (lit4 (by decide) (by decide) (by decide) (unhide Ox1)) r1 (by simpa using hr1)
                go_simp
                clear hv13
                refine hK.out _ _ trivial (fun _ => ?_)
                clear hK K
                try simp only [Act.put, List.setIfInBounds_toArray, List.set_cons_zero, List.set_cons_succ, List.getElem_toArray, List.getElem_cons_zero, List.getElem_cons_succ]
                refine wpAnyH_take (i := 16) (v := ?vdc125_16) rfl (by kernel_rfl) (by kernel_rfl) (by kernel_rfl) (fun _ _ _ h => h) (Or.inl ⟨by rfl, ?hydc125_16⟩) (by assumption) ?_
                case hydc125_16 =>
                  intro w hSw
                  try dsimp only at hSw
                  go_simp
                  try with_reducible rfl
                try simp only [Act.put, List.setIfInBounds_toArray, List.set_cons_zero, List.set_cons_succ, List.getElem_toArray, List.getElem_cons_zero, List.getElem_cons_succ]
                refine wpAnyH_take (i := 17) (v := ?vdc126_17) rfl (by kernel_rfl) (by kernel_rfl) (by kernel_rfl) (fun _ _ _ h => h) (Or.inl ⟨by rfl, ?hydc126_17⟩) (by assumption) ?_
                case hydc126_17 =>
                  intro w hSw
                  try dsimp only at hSw
                  go_simp
                  try with_reducible rfl
                try simp only [Act.put, List.setIfInBounds_toArray, List.set_cons_zero, List.set_cons_succ, List.getElem_toArray, List.getElem_cons_zero, List.getElem_cons_succ]
                refine wpAnyH_done (by kernel_rfl) ?_ _
                go_wp2_with fail
                refine bodyPost_ret (v := .tuple #[.string t, .int .i64 v1, .int .i64 v2]) (by simp [results, Try.results6]) rfl ⟨t, v1, v2, rfl, ht0, unhide W12⟩
          · go_simp
            refine (src_n z8 w.heap.size sl n 4 (by decide) hn (unhide S8) ((unhide HD).below (unhide W8))).mono ?_
            rintro e z9 ⟨r2, rfl, hr20, hS9, ht9⟩
            have hr2 : r2 < 4 := by omega
            have hr2i : (r2 : Int) < 4 := by omega
            have S9 := hide hS9
            have W9 := hide ((unhide W8).trans ht9.below)
            clear hS9 ht9 hr20
            go_wp2_with fail
            refine hK.out _ _ trivial (fun _ => ?_)
            clear hK K
            try simp only [Act.put, List.setIfInBounds_toArray, List.set_cons_zero, List.set_cons_succ, List.getElem_toArray, List.getElem_cons_zero, List.getElem_cons_succ]
            refine wpAnyH_take (i := 15) (v := ?vdc127_15) rfl (by kernel_rfl) (by kernel_rfl) (by kernel_rfl) (fun _ _ _ h => h) (Or.inl ⟨by rfl, ?hydc127_15⟩) (by assumption) ?_
            case hydc127_15 =>
              intro w hSw
              try dsimp only at hSw
              go_simp
              try with_reducible rfl
            try simp only [Act.put, List.setIfInBounds_toArray, List.set_cons_zero, List.set_cons_succ, List.getElem_toArray, List.getElem_cons_zero, List.getElem_cons_succ]
            refine wpAnyH_ready (rs := [3, 10]) (by kernel_rfl) (by simp) ?_
            refine AllReadyH.cons rfl (fun K hK => ?_) (AllReadyH.cons rfl (fun K hK => ?_) (AllReadyH.nil))
            · have hb10 : Below z9.heap.size z9 (z9.alloc (.cells #[.int .i64 0, .int .i64 200, .int .i64 201, .int .i64 x1] 2)) := (Below.refl _ _).alloc (Nat.le_refl _) _
              have ltg1 : Hid (w.heap.size < z9.heap.size) := hide ((unhide S9).lt)
              have S10 := hide ((unhide S9).same (hb10.block _ (unhide S9).lt))
              have W10 := hide ((unhide W9).trans (hb10.mono (unhide W9).size))
              have g1_10 : Hid ((z9.alloc (.cells #[.int .i64 0, .int .i64 200, .int .i64 201, .int .i64 x1] 2)).heap[z9.heap.size]? = some (.cells #[.int .i64 0, .int .i64 200, .int .i64 201, .int .i64 x1] 2)) := hide (heap_alloc_new z9 (.cells #[.int .i64 0, .int .i64 200, .int .i64 201, .int .i64 x1] 2))
              clear hb10
              go_simp
              refine hK.out _ _ trivial (fun _ => ?_)
              clear hK K
              try simp only [Act.put, List.setIfInBounds_toArray, List.set_cons_zero, List.set_cons_succ, List.getElem_toArray, List.getElem_cons_zero, List.getElem_cons_succ]
              refine wpAnyH_take (i := 6) (v := ?vdc128_6) rfl (by kernel_rfl) (by kernel_rfl) (by kernel_rfl) (fun _ _ _ h => h) (Or.inl ⟨by rfl, ?hydc128_6⟩) (by assumption) ?_
              case hydc128_6 =>
                intro w hSw
                try dsimp only at hSw
                go_simp
                try with_reducible rfl
              try simp only [Act.put, List.setIfInBounds_toArray, List.set_cons_zero, List.set_cons_succ, List.getElem_toArray, List.getElem_cons_zero, List.getElem_cons_succ]
              refine wpAnyH_ready (rs := [7, 10]) (by kernel_rfl) (by simp) ?_
              refine AllReadyH.cons rfl (fun K hK => ?_) (AllReadyH.cons rfl (fun K hK => ?_) (AllReadyH.nil))
              · obtain ⟨v1, hv11, _, _⟩ := lit_cell (unhide g1_10) (lit4 (by decide) (by decide) (by decide) (unhide Ox1)) r1 (by simpa using hr1)
                go_simp
                clear hv11
                refine hK.out _ _ trivial (fun _ => ?_)
                clear hK K
                try simp only [Act.put, List.setIfInBounds_toArray, List.set_cons_zero, List.set_cons_succ, List.getElem_toArray, List.getElem_cons_zero, List.getElem_cons_succ]
                refine wpAnyH_take (i := 16) (v := ?vdc129_16) rfl (by kernel_rfl) (by kernel_rfl) (by kernel_rfl) (fun _ _ _ h => h) (Or.inl ⟨by rfl, ?hydc129_16⟩) (by assumption) ?_
                case hydc129_16 =>
                  intro w hSw
                  try dsimp only at hSw
                  go_simp
                  try with_reducible rfl
                try simp only [Act.put, List.setIfInBounds_toArray, List.set_cons_zero, List.set_cons_succ, List.getElem_toArray, List.getElem_cons_zero, List.getElem_cons_succ]
                refine wpAnyH_ready (rs := [10]) (by kernel_rfl) (by simp) ?_
                refine AllReadyH.cons rfl (fun K hK => ?_) (AllReadyH.nil)
                have ez12 : (z9.alloc (.cells #[.int .i64 0, .int .i64 200, .int .i64 201, .int .i64 x1] 2)).heap.size = (z9.heap.size + 1) := by simp
                have hb12 : Below (z9.alloc (.cells #[.int .i64 0, .int .i64 200, .int .i64 201, .int .i64 x1] 2)).heap.size (z9.alloc (.cells #[.int .i64 0, .int .i64 200, .int .i64 201, .int .i64 x1] 2)) ((z9.alloc (.cells #[.int .i64 0, .int .i64 200, .int .i64 201, .int .i64 x1] 2)).alloc (.cells #[.int .i64 (-1), .int .i64 16777215, .int .i64 16777212, .int .i64 x2] 2)) := (Below.refl _ _).alloc (Nat.le_refl _) _
                have ltg2 : Hid (w.heap.size < (z9.heap.size + 1)) := hide (Nat.lt_of_lt_of_eq (unhide S10).lt ez12)
                have S12 := hide ((unhide S10).same (hb12.block _ (unhide S10).lt))
                have W12 := hide ((unhide W10).trans (hb12.mono (unhide W10).size))
                have g1_12 := hide ((hb12.block z9.heap.size (Array.getElem?_eq_some_iff.1 (unhide g1_10)).1).trans (unhide g1_10))
                have g2_12 : Hid (((z9.alloc (.cells #[.int .i64 0, .int .i64 200, .int .i64 201, .int .i64 x1] 2)).alloc (.cells #[.int .i64 (-1), .int .i64 16777215, .int .i64 16777212, .int .i64 x2] 2)).heap[(z9.heap.size + 1)]? = some (.cells #[.int .i64 (-1), .int .i64 16777215, .int .i64 16777212, .int .i64 x2] 2)) := hide (by rw [← ez12]; exact heap_alloc_new (z9.alloc (.cells #[.int .i64 0, .int .i64 200, .int .i64 201, .int .i64 x1] 2)) (.cells #[.int .i64 (-1), .int .i64 16777215, .int .i64 16777212, .int .i64 x2] 2))
                clear hb12 ez12
                go_simp
                refine hK.out _ _ trivial (fun _ => ?_)
                clear hK K
                try simp only [Act.put, List.setIfInBounds_toArray, List.set_cons_zero, List.set_cons_succ, List.getElem_toArray, List.getElem_cons_zero, List.getElem_cons_succ]
                refine wpAnyH_take (i := 13) (v := ?vdc130_13) rfl (by kernel_rfl) (by kernel_rfl) (by kernel_rfl) (fun _ _ _ h => h) (Or.inl ⟨by rfl, ?hydc130_13⟩) (by assumption) ?_
                case hydc130_13 =>
                  intro w hSw
                  try dsimp only at hSw
                  go_simp
                  try with_reducible rfl
                try simp only [Act.put, List.setIfInBounds_toArray, List.set_cons_zero, List.set_cons_succ, List.getElem_toArray, List.getElem_cons_zero, List.getElem_cons_succ]
                refine wpAnyH_ready (rs := [14]) (by kernel_rfl) (by simp) ?_
                refine AllReadyH.cons rfl (fun K hK => ?_) (AllReadyH.nil)
                obtain ⟨v2, hv13, _, _⟩ := lit_cell (unhide g2_12) (lit4 (by decide) (by decide) (by decide) (unhide Ox2)) r2 (by simpa using hr2)
                go_simp
                clear hv13
                refine hK.out _ _ trivial (fun _ => ?_)
                clear hK K
                try simp only [Act.put, List.setIfInBounds_toArray, List.set_cons_zero, List.set_cons_succ, List.getElem_toArray, List.getElem_cons_zero, List.getElem_cons_succ]
                refine wpAnyH_take (i := 17) (v := ?vdc131_17) rfl (by kernel_rfl) (by kernel_rfl) (by kernel_rfl) (fun _ _ _ h => h) (Or.inl ⟨by rfl, ?hydc131_17⟩) (by assumption) ?_
                case hydc131_17 =>
                  intro w hSw
                  try dsimp only at hSw
                  go_simp
                  try with_reducible rfl
                try simp only [Act.put, List.setIfInBounds_toArray, List.set_cons_zero, List.set_cons_succ, List.getElem_toArray, List.getElem_cons_zero, List.getElem_cons_succ]
                refine wpAnyH_done (by kernel_rfl) ?_ _
                go_wp2_with fail
                refine bodyPost_ret (v := .tuple #[.string t, .int .i64 v1, .int .i64 v2]) (by simp [results, Try.results6]) rfl ⟨t, v1, v2, rfl, ht0, unhide W12⟩
              · have ez11 : (z9.alloc (.cells #[.int .i64 0, .int .i64 200, .int .i64 201, .int .i64 x1] 2)).heap.size = (z9.heap.size + 1) := by simp
                have hb11 : Below (z9.alloc (.cells #[.int .i64 0, .int .i64 200, .int .i64 201, .int .i64 x1] 2)).heap.size (z9.alloc (.cells #[.int .i64 0, .int .i64 200, .int .i64 201, .int .i64 x1] 2)) ((z9.alloc (.cells #[.int .i64 0, .int .i64 200, .int .i64 201, .int .i64 x1] 2)).alloc (.cells #[.int .i64 (-1), .int .i64 16777215, .int .i64 16777212, .int .i64 x2] 2)) := (Below.refl _ _).alloc (Nat.le_refl _) _
                have ltg2 : Hid (w.heap.size < (z9.heap.size + 1)) := hide (Nat.lt_of_lt_of_eq (unhide S10).lt ez11)
                have S11 := hide ((unhide S10).same (hb11.block _ (unhide S10).lt))
                have W11 := hide ((unhide W10).trans (hb11.mono (unhide W10).size))
                have g1_11 := hide ((hb11.block z9.heap.size (Array.getElem?_eq_some_iff.1 (unhide g1_10)).1).trans (unhide g1_10))
                have g2_11 : Hid (((z9.alloc (.cells #[.int .i64 0, .int .i64 200, .int .i64 201, .int .i64 x1] 2)).alloc (.cells #[.int .i64 (-1), .int .i64 16777215, .int .i64 16777212, .int .i64 x2] 2)).heap[(z9.heap.size + 1)]? = some (.cells #[.int .i64 (-1), .int .i64 16777215, .int .i64 16777212, .int .i64 x2] 2)) := hide (by rw [← ez11]; exact heap_alloc_new (z9.alloc (.cells #[.int .i64 0, .int .i64 200, .int .i64 201, .int .i64 x1] 2)) (.cells #[.int .i64 (-1), .int .i64 16777215, .int .i64 16777212, .int .i64 x2] 2))
                clear hb11 ez11
                go_simp
                refine hK.out _ _ trivial (fun _ => ?_)
                clear hK K
                try simp only [Act.put, List.setIfInBounds_toArray, List.set_cons_zero, List.set_cons_succ, List.getElem_toArray, List.getElem_cons_zero, List.getElem_cons_succ]
                refine wpAnyH_take (i := 13) (v := ?vdc132_13) rfl (by kernel_rfl) (by kernel_rfl) (by kernel_rfl) (fun _ _ _ h => h) (Or.inl ⟨by rfl, ?hydc132_13⟩) (by assumption) ?_
                case hydc132_13 =>
                  intro w hSw
                  try dsimp only at hSw
                  go_simp
                  try with_reducible rfl
                try simp only [Act.put, List.setIfInBounds_toArray, List.set_cons_zero, List.set_cons_succ, List.getElem_toArray, List.getElem_cons_zero, List.getElem_cons_succ]
                refine wpAnyH_ready (rs := [7, 14]) (by kernel_rfl) (by simp) ?_
                refine AllReadyH.cons rfl (fun K hK => ?_) (AllReadyH.cons rfl (fun K hK => ?_) (AllReadyH.nil))
                · obtain ⟨v1, hv12, _, _⟩ := lit_cell (unhide g1_11) (lit4 (by decide) (by decide) (by decide) (unhide Ox1)) r1 (by simpa using hr1)
                  go_simp
                  clear hv12
                  refine hK.out _ _ trivial (fun _ => ?_)
                  clear hK K
                  try simp only [Act.put, List.setIfInBounds_toArray, List.set_cons_zero, List.set_cons_succ, List.getElem_toArray, List.getElem_cons_zero, List.getElem_cons_succ]
                  refine wpAnyH_take (i := 16) (v := ?vdc133_16) rfl (by kernel_rfl) (by kernel_rfl) (by kernel_rfl) (fun _ _ _ h => h) (Or.inl ⟨by rfl, ?hydc133_16⟩) (by assumption) ?_
                  case hydc133_16 =>
                    intro w hSw
                    try dsimp only at hSw
                    go_simp
                    try with_reducible rfl
                  try simp only [Act.put, List.setIfInBounds_toArray, List.set_cons_zero, List.set_cons_succ, List.getElem_toArray, List.getElem_cons_zero, List.getElem_cons_succ]
                  refine wpAnyH_ready (rs := [14]) (by kernel_rfl) (by simp) ?_
                  refine AllReadyH.cons rfl (fun K hK => ?_) (AllReadyH.nil)
                  obtain ⟨v2, hv13, _, _⟩ := lit_cell (unhide g2_11) (lit4 (by decide) (by decide) (by decide) (unhide Ox2)) r2 (by simpa using hr2)
                  go_simp
                  clear hv13
                  refine hK.out _ _ trivial (fun _ => ?_)
                  clear hK K
                  try simp only [Act.put, List.setIfInBounds_toArray, List.set_cons_zero, List.set_cons_succ, List.getElem_toArray, List.getElem_cons_zero, List.getElem_cons_succ]
                  refine wpAnyH_take (i := 17) (v := ?vdc134_17) rfl (by kernel_rfl) (by kernel_rfl) (by kernel_rfl) (fun _ _ _ h => h) (Or.inl ⟨by rfl, ?hydc134_17⟩) (by assumption) ?_
                  case hydc134_17 =>
                    intro w hSw
                    try dsimp only at hSw
                    go_simp
                    try with_reducible rfl
                  try simp only [Act.put, List.setIfInBounds_toArray, List.set_cons_zero, List.set_cons_succ, List.getElem_toArray, List.getElem_cons_zero, List.getElem_cons_succ]
                  refine wpAnyH_done (by kernel_rfl) ?_ _
                  go_wp2_with fail
                  refine bodyPost_ret (v := .tuple #[.string t, .int .i64 v1, .int .i64 v2]) (by simp [results, Try.results6]) rfl ⟨t, v1, v2, rfl, ht0, unhide W11⟩
                · obtain ⟨v2, hv12, _, _⟩ := lit_cell (unhide g2_11) (lit4 (by decide) (by decide) (by decide) (unhide Ox2)) r2 (by simpa using hr2)
                  go_simp
                  clear hv12
                  refine hK.out _ _ trivial (fun _ => ?_)
                  clear hK K
                  try simp only [Act.put, List.setIfInBounds_toArray, List.set_cons_zero, List.set_cons_succ, List.getElem_toArray, List.getElem_cons_zero, List.getElem_cons_succ]
                  refine wpAnyH_ready (rs := [7]) (by kernel_rfl) (by simp) ?_
                  refine AllReadyH.cons rfl (fun K hK => ?_) (AllReadyH.nil)
                  obtain ⟨v1, hv13, _, _⟩ := lit_cell (unhide g1_11) (lit4 (by decide) (by decide) (by decide) (unhide Ox1)) r1 (by simpa using hr1)
                  go_simp
                  clear hv13
                  refine hK.out _ _ trivial (fun _ => ?_)
                  clear hK K
                  try simp only [Act.put, List.setIfInBounds_toArray, List.set_cons_zero, List.set_cons_succ, List.getElem_toArray, List.getElem_cons_zero, List.getElem_cons_succ]
                  refine wpAnyH_take (i := 16) (v := ?vdc135_16) rfl (by kernel_rfl) (by kernel_rfl) (by kernel_rfl) (fun _ _ _ h => h) (Or.inl ⟨by rfl, ?hydc135_16⟩) (by assumption) ?_
                  case hydc135_16 =>
                    intro w hSw
                    try dsimp only at hSw
                    go_simp
                    try with_reducible rfl
                  try simp only [Act.put, List.setIfInBounds_toArray, List.set_cons_zero, List.set_cons_succ, List.getElem_toArray, List.getElem_cons_zero, List.getElem_cons_succ]
                  refine wpAnyH_take (i := 17) (v := ?vdc136_17) rfl (by kernel_rfl) (by kernel_rfl) (by kernel_rfl) (fun _ _ _ h => h) (Or.inl ⟨by rfl, ?hydc136_17⟩) (by assumption) ?_
                  case hydc136_17 =>
                    intro w hSw
                    try dsimp only at hSw
                    go_simp
                    try with_reducible rfl
                  try simp only [Act.put, List.setIfInBounds_toArray, List.set_cons_zero, List.set_cons_succ, List.getElem_toArray, List.getElem_cons_zero, List.getElem_cons_succ]
                  refine wpAnyH_done (by kernel_rfl) ?_ _
                  go_wp2_with fail
                  refine bodyPost_ret (v := .tuple #[.string t, .int .i64 v1, .int .i64 v2]) (by simp [results, Try.results6]) rfl ⟨t, v1, v2, rfl, ht0, unhide W11⟩
            · have hb10 : Below z9.heap.size z9 (z9.alloc (.cells #[.int .i64 (-1), .int .i64 16777215, .int .i64 16777212, .int .i64 x2] 2)) := (Below.refl _ _).alloc (Nat.le_refl _) _
              have ltg2 : Hid (w.heap.size < z9.heap.size) := hide ((unhide S9).lt)
              have S10 := hide ((unhide S9).same (hb10.block _ (unhide S9).lt))
              have W10 := hide ((unhide W9).trans (hb10.mono (unhide W9).size))
              have g2_10 : Hid ((z9.alloc (.cells #[.int .i64 (-1), .int .i64 16777215, .int .i64 16777212, .int .i64 x2] 2)).heap[z9.heap.size]? = some (.cells #[.int .i64 (-1), .int .i64 16777215, .int .i64 16777212, .int .i64 x2] 2)) := hide (heap_alloc_new z9 (.cells #[.int .i64 (-1), .int .i64 16777215, .int .i64 16777212, .int .i64 x2] 2))
              clear hb10
              go_simp
              refine hK.out _ _ trivial (fun _ => ?_)
              clear hK K
              try simp only [Act.put, List.setIfInBounds_toArray, List.set_cons_zero, List.set_cons_succ, List.getElem_toArray, List.getElem_cons_zero, List.getElem_cons_succ]
              refine wpAnyH_take (i := 13) (v := ?vdc137_13) rfl (by kernel_rfl) (by kernel_rfl) (by kernel_rfl) (fun _ _ _ h => h) (Or.inl ⟨by rfl, ?hydc137_13⟩) (by assumption) ?_
              case hydc137_13 =>
                intro w hSw
                try dsimp only at hSw
                go_simp
                try with_reducible rfl
              try simp only [Act.put, List.setIfInBounds_toArray, List.set_cons_zero, List.set_cons_succ, List.getElem_toArray, List.getElem_cons_zero, List.getElem_cons_succ]
              refine wpAnyH_ready (rs := [3, 14]) (by kernel_rfl) (by simp) ?_
              refine AllReadyH.cons rfl (fun K hK => ?_) (AllReadyH.cons rfl (fun K hK => ?_) (AllReadyH.nil))
              · have ez11 : (z9.alloc (.cells #[.int .i64 (-1), .int .i64 16777215, .int .i64 16777212, .int .i64 x2] 2)).heap.size = (z9.heap.size + 1) := by simp
                have hb11 : Below (z9.alloc (.cells #[.int .i64 (-1), .int .i64 16777215, .int .i64 16777212, .int .i64 x2] 2)).heap.size (z9.alloc (.cells #[.int .i64 (-1), .int .i64 16777215, .int .i64 16777212, .int .i64 x2] 2)) ((z9.alloc (.cells #[.int .i64 (-1), .int .i64 16777215, .int .i64 16777212, .int .i64 x2] 2)).alloc (.cells #[.int .i64 0, .int .i64 200, .int .i64 201, .int .i64 x1] 2)) := (Below.refl _ _).alloc (Nat.le_refl _) _
                have ltg1 : Hid (w.heap.size < (z9.heap.size + 1)) := hide (Nat.lt_of_lt_of_eq (unhide S10).lt ez11)
                have S11 := hide ((unhide S10).same (hb11.block _ (unhide S10).lt))
                have W11 := hide ((unhide W10).trans (hb11.mono (unhide W10).size))
                have g2_11 := hide ((hb11.block z9.heap.size (Array.getElem?_eq_some_iff.1 (unhide g2_10)).1).trans (unhide g2_10))
                have g1_11 : Hid (((z9.alloc (.cells #[.int .i64 (-1), .int .i64 16777215, .int .i64 16777212, .int .i64 x2] 2)).alloc (.cells #[.int .i64 0, .int .i64 200, .int .i64 201, .int .i64 x1] 2)).heap[(z9.heap.size + 1)]? = some (.cells #[.int .i64 0, .int .i64 200, .int .i64 201, .int .i64 x1] 2)) := hide (by rw [← ez11]; exact heap_alloc_new (z9.alloc (.cells #[.int .i64 (-1), .int .i64 16777215, .int .i64 16777212, .int .i64 x2] 2)) (.cells #[.int .i64 0, .int .i64 200, .int .i64 201, .int .i64 x1] 2))
                clear hb11 ez11
                go_simp
                refine hK.out _ _ trivial (fun _ => ?_)
                clear hK K
                try simp only [Act.put, List.setIfInBounds_toArray, List.set_cons_zero, List.set_cons_succ, List.getElem_toArray, List.getElem_cons_zero, List.getElem_cons_succ]
                refine wpAnyH_take (i := 6) (v := ?vdc138_6) rfl (by kernel_rfl) (by kernel_rfl) (by kernel_rfl) (fun _ _ _ h => h) (Or.inl ⟨by rfl, ?hydc138_6⟩) (by assumption) ?_
                case hydc138_6 =>
                  intro w hSw
                  try dsimp only at hSw
                  go_simp
                  try with_reducible rfl
                try simp only [Act.put, List.setIfInBounds_toArray, List.set_cons_zero, List.set_cons_succ, List.getElem_toArray, List.getElem_cons_zero, List.getElem_cons_succ]
                refine wpAnyH_ready (rs := [7, 14]) (by kernel_rfl) (by simp) ?_
                refine AllReadyH.cons rfl (fun K hK => ?_) (AllReadyH.cons rfl (fun K hK => ?_) (AllReadyH.nil))
                · obtain ⟨v1, hv12, _, _⟩ := lit_cell (unhide g1_11) (lit4 (by decide) (by decide) (by decide) (unhide Ox1)) r1 (by simpa using hr1)
                  go_simp
                  clear hv12
                  refine hK.out _ _ trivial (fun _ => ?_)
                  clear hK K
                  try simp only [Act.put, List.setIfInBounds_toArray, List.set_cons_zero, List.set_cons_succ, List.getElem_toArray, List.getElem_cons_zero, List.getElem_cons_succ]
                  refine wpAnyH_take (i := 16) (v := ?vdc139_16) rfl (by kernel_rfl) (by kernel_rfl) (by kernel_rfl) (fun _ _ _ h => h) (Or.inl ⟨by rfl, ?hydc139_16⟩) (by assumption) ?_
                  case hydc139_16 =>
                    intro w hSw
                    try dsimp only at hSw
                    go_simp
                    try with_reducible rfl
                  try simp only [Act.put, List.setIfInBounds_toArray, List.set_cons_zero, List.set_cons_succ, List.getElem_toArray, List.getElem_cons_zero, List.getElem_cons_succ]
                  refine wpAnyH_ready (rs := [14]) (by kernel_rfl) (by simp) ?_
                  refine AllReadyH.cons rfl (fun K hK => ?_) (AllReadyH.nil)
                  obtain ⟨v2, hv13, _, _⟩ := lit_cell (unhide g2_11) (lit4 (by decide) (by decide) (by decide) (unhide Ox2)) r2 (by simpa using hr2)
                  go_simp
                  clear hv13
                  refine hK.out _ _ trivial (fun _ => ?_)
                  clear hK K
                  try simp only [Act.put, List.setIfInBounds_toArray, List.set_cons_zero, List.set_cons_succ, List.getElem_toArray, List.getElem_cons_zero, List.getElem_cons_succ]
                  refine wpAnyH_take (i := 17) (v := ?vdc140_17) rfl (by kernel_rfl) (by kernel_rfl) (by kernel_rfl) (fun _ _ _ h => h) (Or.inl ⟨by rfl, ?hydc140_17⟩) (by assumption) ?_
                  case hydc140_17 =>
                    intro w hSw
                    try dsimp only at hSw
                    go_simp
                    try with_reducible rfl
                  try simp only [Act.put, List.setIfInBounds_toArray, List.set_cons_zero, List.set_cons_succ, List.getElem_toArray, List.getElem_cons_zero, List.getElem_cons_succ]
                  refine wpAnyH_done (by kernel_rfl) ?_ _
                  go_wp2_with fail
                  refine bodyPost_ret (v := .tuple #[.string t, .int .i64 v1, .int .i64 v2]) (by simp [results, Try.results6]) rfl ⟨t, v1, v2, rfl, ht0, unhide W11⟩
                · obtain ⟨v2, hv12, _, _⟩ := lit_cell (unhide g2_11) (lit4 (by decide) (by decide) (by decide) (unhide Ox2)) r2 (by simpa using hr2)
                  go_simp
                  clear hv12
                  refine hK.out _ _ trivial (fun _ => ?_)
                  clear hK K
                  try simp only [Act.put, List.setIfInBounds_toArray, List.set_cons_zero, List.set_cons_succ, List.getElem_toArray, List.getElem_cons_zero, List.getElem_cons_succ]
                  refine wpAnyH_ready (rs := [7]) (by kernel_rfl) (by simp) ?_
                  refine AllReadyH.cons rfl (fun K hK => ?_) (AllReadyH.nil)
                  obtain ⟨v1, hv13, _, _⟩ := lit_cell (unhide g1_11) (lit4 (by decide) (by decide) (by decide) (unhide Ox1)) r1 (by simpa using hr1)
                  go_simp
                  clear hv13
                  refine hK.out _ _ trivial (fun _ => ?_)
                  clear hK K
                  try simp only [Act.put, List.setIfInBounds_toArray, List.set_cons_zero, List.set_cons_succ, List.getElem_toArray, List.getElem_cons_zero, List.getElem_cons_succ]
                  refine wpAnyH_take (i := 16) (v := ?vdc141_16) rfl (by kernel_rfl) (by kernel_rfl) (by kernel_rfl) (fun _ _ _ h => h) (Or.inl ⟨by rfl, ?hydc141_16⟩) (by assumption) ?_
                  case hydc141_16 =>
                    intro w hSw
                    try dsimp only at hSw
                    go_simp
                    try with_reducible rfl
                  try simp only [Act.put, List.setIfInBounds_toArray, List.set_cons_zero, List.set_cons_succ, List.getElem_toArray, List.getElem_cons_zero, List.getElem_cons_succ]
                  refine wpAnyH_take (i := 17) (v := ?vdc142_17) rfl (by kernel_rfl) (by kernel_rfl) (by kernel_rfl) (fun _ _ _ h => h) (Or.inl ⟨by rfl, ?hydc142_17⟩) (by assumption) ?_
                  case hydc142_17 =>
                    intro w hSw
                    try dsimp only at hSw
                    go_simp
                    try with_reducible rfl
                  try simp only [Act.put, List.setIfInBounds_toArray, List.set_cons_zero, List.set_cons_succ, List.getElem_toArray, List.getElem_cons_zero, List.getElem_cons_succ]
                  refine wpAnyH_done (by kernel_rfl) ?_ _
                  go_wp2_with fail
                  refine bodyPost_ret (v := .tuple #[.string t, .int .i64 v1, .int .i64 v2]) (by simp [results, Try.results6]) rfl ⟨t, v1, v2, rfl, ht0, unhide W11⟩
              · obtain ⟨v2, hv11, _, _⟩ := lit_cell (unhide g2_10) (lit4 (by decide) (by decide) (by decide) (unhide Ox2)) r2 (by simpa using hr2)
                go_simp
                clear hv11
                refine hK.out _ _ trivial (fun _ => ?_)
                clear hK K
                try simp only [Act.put, List.setIfInBounds_toArray, List.set_cons_zero, List.set_cons_succ, List.getElem_toArray, List.getElem_cons_zero, List.getElem_cons_succ]
                refine wpAnyH_ready (rs := [3]) (by kernel_rfl) (by simp) ?_
                refine AllReadyH.cons rfl (fun K hK => ?_) (AllReadyH.nil)
                have ez12 : (z9.alloc (.cells #[.int .i64 (-1), .int .i64 16777215, .int .i64 16777212, .int .i64 x2] 2)).heap.size = (z9.heap.size + 1) := by simp
                have hb12 : Below (z9.alloc (.cells #[.int .i64 (-1), .int .i64 16777215, .int .i64 16777212, .int .i64 x2] 2)).heap.size (z9.alloc (.cells #[.int .i64 (-1), .int .i64 16777215, .int .i64 16777212, .int .i64 x2] 2)) ((z9.alloc (.cells #[.int .i64 (-1), .int .i64 16777215, .int .i64 16777212, .int .i64 x2] 2)).alloc (.cells #[.int .i64 0, .int .i64 200, .int .i64 201, .int .i64 x1] 2)) := (Below.refl _ _).alloc (Nat.le_refl _) _
                have ltg1 : Hid (w.heap.size < (z9.heap.size + 1)) := hide (Nat.lt_of_lt_of_eq (unhide S10).lt ez12)
                have S12 := hide ((unhide S10).same (hb12.block _ (unhide S10).lt))
                have W12 := hide ((unhide W10).trans (hb12.mono (unhide W10).size))
                have g2_12 := hide ((hb12.block z9.heap.size (Array.getElem?_eq_some_iff.1 (unhide g2_10)).1).trans (unhide g2_10))
                have g1_12 : Hid (((z9.alloc (.cells #[.int .i64 (-1), .int .i64 16777215, .int .i64 16777212, .int .i64 x2] 2)).alloc (.cells #[.int .i64 0, .int .i64 200, .int .i64 201, .int .i64 x1] 2)).heap[(z9.heap.size + 1)]? = some (.cells #[.int .i64 0, .int .i64 200, .int .i64 201, .int .i64 x1] 2)) := hide (by rw [← ez12]; exact heap_alloc_new (z9.alloc (.cells #[.int .i64 (-1), .int .i64 16777215, .int .i64 16777212, .int .i64 x2] 2)) (.cells #[.int .i64 0, .int .i64 200, .int .i64 201, .int .i64 x1] 2))
                clear hb12 ez12
                go_simp
                refine hK.out _ _ trivial (fun _ => ?_)
                clear hK K
                try simp only [Act.put, List.setIfInBounds_toArray, List.set_cons_zero, List.set_cons_succ, List.getElem_toArray, List.getElem_cons_zero, List.getElem_cons_succ]
                refine wpAnyH_take (i := 6) (v := ?vdc143_6) rfl (by kernel_rfl) (by kernel_rfl) (by kernel_rfl) (fun _ _ _ h => h) (Or.inl ⟨by rfl, ?hydc143_6⟩) (by assumption) ?_
                case hydc143_6 =>
                  intro w hSw
                  try dsimp only at hSw
                  go_simp
                  try with_reducible rfl
                try simp only [Act.put, List.setIfInBounds_toArray, List.set_cons_zero, List.set_cons_succ, List.getElem_toArray, List.getElem_cons_zero, List.getElem_cons_succ]
                refine wpAnyH_ready (rs := [7]) (by kernel_rfl) (by simp) ?_
                refine AllReadyH.cons rfl (fun K hK => ?_) (AllReadyH.nil)
                obtain ⟨v1, hv13, _, _⟩ := lit_cell (unhide g1_12) (lit4 (by decide) (by decide) (by decide) (unhide Ox1)) r1 (by simpa using hr1)
                go_simp
                clear hv13
                refine hK.out _ _ trivial (fun _ => ?_)
                clear hK K
                try simp only [Act.put, List.setIfInBounds_toArray, List.set_cons_zero, List.set_cons_succ, List.getElem_toArray, List.getElem_cons_zero, List.getElem_cons_succ]
                refine wpAnyH_take (i := 16) (v := ?vdc144_16) rfl (by kernel_rfl) (by kernel_rfl) (by kernel_rfl) (fun _ _ _ h => h) (Or.inl ⟨by rfl, ?hydc144_16⟩) (by assumption) ?_
                case hydc144_16 =>
                  intro w hSw
                  try dsimp only at hSw
                  go_simp
                  try with_reducible rfl
                try simp only [Act.put, List.setIfInBounds_toArray, List.set_cons_zero, List.set_cons_succ, List.getElem_toArray, List.getElem_cons_zero, List.getElem_cons_succ]
                refine wpAnyH_take (i := 17) (v := ?vdc145_17) rfl (by kernel_rfl) (by kernel_rfl) (by kernel_rfl) (fun _ _ _ h => h) (Or.inl ⟨by rfl, ?hydc145_17⟩) (by assumption) ?_
                case hydc145_17 =>
                  intro w hSw
                  try dsimp only at hSw
                  go_simp
                  try with_reducible rfl
                try simp only [Act.put, List.setIfInBounds_toArray, List.set_cons_zero, List.set_cons_succ, List.getElem_toArray, List.getElem_cons_zero, List.getElem_cons_succ]
                refine wpAnyH_done (by kernel_rfl) ?_ _
                go_wp2_with fail
                refine bodyPost_ret (v := .tuple #[.string t, .int .i64 v1, .int .i64 v2]) (by simp [results, Try.results6]) rfl ⟨t, v1, v2, rfl, ht0, unhide W12⟩
end Go.Proofs.Ytfkeokfmancgiaa
