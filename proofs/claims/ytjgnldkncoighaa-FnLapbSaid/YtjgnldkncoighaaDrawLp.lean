/- The draw of an end of a line, and of a frame that might come; only the drawer and new memory are turned. -/
import Derived.Test.YtjgnldkncoighaaLxA
import Derived.Test.YtjgnldkncoighaaLpU
import Derived.Test.YtjgnldkncoighaaLpK
import Derived.Test.YtjgnldkncoighaaLpI
import Derived.Test.YtjgnldkncoighaaLpN
namespace Go.Proofs.Ytjgnldkncoighaa
open Go.RowKit
set_option linter.unusedSimpArgs false in
set_option maxHeartbeats 16000000 in
set_option maxRecDepth 100000 in
theorem src_lapb (w : World) (B : Nat) (sl : Value) (n : Nat) (hn : n ≤ maxLen) (hS : Src w B sl n) (hD : Dat w B sl n) :
    Calls Try.prog 25 #[.pointer (some ⟨B, 0, none⟩)] w fun e w' => ∃ (p : Lp) (v : Value) (L : List ByteArray) (f : Nb), e = .returned (.tuple #[.agg (lpC p v), nbV f]) ∧ HoldsS w' v L ∧ L.length ≤ 100 ∧ Src w' B sl n ∧ Nigh B w w' := by
  have hBw := hS.lt
  have HS := hide hS
  have HD := hide hD
  clear hS hD
  have DB : Hid (∀ W, Nigh B w W → Dat W B sl n) := hide fun W h => (unhide HD).below (h.below (by omega))
  obtain ⟨hN0, hN1, hb0, hs0⟩ := new2l w (.cells #[.int .i64 0, .int .i64 0, .int .i64 0, .int .i64 0, .slice none 0 0, .bool false] 25) (.cells #[.int .i64 0, .int .i64 0, .int .i64 0, .string ⟨#[]⟩] 30)
  have hS0 := (unhide HS).same (hb0.block B hBw)
  have H0 := hide (And.intro hN0 (And.intro hN1 (And.intro hS0 (Nigh.of_below (B := B) hb0))))
  clear hN0 hN1 hb0 hS0
  go_enter Try.func25, Try.ntmps25
  go_wp2_with fail
  refine (src_n _ B sl n 7 (by decide) hn (unhide H0).2.2.1 (unhide DB _ (unhide H0).2.2.2)).mono ?_
  rintro e w1 ⟨r1, rfl, hr1, hS1, ht1⟩
  have H1 := hide (And.intro ((ht1.block w.heap.size (by omega)).trans (unhide H0).1) (And.intro ((ht1.block (w.heap.size + 1) (by omega)).trans (unhide H0).2.1) (And.intro hS1 ((unhide H0).2.2.2.trans (Nigh.of_touch ht1)))))
  have hl1 : w1.heap.size = w.heap.size + 2 := by rw [ht1.size]; exact hs0
  clear hS1 ht1 hr1 H0 hs0
  go_wp2_with fail
  refine (specLpNew _ w1).mono ?_
  rintro e w2 ⟨rfl, hb2⟩
  have H2 := hide (And.intro ((hb2.block w.heap.size (by omega)).trans (unhide H1).1) (And.intro ((hb2.block (w.heap.size + 1) (by omega)).trans (unhide H1).2.1) (And.intro ((unhide H1).2.2.1.same (hb2.block B (by omega))) ((unhide H1).2.2.2.trans (Nigh.of_below hb2)))))
  have hl2 : w.heap.size + 2 ≤ w2.heap.size := by have := hb2.size; omega
  generalize lpNew _ = pa
  obtain ⟨a1, a2, a3, a4, a5⟩ := pa
  unfold lpC
  dsimp only
  clear hb2 H1
  go_upto_region 2 with fail
  refine gen_world (fun q => q.heap[w.heap.size]? = some (.cells #[.int .i64 0, .int .i64 0, .int .i64 0, .int .i64 0, .slice none 0 0, .bool false] 25) ∧ q.heap[w.heap.size + 1]? = some (.cells #[.int .i64 0, .int .i64 0, .int .i64 0, .string ⟨#[]⟩] 30) ∧ q.heap[w2.heap.size]? = some (.cells #[.int .i64 a1, .int .i64 a2, .int .i64 a3, .int .i64 a4, .slice none 0 0, .bool a5] 25) ∧ Src q B sl n ∧ Nigh B w q ∧ q.heap.size = w2.heap.size + 1)
    ⟨(Below.heap_alloc _ _ _ (by omega)).trans (unhide H2).1, (Below.heap_alloc _ _ _ (by omega)).trans (unhide H2).2.1, heap_alloc_new w2 _, (unhide H2).2.2.1.same (Below.heap_alloc _ _ _ (by omega)), (unhide H2).2.2.2.alloc _, by simp⟩ ?_
  intro q hq
  have HQ := hide hq
  have hql := hq.2.2.2.2.2
  generalize w2.heap.size = ab at *
  clear hq H2 w1 hl1
  go_wp2_with fail
  refine (src_n _ B sl n 7 (by decide) hn (unhide HQ).2.2.2.1 (unhide DB _ (unhide HQ).2.2.2.2.1)).mono ?_
  rintro e w1 ⟨r2, rfl, hr2, hS1, ht1⟩
  have H1 := hide (And.intro ((ht1.block w.heap.size (by omega)).trans (unhide HQ).1) (And.intro ((ht1.block (w.heap.size + 1) (by omega)).trans (unhide HQ).2.1) (And.intro ((ht1.block ab (by omega)).trans (unhide HQ).2.2.1) (And.intro hS1 ((unhide HQ).2.2.2.2.1.trans (Nigh.of_touch ht1))))))
  have hl1 : w1.heap.size = ab + 1 := by rw [ht1.size]; exact hql
  clear hS1 ht1 hr2 HQ hql
  go_wp2_with fail
  refine (specLpNew _ w1).mono ?_
  rintro e w3 ⟨rfl, hb2⟩
  have H2 := hide (And.intro ((hb2.block w.heap.size (by omega)).trans (unhide H1).1) (And.intro ((hb2.block (w.heap.size + 1) (by omega)).trans (unhide H1).2.1) (And.intro ((hb2.block ab (by omega)).trans (unhide H1).2.2.1) (And.intro ((unhide H1).2.2.2.1.same (hb2.block B (by omega))) ((unhide H1).2.2.2.2.trans (Nigh.of_below hb2))))))
  have hl3 : ab + 1 ≤ w3.heap.size := by have := hb2.size; omega
  generalize lpNew _ = pb
  obtain ⟨b1, b2, b3, b4, b5⟩ := pb
  unfold lpC
  dsimp only
  clear hb2 H1
  go_upto_region 3 with fail
  refine gen_world (fun q => q.heap[w.heap.size]? = some (.cells #[.int .i64 0, .int .i64 0, .int .i64 0, .int .i64 0, .slice none 0 0, .bool false] 25) ∧ q.heap[w.heap.size + 1]? = some (.cells #[.int .i64 0, .int .i64 0, .int .i64 0, .string ⟨#[]⟩] 30) ∧ q.heap[ab]? = some (.cells #[.int .i64 a1, .int .i64 a2, .int .i64 a3, .int .i64 a4, .slice none 0 0, .bool a5] 25) ∧ q.heap[w3.heap.size]? = some (.cells #[.int .i64 b1, .int .i64 b2, .int .i64 b3, .int .i64 b4, .slice none 0 0, .bool b5] 25) ∧ Src q B sl n ∧ Nigh B w q ∧ q.heap.size = w3.heap.size + 1)
    ⟨(Below.heap_alloc _ _ _ (by omega)).trans (unhide H2).1, (Below.heap_alloc _ _ _ (by omega)).trans (unhide H2).2.1, (Below.heap_alloc _ _ _ (by omega)).trans (unhide H2).2.2.1, heap_alloc_new w3 _, (unhide H2).2.2.2.1.same (Below.heap_alloc _ _ _ (by omega)), (unhide H2).2.2.2.2.alloc _, by simp⟩ ?_
  intro q2 hq
  have HQ := hide hq
  have hql := hq.2.2.2.2.2.2
  generalize w3.heap.size = bb at *
  clear hq H2 w1 hl1 q
  go_wp2_with fail
  refine (src_frame _ B sl n hn (unhide HQ).2.2.2.2.1 (unhide DB _ (unhide HQ).2.2.2.2.2.1)).mono ?_
  rintro e w4 ⟨f, rfl, _, hS4, hn4⟩
  have hs4 := hn4.size
  have H4 := hide (And.intro ((hn4.block w.heap.size (by omega) (by omega)).trans (unhide HQ).1) (And.intro ((hn4.block (w.heap.size + 1) (by omega) (by omega)).trans (unhide HQ).2.1) (And.intro ((hn4.block ab (by omega) (by omega)).trans (unhide HQ).2.2.1) (And.intro ((hn4.block bb (by omega) (by omega)).trans (unhide HQ).2.2.2.1) (And.intro hS4 ((unhide HQ).2.2.2.2.2.1.trans hn4))))))
  obtain ⟨f1, f2, f3, f4⟩ := f
  dsimp only
  clear hS4 hn4 HQ
  go_upto_region 5 with fail
  refine gen_world (fun q => Ls w B sl n ab bb w4.heap.size 0 (.slice (some ⟨w4.heap.size + 1, 0, none⟩) 0 0) q ∧ q.heap.size = w4.heap.size + 2) ?_ ?_
  · have hs : (w4.alloc (.cells #[.int .i64 f1, .int .i64 f2, .int .i64 f3, .string f4] 30)).heap.size = w4.heap.size + 1 := by simp
    have o : ∀ {E : Nat} {x : Obj}, w4.heap[E]? = some x → ((w4.alloc (.cells #[.int .i64 f1, .int .i64 f2, .int .i64 f3, .string f4] 30)).alloc (.cells #[] 30)).heap[E]? = some x := fun hx => by
      have hE := (Array.getElem?_eq_some_iff.1 hx).1
      rw [Below.heap_alloc _ _ _ (by omega), Below.heap_alloc _ _ _ hE]
      exact hx
    have hF : ((w4.alloc (.cells #[.int .i64 f1, .int .i64 f2, .int .i64 f3, .string f4] 30)).alloc (.cells #[] 30)).heap[w4.heap.size]? = some (.cells #[.int .i64 f1, .int .i64 f2, .int .i64 f3, .string f4] 30) := (Below.heap_alloc _ _ _ (by omega)).trans (heap_alloc_new w4 _)
    have hK : ((w4.alloc (.cells #[.int .i64 f1, .int .i64 f2, .int .i64 f3, .string f4] 30)).alloc (.cells #[] 30)).heap[w4.heap.size + 1]? = some (.cells #[] 30) := by
      rw [← hs]
      exact heap_alloc_new _ _
    have hBq := (unhide H4).2.2.2.2.1
    refine ⟨⟨⟨a1, a2, a3, a4, a5⟩, ⟨b1, b2, b3, b4, b5⟩, .slice none 0 0, .slice none 0 0, [], [], ⟨f1, f2, f3, f4⟩, [], ⟨o (unhide H4).1, o (unhide H4).2.1, o (unhide H4).2.2.1, o (unhide H4).2.2.2.1, hF, holdsR_nil _, Nat.zero_le _, holdsS_nil _ _ _, Nat.zero_le _, Or.inr ⟨w4.heap.size + 1, 0, 0, #[], rfl, hK, Nat.le_refl _, Nat.le_refl _, Nat.le_refl _, fun j hj => by simp at hj⟩, ?_, ?_, fun g hg => by cases hg⟩, Nat.le_refl _⟩, by simp⟩
    · refine hBq.same ?_
      rw [Below.heap_alloc _ _ _ (by have := hBq.lt; omega), Below.heap_alloc _ _ _ hBq.lt]
    · exact ((unhide H4).2.2.2.2.2.alloc _).alloc _
  rintro q3 ⟨hq3, hq3s⟩
  have HL : Hid (Lay8 w B ab bb w4.heap.size) := hide ⟨hBw, by omega, by omega, by omega⟩
  generalize w4.heap.size = fb at *
  have HQ := hide hq3
  clear hq3 H4 q2 hql hs4 hl2 hl3
  go_wp2_with fail
  refine (src_n _ B sl n 16 (by decide) hn (unhide HQ).src (unhide DB _ (unhide HQ).nigh)).mono ?_
  rintro e w5 ⟨r5, rfl, hr5, hS5, ht5⟩
  have H5 := hide ((unhide HQ).step (unhide HL) (Nigh.of_touch ht5) hS5)
  have hr16 : r5 ≤ 16 := by omega
  clear hS5 ht5 HQ hr5 hq3s
  go_upto_region 6 with fail
  go_loopg [7, 8] r5 (fun k x y wr => y = .int .i64 (k : Nat) ∧ k ≤ 16 ∧ Ls w B sl n ab bb fb ((16 - k) * 100) x wr)
  case atStart => exact ⟨rfl, hr16, (unhide H5).mono (Nat.zero_le _)⟩
  case round =>
    obtain ⟨rfl, hk, hls⟩ := hrel
    have HQ := hide hls
    clear hls H5
    rcases gk with _ | k
    · obtain ⟨pa, pb, va, vb, La, Lb, f, Bk, hL0, hm⟩ := unhide HQ
      have hla := hL0.la
      obtain ⟨xa, ya, eva⟩ := hL0.ha.form
      subst eva
      obtain ⟨xk, yk, evk⟩ := hL0.k.form
      subst evk
      have HL0 := hide hL0
      clear hL0 HQ
      go_upto_region 34 with fail
      go_cut [115] (fun v wx => ∃ b : Bool, v = .bool b ∧ (b = true → Bk ≠ []) ∧ Lst w wx B sl n ab bb fb (.slice xk Bk.length yk) pa pb (.slice xa La.length ya) vb La Lb f Bk)
      case first =>
        as_aux_lemma =>
          cases Bk with
          | nil =>
            have d0 : ¬ ((0 : Int) < (([] : List Nb).length : Int)) := by simp
            go_wp2_with fail
            go_meet
            exact ⟨false, rfl, fun h => (by cases h), unhide HL0⟩
          | cons b0 Bk =>
            have d0 : (0 : Int) < ((b0 :: Bk).length : Int) := by simp
            generalize (b0 :: Bk).length = lk at *
            go_wp2_with fail
            refine (src_one _ B sl n 4 (by decide) hn (unhide HL0).s (unhide DB _ (unhide HL0).g)).mono ?_
            rintro e w10 ⟨b, rfl, hS10, ht10⟩
            have H10 := hide ((unhide HL0).step (unhide HL) (Nigh.of_touch ht10) hS10)
            clear hS10 ht10 HL0
            go_wp2_with fail
            go_meet
            exact ⟨!b, rfl, fun _ => (by simp), unhide H10⟩
      case rest =>
        obtain ⟨b, e115, hbk, hL1⟩ := hcut
        subst e115
        have HL1 := hide hL1
        clear hL1 HL0
        go_upto_if 115 with fail
        go_cut [] (fun wx => ∃ f9, Rst w wx B sl n ab fb pa (.slice xa La.length ya) La f9)
        case first =>
          as_aux_lemma =>
            cases b
            · go_wp2_with fail
              go_meet
              exact ⟨_, (unhide HL1).rst⟩
            · obtain ⟨g, o, cp, ek, hg1, hg2, e0, e1, e2, e3⟩ := (unhide HL1).k.get 0 (List.length_pos_iff.2 (hbk rfl))
              rw [Nat.zero_mul, Nat.add_zero] at e0 e1 e2 e3
              have hpos : 0 < Bk.length := List.length_pos_iff.2 (hbk rfl)
              have hb0 : Bk[0] = Bk[0] := rfl
              generalize Bk[0] = fr at e0 e1 e2 e3
              obtain ⟨t1, t2, t3, t4⟩ := fr
              dsimp only at e0 e1 e2 e3
              simp only [Value.slice.injEq] at ek
              obtain ⟨ek, _, ec⟩ := ek
              subst ec
              subst ek
              obtain ⟨c0, c1, c2, c3, f0, f1', f2', f3'⟩ := row4 (unhide HL1).f
              have d0 : (0 : Int) < (Bk.length : Int) := by omega
              go_wp2_with fail
              go_meet
              exact ⟨⟨t1, t2, t3, t4⟩, (unhide HL1).rst.putF (unhide HL) (touch4 _ _ _ _) (set4_x (unhide HL1).f _ _ _ _)⟩
        case rest =>
          clear HL1 hbk hm
          obtain ⟨f9, hR⟩ := hcut
          have HR := hide hR
          clear hR
          go_wp2_with fail
          refine (src_one _ B sl n 20 (by decide) hn (unhide HR).s (unhide DB _ (unhide HR).g)).mono ?_
          rintro e w11 ⟨b11, rfl, hS11, ht11⟩
          have H11 := hide ((unhide HR).step (unhide HL) (Nigh.of_touch ht11) hS11)
          clear hS11 ht11 HR
          go_upto_if 120 with fail
          go_cut [] (fun wx => ∃ p9 v9 L9, Rst w wx B sl n ab fb p9 v9 L9 f9 ∧ L9.length ≤ 22)
          case first =>
            as_aux_lemma =>
              cases b11
              · go_wp2_with fail
                go_meet
                exact ⟨_, _, _, unhide H11, by omega⟩
              · go_wp2_with fail
                refine (src_n _ B sl n 4 (by decide) hn (unhide H11).s (unhide DB _ (unhide H11).g)).mono ?_
                rintro e w12 ⟨k12, rfl, hk12, hS12, ht12⟩
                have H12 := hide ((unhide H11).step (unhide HL) (Nigh.of_touch ht12) hS12)
                have hk4 : k12 = 0 ∨ k12 = 1 ∨ k12 = 2 ∨ k12 = 3 := by omega
                have hB4 := hS12.lt
                clear hS12 ht12 H11 hk12
                obtain ⟨p1, p2, p3, p4, p5⟩ := pa
                have hxl : ab < w12.heap.size := (Array.getElem?_eq_some_iff.1 (unhide H12).a).1
                have hne : ¬ (ab = w12.heap.size) := by omega
                have hne2 : ¬ (w12.heap.size = ab) := by omega
                have lB := (unhide HL).B
                have la := (unhide HL).a
                rcases hk4 with rfl | rfl | rfl | rfl
                · go_wp2_with fail
                  have hnq : Nigh B w (w12.alloc (.cells #[.int .i64 0, .int .i64 7, .int .i64 8] 2)) := (unhide H12).g.alloc _
                  have hsq : Src (w12.alloc (.cells #[.int .i64 0, .int .i64 7, .int .i64 8] 2)) B sl n := (unhide H12).s.same (Below.heap_alloc _ _ _ hB4)
                  refine (src_n _ B sl n 3 (by decide) hn hsq (unhide DB _ hnq)).mono ?_
                  rintro e w5 ⟨r5, rfl, hr5, hS5, ht5⟩
                  have hr5' : r5 < 3 := by omega
                  obtain ⟨v5, hv5, _, _⟩ := lit_cell ((ht5.block w12.heap.size (by omega)).trans (heap_alloc_new w12 _)) (by decide) r5 (by simpa using hr5')
                  have hO5 := ((unhide H12).step (unhide HL) (Nigh.of_alloc _) hsq).step (unhide HL) (Nigh.of_touch ht5) hS5
                  have cA := hO5.a
                  unfold lpC at cA
                  dsimp only at cA
                  obtain ⟨c0, c1, c2, c3, c4, c5⟩ := row6l cA
                  obtain ⟨z0, z1, z2, z3, z4, z5⟩ := frz6l cA
                  have HO := hide (hO5.putA (p' := ⟨v5, p2, p3, p4, p5⟩) (unhide HL) ((Touch.refl ab w5).setCell 0 (.int .i64 v5)) (heap_setCell_same _ _ 0 _ _ _ cA))
                  clear hnq hsq hr5 hS5 ht5 hO5 cA
                  go_wp2_with fail
                  go_meet
                  exact ⟨_, _, _, unhide HO, by omega⟩
                · go_wp2_with fail
                  refine (src_n _ B sl n 10 (by decide) hn (unhide H12).s (unhide DB _ (unhide H12).g)).mono ?_
                  rintro e w5 ⟨r5, rfl, hr5, hS5, ht5⟩
                  have hO5 := (unhide H12).step (unhide HL) (Nigh.of_touch ht5) hS5
                  have cA := hO5.a
                  unfold lpC at cA
                  dsimp only at cA
                  obtain ⟨c0, c1, c2, c3, c4, c5⟩ := row6l cA
                  obtain ⟨z0, z1, z2, z3, z4, z5⟩ := frz6l cA
                  have H5 := hide (And.intro hO5 cA)
                  clear hS5 ht5 hO5 cA
                  go_wp2_with fail
                  go_meet
                  exact ⟨_, _, _, (unhide H5).1.putA (p' := ⟨p1, _, p3, p4, p5⟩) (unhide HL) ((Touch.refl ab w5).setCell 1 _) (heap_setCell_same _ _ 1 _ _ _ (unhide H5).2), by omega⟩
                · as_aux_lemma =>
                    go_upto_region 45 with fail
                    refine wp_region_held_drew (S := fun _ => True) (by kernel_rfl) trivial (fun hHeld => ?_)
                    have R0 := hide ((unhide H12).step (unhide HL) (Nigh.of_below (B := B) ((Below.refl w12.heap.size w12).drew)) ((unhide H12).s.same rfl))
                    generalize w12.drew = yy at R0 hHeld ⊢
                    refine wpAnyH_take (i := 0) (v := ?va0) rfl (by kernel_rfl) (by kernel_rfl) (by kernel_rfl) (fun _ _ _ h => h) (Or.inl ⟨by rfl, ?hya0⟩) (by assumption) ?_
                    case hya0 =>
                      intro w hSw
                      try dsimp only at hSw
                      go_simp
                      try with_reducible rfl
                    try simp only [Act.put, List.setIfInBounds_toArray, List.set_cons_zero, List.set_cons_succ, List.getElem_toArray, List.getElem_cons_zero]
                    refine wpAnyH_take (i := 2) (v := ?vb2) rfl (by kernel_rfl) (by kernel_rfl) (by kernel_rfl) (fun _ _ _ h => h) (Or.inl ⟨by rfl, ?hyb2⟩) (by assumption) ?_
                    case hyb2 =>
                      intro w hSw
                      try dsimp only at hSw
                      go_simp
                      try with_reducible rfl
                    try simp only [Act.put, List.setIfInBounds_toArray, List.set_cons_zero, List.set_cons_succ, List.getElem_toArray, List.getElem_cons_zero, List.getElem_cons_succ]
                    refine wpAnyH_ready (rs := [1, 3]) (by kernel_rfl) (by simp) ?_
                    refine AllReadyH.cons rfl (fun K hK => ?_) (AllReadyH.cons rfl (fun K hK => ?_) (AllReadyH.nil))
                    · obtain ⟨c4, _⟩ := Rst.q4 (unhide R0).a
                      go_simp
                      clear c4
                      refine hK.out _ _ trivial (fun _ => ?_)
                      clear hK K
                      try simp only [Act.put, List.setIfInBounds_toArray, List.set_cons_zero, List.set_cons_succ, List.getElem_toArray, List.getElem_cons_zero, List.getElem_cons_succ]
                      refine wpAnyH_ready (rs := [3]) (by kernel_rfl) (by simp) ?_
                      refine AllReadyH.cons rfl (fun K hK => ?_) (AllReadyH.nil)
                      go_simp
                      refine (src_n yy B sl n 2 (by decide) hn (unhide R0).s (unhide DB _ (unhide R0).g)).mono ?_
                      rintro e z1 ⟨r5, rfl, hr5, hS5, ht5⟩
                      have hr5' : r5 < 2 := by omega
                      have R1 := hide ((unhide R0).step (unhide HL) (Nigh.of_touch ht5) hS5)
                      clear hr5 hS5 ht5
                      go_wp2_with fail
                      refine hK.out _ _ trivial (fun _ => ?_)
                      clear hK K
                      try simp only [Act.put, List.setIfInBounds_toArray, List.set_cons_zero, List.set_cons_succ, List.getElem_toArray, List.getElem_cons_zero, List.getElem_cons_succ]
                      refine wpAnyH_take (i := 4) (v := ?vt24) rfl (by kernel_rfl) (by kernel_rfl) (by kernel_rfl) (fun _ _ _ h => h) (Or.inl ⟨by rfl, ?hyt24⟩) (by assumption) ?_
                      case hyt24 =>
                        intro w hSw
                        try dsimp only at hSw
                        go_simp
                        try with_reducible rfl
                      try simp only [Act.put, List.setIfInBounds_toArray, List.set_cons_zero, List.set_cons_succ, List.getElem_toArray, List.getElem_cons_zero, List.getElem_cons_succ]
                      refine wpAnyH_ready (rs := [5]) (by kernel_rfl) (by simp) ?_
                      refine AllReadyH.cons rfl (fun K hK => ?_) (AllReadyH.nil)
                      refine step_make z1 (by rfl) _ _ (by rfl) (200 + r5) _ (by rfl) (by rfl) (by rw [wrapS _ (by omega) (by omega)]; omega) (by omega) ?_
                      rintro z2 ho6 hg6
                      have hcv := conv_own ho6
                      have hb6 : Below z1.heap.size z1 z2 := (Below.refl _ _).grown hg6 (Nat.le_refl _) (fun k hk => by cases hk)
                      have R2 := hide ((unhide R1).step (unhide HL) (Nigh.of_below hb6) ((unhide R1).s.same (hb6.block B (unhide R1).s.lt)))
                      clear ho6 hg6 hb6
                      refine hK.out _ _ trivial (fun _ => ?_)
                      clear hK K
                      try simp only [Act.put, List.setIfInBounds_toArray, List.set_cons_zero, List.set_cons_succ, List.getElem_toArray, List.getElem_cons_zero, List.getElem_cons_succ]
                      refine wpAnyH_ready (rs := [6]) (by kernel_rfl) (by simp) ?_
                      refine AllReadyH.cons rfl (fun K hK => ?_) (AllReadyH.nil)
                      go_simp
                      refine hK.out _ _ trivial (fun _ => ?_)
                      clear hK K
                      try simp only [Act.put, List.setIfInBounds_toArray, List.set_cons_zero, List.set_cons_succ, List.getElem_toArray, List.getElem_cons_zero, List.getElem_cons_succ]
                      generalize (strOfNums (List.replicate (200 + r5) 0)) = t5 at *
                      clear hcv
                      refine wpAnyH_ready (rs := [7]) (by kernel_rfl) (by simp) ?_
                      refine AllReadyH.cons rfl (fun K hK => ?_) (AllReadyH.nil)
                      go_simp
                      have R3 := hide ((unhide R2).alloc (unhide HL) (.cells #[.string t5] 9))
                      refine hK.out _ _ trivial (fun _ => ?_)
                      clear hK K
                      try simp only [Act.put, List.setIfInBounds_toArray, List.set_cons_zero, List.set_cons_succ, List.getElem_toArray, List.getElem_cons_zero, List.getElem_cons_succ]
                      refine wpAnyH_ready (rs := [8]) (by kernel_rfl) (by simp) ?_
                      refine AllReadyH.cons rfl (fun K hK => ?_) (AllReadyH.nil)
                      refine step_append_q (z2.alloc (.cells #[.string t5] 9)) (by rfl) _ _ (by rfl) w.heap.size (.slice xa La.length ya) La t5 z2.heap.size (by rfl) (by rfl) ((unhide R3).ha.q (unhide R3).oa) (by rw [cell_of_row _ _ _ _ _ _ (heap_alloc_new z2 (.cells #[.string t5] 9))]; rfl) (by omega) (unhide R3).g.size ?_
                      rintro v5 z5 hq5 hg5
                      obtain ⟨a5, c5, ev5⟩ := hq5.form
                      rw [List.length_append, List.length_singleton] at ev5
                      subst ev5
                      have RF := hide ((unhide R3).putQ (unhide HL) hq5 hg5)
                      obtain ⟨c4, f4'⟩ := Rst.q4 ((unhide R3).keepA hg5)
                      clear hq5 hg5
                      refine hK.out _ _ trivial (fun _ => ?_)
                      clear hK K
                      try simp only [Act.put, List.setIfInBounds_toArray, List.set_cons_zero, List.set_cons_succ, List.getElem_toArray, List.getElem_cons_zero, List.getElem_cons_succ]
                      refine wpAnyH_take (i := 9) (v := ?vs69) rfl (by kernel_rfl) (by kernel_rfl) (by kernel_rfl) (fun _ _ _ h => h) (Or.inl ⟨by rfl, ?hys69⟩) (by assumption) ?_
                      case hys69 =>
                        intro w hSw
                        try dsimp only at hSw
                        go_simp
                        try with_reducible rfl
                      try simp only [Act.put, List.setIfInBounds_toArray, List.set_cons_zero, List.set_cons_succ, List.getElem_toArray, List.getElem_cons_zero, List.getElem_cons_succ]
                      refine wpAnyH_ready (rs := [10]) (by kernel_rfl) (by simp) ?_
                      refine AllReadyH.cons rfl (fun K hK => ?_) (AllReadyH.nil)
                      go_simp
                      refine hK.out _ _ trivial (fun _ => ?_)
                      clear hK K
                      try simp only [Act.put, List.setIfInBounds_toArray, List.set_cons_zero, List.set_cons_succ, List.getElem_toArray, List.getElem_cons_zero, List.getElem_cons_succ]
                      refine wpAnyH_done (by kernel_rfl) ?_ _
                      go_wp2_with fail
                      go_meet
                      exact ⟨_, _, _, unhide RF, by rw [List.length_append]; simp; omega⟩
                    · go_simp
                      refine (src_n yy B sl n 2 (by decide) hn (unhide R0).s (unhide DB _ (unhide R0).g)).mono ?_
                      rintro e z1 ⟨r5, rfl, hr5, hS5, ht5⟩
                      have hr5' : r5 < 2 := by omega
                      have R1 := hide ((unhide R0).step (unhide HL) (Nigh.of_touch ht5) hS5)
                      clear hr5 hS5 ht5
                      go_wp2_with fail
                      refine hK.out _ _ trivial (fun _ => ?_)
                      clear hK K
                      try simp only [Act.put, List.setIfInBounds_toArray, List.set_cons_zero, List.set_cons_succ, List.getElem_toArray, List.getElem_cons_zero, List.getElem_cons_succ]
                      refine wpAnyH_take (i := 4) (v := ?vt14) rfl (by kernel_rfl) (by kernel_rfl) (by kernel_rfl) (fun _ _ _ h => h) (Or.inl ⟨by rfl, ?hyt14⟩) (by assumption) ?_
                      case hyt14 =>
                        intro w hSw
                        try dsimp only at hSw
                        go_simp
                        try with_reducible rfl
                      try simp only [Act.put, List.setIfInBounds_toArray, List.set_cons_zero, List.set_cons_succ, List.getElem_toArray, List.getElem_cons_zero, List.getElem_cons_succ]
                      refine wpAnyH_ready (rs := [1, 5]) (by kernel_rfl) (by simp) ?_
                      refine AllReadyH.cons rfl (fun K hK => ?_) (AllReadyH.cons rfl (fun K hK => ?_) (AllReadyH.nil))
                      · obtain ⟨c4, _⟩ := Rst.q4 (unhide R1).a
                        go_simp
                        clear c4
                        refine hK.out _ _ trivial (fun _ => ?_)
                        clear hK K
                        try simp only [Act.put, List.setIfInBounds_toArray, List.set_cons_zero, List.set_cons_succ, List.getElem_toArray, List.getElem_cons_zero, List.getElem_cons_succ]
                        refine wpAnyH_ready (rs := [5]) (by kernel_rfl) (by simp) ?_
                        refine AllReadyH.cons rfl (fun K hK => ?_) (AllReadyH.nil)
                        refine step_make z1 (by rfl) _ _ (by rfl) (200 + r5) _ (by rfl) (by rfl) (by rw [wrapS _ (by omega) (by omega)]; omega) (by omega) ?_
                        rintro z2 ho6 hg6
                        have hcv := conv_own ho6
                        have hb6 : Below z1.heap.size z1 z2 := (Below.refl _ _).grown hg6 (Nat.le_refl _) (fun k hk => by cases hk)
                        have R2 := hide ((unhide R1).step (unhide HL) (Nigh.of_below hb6) ((unhide R1).s.same (hb6.block B (unhide R1).s.lt)))
                        clear ho6 hg6 hb6
                        refine hK.out _ _ trivial (fun _ => ?_)
                        clear hK K
                        try simp only [Act.put, List.setIfInBounds_toArray, List.set_cons_zero, List.set_cons_succ, List.getElem_toArray, List.getElem_cons_zero, List.getElem_cons_succ]
                        refine wpAnyH_ready (rs := [6]) (by kernel_rfl) (by simp) ?_
                        refine AllReadyH.cons rfl (fun K hK => ?_) (AllReadyH.nil)
                        go_simp
                        refine hK.out _ _ trivial (fun _ => ?_)
                        clear hK K
                        try simp only [Act.put, List.setIfInBounds_toArray, List.set_cons_zero, List.set_cons_succ, List.getElem_toArray, List.getElem_cons_zero, List.getElem_cons_succ]
                        generalize (strOfNums (List.replicate (200 + r5) 0)) = t5 at *
                        clear hcv
                        refine wpAnyH_ready (rs := [7]) (by kernel_rfl) (by simp) ?_
                        refine AllReadyH.cons rfl (fun K hK => ?_) (AllReadyH.nil)
                        go_simp
                        have R3 := hide ((unhide R2).alloc (unhide HL) (.cells #[.string t5] 9))
                        refine hK.out _ _ trivial (fun _ => ?_)
                        clear hK K
                        try simp only [Act.put, List.setIfInBounds_toArray, List.set_cons_zero, List.set_cons_succ, List.getElem_toArray, List.getElem_cons_zero, List.getElem_cons_succ]
                        refine wpAnyH_ready (rs := [8]) (by kernel_rfl) (by simp) ?_
                        refine AllReadyH.cons rfl (fun K hK => ?_) (AllReadyH.nil)
                        refine step_append_q (z2.alloc (.cells #[.string t5] 9)) (by rfl) _ _ (by rfl) w.heap.size (.slice xa La.length ya) La t5 z2.heap.size (by rfl) (by rfl) ((unhide R3).ha.q (unhide R3).oa) (by rw [cell_of_row _ _ _ _ _ _ (heap_alloc_new z2 (.cells #[.string t5] 9))]; rfl) (by omega) (unhide R3).g.size ?_
                        rintro v5 z5 hq5 hg5
                        obtain ⟨a5, c5, ev5⟩ := hq5.form
                        rw [List.length_append, List.length_singleton] at ev5
                        subst ev5
                        have RF := hide ((unhide R3).putQ (unhide HL) hq5 hg5)
                        obtain ⟨c4, f4'⟩ := Rst.q4 ((unhide R3).keepA hg5)
                        clear hq5 hg5
                        refine hK.out _ _ trivial (fun _ => ?_)
                        clear hK K
                        try simp only [Act.put, List.setIfInBounds_toArray, List.set_cons_zero, List.set_cons_succ, List.getElem_toArray, List.getElem_cons_zero, List.getElem_cons_succ]
                        refine wpAnyH_take (i := 9) (v := ?vs119) rfl (by kernel_rfl) (by kernel_rfl) (by kernel_rfl) (fun _ _ _ h => h) (Or.inl ⟨by rfl, ?hys119⟩) (by assumption) ?_
                        case hys119 =>
                          intro w hSw
                          try dsimp only at hSw
                          go_simp
                          try with_reducible rfl
                        try simp only [Act.put, List.setIfInBounds_toArray, List.set_cons_zero, List.set_cons_succ, List.getElem_toArray, List.getElem_cons_zero, List.getElem_cons_succ]
                        refine wpAnyH_ready (rs := [10]) (by kernel_rfl) (by simp) ?_
                        refine AllReadyH.cons rfl (fun K hK => ?_) (AllReadyH.nil)
                        go_simp
                        refine hK.out _ _ trivial (fun _ => ?_)
                        clear hK K
                        try simp only [Act.put, List.setIfInBounds_toArray, List.set_cons_zero, List.set_cons_succ, List.getElem_toArray, List.getElem_cons_zero, List.getElem_cons_succ]
                        refine wpAnyH_done (by kernel_rfl) ?_ _
                        go_wp2_with fail
                        go_meet
                        exact ⟨_, _, _, unhide RF, by rw [List.length_append]; simp; omega⟩
                      · refine step_make z1 (by rfl) _ _ (by rfl) (200 + r5) _ (by rfl) (by rfl) (by rw [wrapS _ (by omega) (by omega)]; omega) (by omega) ?_
                        rintro z2 ho6 hg6
                        have hcv := conv_own ho6
                        have hb6 : Below z1.heap.size z1 z2 := (Below.refl _ _).grown hg6 (Nat.le_refl _) (fun k hk => by cases hk)
                        have R2 := hide ((unhide R1).step (unhide HL) (Nigh.of_below hb6) ((unhide R1).s.same (hb6.block B (unhide R1).s.lt)))
                        clear ho6 hg6 hb6
                        refine hK.out _ _ trivial (fun _ => ?_)
                        clear hK K
                        try simp only [Act.put, List.setIfInBounds_toArray, List.set_cons_zero, List.set_cons_succ, List.getElem_toArray, List.getElem_cons_zero, List.getElem_cons_succ]
                        refine wpAnyH_ready (rs := [1, 6]) (by kernel_rfl) (by simp) ?_
                        refine AllReadyH.cons rfl (fun K hK => ?_) (AllReadyH.cons rfl (fun K hK => ?_) (AllReadyH.nil))
                        · obtain ⟨c4, _⟩ := Rst.q4 (unhide R2).a
                          go_simp
                          clear c4
                          refine hK.out _ _ trivial (fun _ => ?_)
                          clear hK K
                          try simp only [Act.put, List.setIfInBounds_toArray, List.set_cons_zero, List.set_cons_succ, List.getElem_toArray, List.getElem_cons_zero, List.getElem_cons_succ]
                          refine wpAnyH_ready (rs := [6]) (by kernel_rfl) (by simp) ?_
                          refine AllReadyH.cons rfl (fun K hK => ?_) (AllReadyH.nil)
                          go_simp
                          refine hK.out _ _ trivial (fun _ => ?_)
                          clear hK K
                          try simp only [Act.put, List.setIfInBounds_toArray, List.set_cons_zero, List.set_cons_succ, List.getElem_toArray, List.getElem_cons_zero, List.getElem_cons_succ]
                          generalize (strOfNums (List.replicate (200 + r5) 0)) = t5 at *
                          clear hcv
                          refine wpAnyH_ready (rs := [7]) (by kernel_rfl) (by simp) ?_
                          refine AllReadyH.cons rfl (fun K hK => ?_) (AllReadyH.nil)
                          go_simp
                          have R3 := hide ((unhide R2).alloc (unhide HL) (.cells #[.string t5] 9))
                          refine hK.out _ _ trivial (fun _ => ?_)
                          clear hK K
                          try simp only [Act.put, List.setIfInBounds_toArray, List.set_cons_zero, List.set_cons_succ, List.getElem_toArray, List.getElem_cons_zero, List.getElem_cons_succ]
                          refine wpAnyH_ready (rs := [8]) (by kernel_rfl) (by simp) ?_
                          refine AllReadyH.cons rfl (fun K hK => ?_) (AllReadyH.nil)
                          refine step_append_q (z2.alloc (.cells #[.string t5] 9)) (by rfl) _ _ (by rfl) w.heap.size (.slice xa La.length ya) La t5 z2.heap.size (by rfl) (by rfl) ((unhide R3).ha.q (unhide R3).oa) (by rw [cell_of_row _ _ _ _ _ _ (heap_alloc_new z2 (.cells #[.string t5] 9))]; rfl) (by omega) (unhide R3).g.size ?_
                          rintro v5 z5 hq5 hg5
                          obtain ⟨a5, c5, ev5⟩ := hq5.form
                          rw [List.length_append, List.length_singleton] at ev5
                          subst ev5
                          have RF := hide ((unhide R3).putQ (unhide HL) hq5 hg5)
                          obtain ⟨c4, f4'⟩ := Rst.q4 ((unhide R3).keepA hg5)
                          clear hq5 hg5
                          refine hK.out _ _ trivial (fun _ => ?_)
                          clear hK K
                          try simp only [Act.put, List.setIfInBounds_toArray, List.set_cons_zero, List.set_cons_succ, List.getElem_toArray, List.getElem_cons_zero, List.getElem_cons_succ]
                          refine wpAnyH_take (i := 9) (v := ?vs159) rfl (by kernel_rfl) (by kernel_rfl) (by kernel_rfl) (fun _ _ _ h => h) (Or.inl ⟨by rfl, ?hys159⟩) (by assumption) ?_
                          case hys159 =>
                            intro w hSw
                            try dsimp only at hSw
                            go_simp
                            try with_reducible rfl
                          try simp only [Act.put, List.setIfInBounds_toArray, List.set_cons_zero, List.set_cons_succ, List.getElem_toArray, List.getElem_cons_zero, List.getElem_cons_succ]
                          refine wpAnyH_ready (rs := [10]) (by kernel_rfl) (by simp) ?_
                          refine AllReadyH.cons rfl (fun K hK => ?_) (AllReadyH.nil)
                          go_simp
                          refine hK.out _ _ trivial (fun _ => ?_)
                          clear hK K
                          try simp only [Act.put, List.setIfInBounds_toArray, List.set_cons_zero, List.set_cons_succ, List.getElem_toArray, List.getElem_cons_zero, List.getElem_cons_succ]
                          refine wpAnyH_done (by kernel_rfl) ?_ _
                          go_wp2_with fail
                          go_meet
                          exact ⟨_, _, _, unhide RF, by rw [List.length_append]; simp; omega⟩
                        · go_simp
                          refine hK.out _ _ trivial (fun _ => ?_)
                          clear hK K
                          try simp only [Act.put, List.setIfInBounds_toArray, List.set_cons_zero, List.set_cons_succ, List.getElem_toArray, List.getElem_cons_zero, List.getElem_cons_succ]
                          generalize (strOfNums (List.replicate (200 + r5) 0)) = t5 at *
                          clear hcv
                          refine wpAnyH_ready (rs := [1, 7]) (by kernel_rfl) (by simp) ?_
                          refine AllReadyH.cons rfl (fun K hK => ?_) (AllReadyH.cons rfl (fun K hK => ?_) (AllReadyH.nil))
                          · obtain ⟨c4, _⟩ := Rst.q4 (unhide R2).a
                            go_simp
                            clear c4
                            refine hK.out _ _ trivial (fun _ => ?_)
                            clear hK K
                            try simp only [Act.put, List.setIfInBounds_toArray, List.set_cons_zero, List.set_cons_succ, List.getElem_toArray, List.getElem_cons_zero, List.getElem_cons_succ]
                            refine wpAnyH_ready (rs := [7]) (by kernel_rfl) (by simp) ?_
                            refine AllReadyH.cons rfl (fun K hK => ?_) (AllReadyH.nil)
                            go_simp
                            have R3 := hide ((unhide R2).alloc (unhide HL) (.cells #[.string t5] 9))
                            refine hK.out _ _ trivial (fun _ => ?_)
                            clear hK K
                            try simp only [Act.put, List.setIfInBounds_toArray, List.set_cons_zero, List.set_cons_succ, List.getElem_toArray, List.getElem_cons_zero, List.getElem_cons_succ]
                            refine wpAnyH_ready (rs := [8]) (by kernel_rfl) (by simp) ?_
                            refine AllReadyH.cons rfl (fun K hK => ?_) (AllReadyH.nil)
                            refine step_append_q (z2.alloc (.cells #[.string t5] 9)) (by rfl) _ _ (by rfl) w.heap.size (.slice xa La.length ya) La t5 z2.heap.size (by rfl) (by rfl) ((unhide R3).ha.q (unhide R3).oa) (by rw [cell_of_row _ _ _ _ _ _ (heap_alloc_new z2 (.cells #[.string t5] 9))]; rfl) (by omega) (unhide R3).g.size ?_
                            rintro v5 z5 hq5 hg5
                            obtain ⟨a5, c5, ev5⟩ := hq5.form
                            rw [List.length_append, List.length_singleton] at ev5
                            subst ev5
                            have RF := hide ((unhide R3).putQ (unhide HL) hq5 hg5)
                            obtain ⟨c4, f4'⟩ := Rst.q4 ((unhide R3).keepA hg5)
                            clear hq5 hg5
                            refine hK.out _ _ trivial (fun _ => ?_)
                            clear hK K
                            try simp only [Act.put, List.setIfInBounds_toArray, List.set_cons_zero, List.set_cons_succ, List.getElem_toArray, List.getElem_cons_zero, List.getElem_cons_succ]
                            refine wpAnyH_take (i := 9) (v := ?vs189) rfl (by kernel_rfl) (by kernel_rfl) (by kernel_rfl) (fun _ _ _ h => h) (Or.inl ⟨by rfl, ?hys189⟩) (by assumption) ?_
                            case hys189 =>
                              intro w hSw
                              try dsimp only at hSw
                              go_simp
                              try with_reducible rfl
                            try simp only [Act.put, List.setIfInBounds_toArray, List.set_cons_zero, List.set_cons_succ, List.getElem_toArray, List.getElem_cons_zero, List.getElem_cons_succ]
                            refine wpAnyH_ready (rs := [10]) (by kernel_rfl) (by simp) ?_
                            refine AllReadyH.cons rfl (fun K hK => ?_) (AllReadyH.nil)
                            go_simp
                            refine hK.out _ _ trivial (fun _ => ?_)
                            clear hK K
                            try simp only [Act.put, List.setIfInBounds_toArray, List.set_cons_zero, List.set_cons_succ, List.getElem_toArray, List.getElem_cons_zero, List.getElem_cons_succ]
                            refine wpAnyH_done (by kernel_rfl) ?_ _
                            go_wp2_with fail
                            go_meet
                            exact ⟨_, _, _, unhide RF, by rw [List.length_append]; simp; omega⟩
                          · go_simp
                            have R3 := hide ((unhide R2).alloc (unhide HL) (.cells #[.string t5] 9))
                            refine hK.out _ _ trivial (fun _ => ?_)
                            clear hK K
                            try simp only [Act.put, List.setIfInBounds_toArray, List.set_cons_zero, List.set_cons_succ, List.getElem_toArray, List.getElem_cons_zero, List.getElem_cons_succ]
                            refine wpAnyH_ready (rs := [1]) (by kernel_rfl) (by simp) ?_
                            refine AllReadyH.cons rfl (fun K hK => ?_) (AllReadyH.nil)
                            obtain ⟨c4, _⟩ := Rst.q4 (unhide R3).a
                            go_simp
                            clear c4
                            refine hK.out _ _ trivial (fun _ => ?_)
                            clear hK K
                            try simp only [Act.put, List.setIfInBounds_toArray, List.set_cons_zero, List.set_cons_succ, List.getElem_toArray, List.getElem_cons_zero, List.getElem_cons_succ]
                            refine wpAnyH_ready (rs := [8]) (by kernel_rfl) (by simp) ?_
                            refine AllReadyH.cons rfl (fun K hK => ?_) (AllReadyH.nil)
                            refine step_append_q (z2.alloc (.cells #[.string t5] 9)) (by rfl) _ _ (by rfl) w.heap.size (.slice xa La.length ya) La t5 z2.heap.size (by rfl) (by rfl) ((unhide R3).ha.q (unhide R3).oa) (by rw [cell_of_row _ _ _ _ _ _ (heap_alloc_new z2 (.cells #[.string t5] 9))]; rfl) (by omega) (unhide R3).g.size ?_
                            rintro v5 z5 hq5 hg5
                            obtain ⟨a5, c5, ev5⟩ := hq5.form
                            rw [List.length_append, List.length_singleton] at ev5
                            subst ev5
                            have RF := hide ((unhide R3).putQ (unhide HL) hq5 hg5)
                            obtain ⟨c4, f4'⟩ := Rst.q4 ((unhide R3).keepA hg5)
                            clear hq5 hg5
                            refine hK.out _ _ trivial (fun _ => ?_)
                            clear hK K
                            try simp only [Act.put, List.setIfInBounds_toArray, List.set_cons_zero, List.set_cons_succ, List.getElem_toArray, List.getElem_cons_zero, List.getElem_cons_succ]
                            refine wpAnyH_take (i := 9) (v := ?vs209) rfl (by kernel_rfl) (by kernel_rfl) (by kernel_rfl) (fun _ _ _ h => h) (Or.inl ⟨by rfl, ?hys209⟩) (by assumption) ?_
                            case hys209 =>
                              intro w hSw
                              try dsimp only at hSw
                              go_simp
                              try with_reducible rfl
                            try simp only [Act.put, List.setIfInBounds_toArray, List.set_cons_zero, List.set_cons_succ, List.getElem_toArray, List.getElem_cons_zero, List.getElem_cons_succ]
                            refine wpAnyH_ready (rs := [10]) (by kernel_rfl) (by simp) ?_
                            refine AllReadyH.cons rfl (fun K hK => ?_) (AllReadyH.nil)
                            go_simp
                            refine hK.out _ _ trivial (fun _ => ?_)
                            clear hK K
                            try simp only [Act.put, List.setIfInBounds_toArray, List.set_cons_zero, List.set_cons_succ, List.getElem_toArray, List.getElem_cons_zero, List.getElem_cons_succ]
                            refine wpAnyH_done (by kernel_rfl) ?_ _
                            go_wp2_with fail
                            go_meet
                            exact ⟨_, _, _, unhide RF, by rw [List.length_append]; simp; omega⟩
                · as_aux_lemma =>
                    go_upto_region 38 with fail
                    go_loopg [] (22 - La.length) (fun g wr => ∃ v L, Rst w wr B sl n ab fb ⟨p1, p2, p3, p4, p5⟩ v L f9 ∧ L.length + g = 22)
                    case atStart => exact ⟨_, _, unhide H12, by omega⟩
                    case round =>
                      obtain ⟨v, L, hr, hl⟩ := hrel
                      obtain ⟨x4, y4, ev⟩ := hr.ha.form
                      subst ev
                      obtain ⟨c4, _⟩ := Rst.q4 hr.a
                      have HR := hide hr
                      clear hr H12
                      go_upto_region 38 with fail
                      go_cut [129] (fun t wx => ∃ b : Bool, t = .bool b ∧ Rst w wx B sl n ab fb ⟨p1, p2, p3, p4, p5⟩ (.slice x4 L.length y4) L f9 ∧ (b = true → L.length < 22))
                      case first =>
                        go_region_with (first
                          | (go_at_call 27
                             refine (src_n wr.drew B sl n 3 (by decide) hn ((unhide HR).s.same rfl) ((unhide HD).below (((unhide HR).g.below (by omega)).drew))).mono ?_
                             rintro e w7 ⟨r7, rfl, hr7, hS7, ht7⟩
                             have hr7' : r7 < 3 := by omega
                             have H7 := hide ((unhide HR).step (unhide HL) (Nigh.of_touch ⟨ht7.os, ht7.tape, ht7.output, ht7.size, ht7.block⟩) hS7)
                             obtain ⟨d4, _⟩ := Rst.q4 (unhide H7).a
                             clear hS7 ht7 hr7))
                        all_goals
                          go_wp2_with fail
                          go_meet
                          exact ⟨_, rfl, unhide H7, fun h => by simp at h; have := wrapS (19 + (r7 : Int)) (by omega) (by omega); omega⟩
                      case rest =>
                        obtain ⟨b, e129, hr, hbl⟩ := hcut
                        subst e129
                        clear HR c4
                        obtain ⟨c4, f4'⟩ := Rst.q4 hr.a
                        have HR := hide hr
                        clear hr
                        cases b
                        · go_wp2_with fail
                          go_meet
                          exact ⟨_, _, _, unhide HR, by omega⟩
                        · have hlt := hbl rfl
                          have hbase := (unhide HR).g.size
                          have hxl : ab < wc.heap.size := (Array.getElem?_eq_some_iff.1 (unhide HR).a).1
                          have hne : ¬ (ab = wc.heap.size) := by omega
                          have hne2 : ¬ (wc.heap.size = ab) := by omega
                          have HA := hide ((unhide HR).alloc (unhide HL) (.cells #[.string ⟨#[120]⟩] 9))
                          have HC : Hid ((wc.alloc (.cells #[.string ⟨#[120]⟩] 9)).cell? ⟨wc.heap.size, 0, none⟩ = some (.string ⟨#[120]⟩)) := hide (by rw [cell_of_row _ _ _ _ _ _ (heap_alloc_new wc _)]; rfl)
                          go_wp2_with (first
                            | (at_builtin
                               refine append_qw rfl _ _ rfl w.heap.size _ L ⟨#[120]⟩ wc.heap.size rfl rfl ((unhide HA).ha.q (unhide HA).oa) (unhide HC) (by omega) (unhide HA).g.size ?_
                               rintro v5 z5 hq5 hg5
                               obtain ⟨a5, c5, ev5⟩ := hq5.form
                               rw [List.length_append, List.length_singleton] at ev5
                               subst ev5
                               have RF := hide ((unhide HA).putQ (unhide HL) hq5 hg5)
                               obtain ⟨d4, g4'⟩ := Rst.q4 ((unhide HA).keepA hg5)
                               clear hq5 hg5))
                          go_roundg (gk - 1)
                          case measure => omega
                          case rel => exact ⟨_, _, unhide RF, by rw [List.length_append]; simp; omega⟩
          case rest =>
            obtain ⟨⟨p1, p2, p3, p4, p5⟩, v9, L9, hR9, hl9⟩ := hcut
            clear H11
            obtain ⟨x9, y9, ev⟩ := hR9.ha.form
            subst ev
            obtain ⟨f1, f2, f3, f4⟩ := f9
            have l2 := (unhide HL).a
            have l3 := (unhide HL).b
            have l4 := (unhide HL).f
            have hRd := hR9.step (unhide HL) (Nigh.of_below (B := B) ((Below.refl wc.heap.size wc).drew)) (hR9.s.same rfl)
            have SZ : Hid (∀ z : World, z.heap[ab]? = some (.cells #[.int .i64 p1, .int .i64 p2, .int .i64 p3, .int .i64 p4, .slice x9 L9.length y9, .bool p5] 25) → z.heap[fb]? = some (.cells #[.int .i64 f1, .int .i64 f2, .int .i64 f3, .string f4] 30) → z.cell? ⟨ab, 0, none⟩ = some (.int .i64 p1) ∧ z.cell? ⟨ab, 1, none⟩ = some (.int .i64 p2) ∧ z.cell? ⟨ab, 2, none⟩ = some (.int .i64 p3) ∧ z.cell? ⟨ab, 3, none⟩ = some (.int .i64 p4) ∧ z.cell? ⟨ab, 4, none⟩ = some (.slice x9 L9.length y9) ∧ z.cell? ⟨ab, 5, none⟩ = some (.bool p5) ∧ z.cell? ⟨fb, 0, none⟩ = some (.int .i64 f1) ∧ z.cell? ⟨fb, 1, none⟩ = some (.int .i64 f2) ∧ z.cell? ⟨fb, 2, none⟩ = some (.int .i64 f3) ∧ z.cell? ⟨fb, 3, none⟩ = some (.string f4)) := hide fun z ha hf => ⟨(row6l ha).1, (row6l ha).2.1, (row6l ha).2.2.1, (row6l ha).2.2.2.1, (row6l ha).2.2.2.2.1, (row6l ha).2.2.2.2.2, (row4 hf).1, (row4 hf).2.1, (row4 hf).2.2.1, (row4 hf).2.2.2.1⟩
            have HRd := hide hRd
            clear hRd hR9
            go_upto_region 46 with fail
            refine wp_region_held_drew (S := fun z => z.cell? ⟨ab, 0, none⟩ = some (.int .i64 p1) ∧ z.cell? ⟨ab, 1, none⟩ = some (.int .i64 p2) ∧ z.cell? ⟨ab, 2, none⟩ = some (.int .i64 p3) ∧ z.cell? ⟨ab, 3, none⟩ = some (.int .i64 p4) ∧ z.cell? ⟨ab, 4, none⟩ = some (.slice x9 L9.length y9) ∧ z.cell? ⟨ab, 5, none⟩ = some (.bool p5) ∧ z.cell? ⟨fb, 0, none⟩ = some (.int .i64 f1) ∧ z.cell? ⟨fb, 1, none⟩ = some (.int .i64 f2) ∧ z.cell? ⟨fb, 2, none⟩ = some (.int .i64 f3) ∧ z.cell? ⟨fb, 3, none⟩ = some (.string f4)) (by kernel_rfl) (unhide SZ _ (unhide HRd).a (unhide HRd).f) (fun hHeld => ?_)
            generalize wc.drew = yy at HRd hHeld ⊢
            refine wpAnyH_take (i := 0) (v := ?vfa0) rfl (by kernel_rfl) (by kernel_rfl) (by kernel_rfl) (fun _ _ _ h => h) (Or.inl ⟨by rfl, ?hyfa0⟩) (by assumption) ?_
            case hyfa0 =>
              intro w hSw
              try dsimp only at hSw
              go_simp
              try with_reducible rfl
            try simp only [Act.put, List.setIfInBounds_toArray, List.set_cons_zero, List.set_cons_succ, List.getElem_toArray, List.getElem_cons_zero]
            refine wpAnyH_take (i := 1) (v := ?vfb1) rfl (by kernel_rfl) (by kernel_rfl) (by kernel_rfl) (fun _ _ _ h => h) (Or.inl ⟨by rfl, ?hyfb1⟩) (by assumption) ?_
            case hyfb1 =>
              intro w hSw
              try dsimp only at hSw
              go_simp
              try with_reducible rfl
            try simp only [Act.put, List.setIfInBounds_toArray, List.set_cons_zero, List.set_cons_succ, List.getElem_toArray, List.getElem_cons_zero, List.getElem_cons_succ]
            clear hHeld
            obtain ⟨a0', a1', a2', a3', a4', a5'⟩ := row6l (unhide HRd).ra
            obtain ⟨z0, z1, z2, z3, z4, z5⟩ := frz6l (unhide HRd).ra
            have t6 := touch6 (X := w.heap.size) (W := yy) (.int .i64 p1) (.int .i64 p2) (.int .i64 p3) (.int .i64 p4) (.slice x9 L9.length y9) (.bool p5)
            have s6 := set6_lp (unhide HRd).ra (.int .i64 p1) (.int .i64 p2) (.int .i64 p3) (.int .i64 p4) (.slice x9 L9.length y9) (.bool p5)
            have S2 := hide (unhide SZ _ ((t6.block ab (by omega)).trans (unhide HRd).a) ((t6.block fb (by omega)).trans (unhide HRd).f))
            refine wpAnyH_ready (rs := [2]) (by kernel_rfl) (by simp) ?_
            refine AllReadyH.cons rfl (fun K hK => ?_) (AllReadyH.nil)
            go_simp
            refine hK.out _ _ (unhide S2) (fun _ => ?_)
            clear hK K
            try simp only [Act.put, List.setIfInBounds_toArray, List.set_cons_zero, List.set_cons_succ, List.getElem_toArray, List.getElem_cons_zero, List.getElem_cons_succ]
            have T6 := hide (And.intro t6 s6)
            clear t6 s6 S2 a0' a1' a2' a3' a4' a5' z0 z1 z2 z3 z4 z5
            generalize hW1 : ((((((yy.setCell ⟨w.heap.size, 0, none⟩ (.int .i64 p1)).setCell ⟨w.heap.size, 1, none⟩ (.int .i64 p2)).setCell ⟨w.heap.size, 2, none⟩ (.int .i64 p3)).setCell ⟨w.heap.size, 3, none⟩ (.int .i64 p4)).setCell ⟨w.heap.size, 4, none⟩ (.slice x9 L9.length y9)).setCell ⟨w.heap.size, 5, none⟩ (.bool p5)) = W1 at T6 ⊢
            clear hW1
            have rf1 := ((unhide T6).1.block (w.heap.size + 1) (by omega)).trans (unhide HRd).rf
            obtain ⟨g0, g1, g2, g3, h0, h1, h2, h3⟩ := row4 rf1
            have u4 := touch4 (X := w.heap.size + 1) (W := W1) (.int .i64 f1) (.int .i64 f2) (.int .i64 f3) (.string f4)
            have S3 := hide (unhide SZ _ ((u4.block ab (by omega)).trans (((unhide T6).1.block ab (by omega)).trans (unhide HRd).a)) ((u4.block fb (by omega)).trans (((unhide T6).1.block fb (by omega)).trans (unhide HRd).f)))
            have FIN := hide (And.intro (loadLp6 ((u4.block w.heap.size (by omega)).trans (unhide T6).2)) (And.intro (loadNf (set4_x rf1 (.int .i64 f1) (.int .i64 f2) (.int .i64 f3) (.string f4))) ((unhide HRd).done (unhide HL) (fun g i1 i2 => (u4.block g i2).trans ((unhide T6).1.block g i1)) (u4.os.trans (unhide T6).1.os) (u4.tape.trans (unhide T6).1.tape) (u4.output.trans (unhide T6).1.output) (u4.size.trans (unhide T6).1.size))))
            clear u4 rf1
            refine wpAnyH_ready (rs := [3]) (by kernel_rfl) (by simp) ?_
            refine AllReadyH.cons rfl (fun K hK => ?_) (AllReadyH.nil)
            go_simp
            refine hK.out _ _ (unhide S3) (fun _ => ?_)
            clear hK K
            try simp only [Act.put, List.setIfInBounds_toArray, List.set_cons_zero, List.set_cons_succ, List.getElem_toArray, List.getElem_cons_zero, List.getElem_cons_succ]
            refine wpAnyH_done (by kernel_rfl) ?_ _
            rename_i K9 hK9 s2 s3
            clear s2 s3 SZ HRd T6 S3
            refine hK9 _ _ ?_
            refine wp_ret ?_
            show bodyPost _ _ _ _ _ _
            refine bodyPost_ret (v := .tuple #[.agg #[.int .i64 p1, .int .i64 p2, .int .i64 p3, .int .i64 p4, .slice x9 L9.length y9, .bool p5], .agg #[.int .i64 f1, .int .i64 f2, .int .i64 f3, .string f4]]) (by simp [results, Try.results25, asAddr, (unhide FIN).1, (unhide FIN).2.1]) rfl ⟨⟨p1, p2, p3, p4, p5⟩, _, L9, ⟨f1, f2, f3, f4⟩, rfl, (unhide FIN).2.2.1, by omega, (unhide FIN).2.2.2.1, (unhide FIN).2.2.2.2⟩
    · have d1 : (0 : Int) < ((k + 1 : Nat) : Int) := by omega
      obtain ⟨pa, pb, va, vb, La, Lb, f, Bk, hL0, hm⟩ := unhide HQ
      have hfX : fb < wr.heap.size := (Array.getElem?_eq_some_iff.1 hL0.f).1
      have HL0 := hide hL0
      clear hL0 HQ
      go_upto_region 9 with fail
      refine gen_world (fun q => Lst w q B sl n ab bb fb u7 pa pb va vb La Lb f Bk ∧ q.heap[wr.heap.size]? = some (.cells #[.int .i64 0, .int .i64 0, .int .i64 0, .int .i64 0, .slice none 0 0, .bool false, .slice none 0 0, .slice none 0 0, .int .i64 1] 35)) ⟨(unhide HL0).step (unhide HL) (Nigh.of_alloc _) ((unhide HL0).s.same (Below.heap_alloc _ _ _ (unhide HL0).s.lt)), heap_alloc_new wr _⟩ ?_
      intro q hq
      have HQ := hide hq
      generalize wr.heap.size = X at *
      clear hq HL0 wr
      go_wp2_with fail
      refine (src_n _ B sl n 6 (by decide) hn (unhide HQ).1.s (unhide DB _ (unhide HQ).1.g)).mono ?_
      rintro e w6 ⟨r6, rfl, hr6, hS6, ht6⟩
      have H6 := hide (And.intro ((unhide HQ).1.step (unhide HL) (Nigh.of_touch ht6) hS6) ((ht6.block X (by have := (unhide HL).B; have := (unhide HL).a; have := (unhide HL).b; have := (unhide HL).f; omega)).trans (unhide HQ).2))
      have hr6' : r6 = 0 ∨ r6 = 1 ∨ r6 = 2 ∨ r6 = 3 ∨ r6 = 4 ∨ r6 = 5 := by omega
      clear hS6 ht6 HQ hr6 q
      rename_i K2 hK2 K1 hK1
      refine hK1 _ _ ?_
      show K2 _ _
      refine hK2 _ _ ?_
      go_cut [7] (fun bk wx => Xs w B sl n ab bb fb X ((16 - (k + 1)) * 100 + 7) bk wx)
      case first =>
        clear hK2 hK1 K2 K1
        have hL6 := (unhide H6).1
        have hX6 := (unhide H6).2
        obtain ⟨xa, ya, eva⟩ := hL6.ha.form
        obtain ⟨xb, yb, evb⟩ := hL6.hb.form
        obtain ⟨xk, yk, evk⟩ := hL6.k.form
        subst eva evb evk
        obtain ⟨p1, p2, p3, p4, p5⟩ := pa
        obtain ⟨q1, q2, q3, q4, q5⟩ := pb
        have cA := hL6.a
        have cB := hL6.b
        unfold lpC at cA cB
        dsimp only at cA cB
        obtain ⟨c0, c1, c2, c3, c4, c5⟩ := row6l cA
        have fX := hide hfX
        have hla := hL6.la
        have hA := hL6.ha.1
        have HA := hide hA
        have CN := hide (sNextL ⟨p1, p2, p3, p4, p5⟩ xa ya La w6 (by omega) hA)
        have CG := hide (sAgain ⟨p1, p2, p3, p4, p5⟩ xa ya La w6 (by omega) hA)
        unfold lpC at CN CG
        dsimp only at CN CG
        have HC := hide (And.intro cA cB)
        clear hL6 hX6 hA cA cB
        have hmm : Hid (Bk.length ≤ (16 - (k + 1)) * 100 + 7) := hide (by omega)
        have hXB : Hid (X ≠ B) := hide (by have := (unhide HL).B; have := (unhide HL).a; have := (unhide HL).b; have := (unhide HL).f; omega)
        rcases hr6' with rfl | rfl | rfl | rfl | rfl | rfl
        · clear CN CG HC c0 c1 c2 c3 c4 c5
          go_upto_region 15 with fail
          obtain ⟨c0, c1, c2, c3, c4, c5⟩ := (unhide H6).1.rowA
          go_region_with (first
            | (go_at_call 27
               refine (src_n w6.drew B sl n 4 (by decide) hn ((unhide H6).1.s.same rfl) ((unhide HD).below (((unhide H6).1.g.below (by omega)).drew))).mono ?_
               rintro e w7 ⟨r7, rfl, hr7, hS7, ht7⟩
               have H7 := hide (And.intro ((unhide H6).1.step (unhide HL) (Nigh.of_touch ⟨ht7.os, ht7.tape, ht7.output, ht7.size, ht7.block⟩) hS7) ((ht7.block X (unhide hXB)).trans (unhide H6).2))
               obtain ⟨d0, d1, d2, d3, d4, d5⟩ := (unhide H7).1.rowA
               have hr7' : r7 < 100000 := by omega
               have hr7'' : r7 ≤ 1000 := by omega
               clear hS7 ht7 hr7)
            | (go_at_call 28
               refine (src_bytes_n w7 B sl n r7 hr7' hn (unhide H7).1.s (unhide DB _ (unhide H7).1.g)).mono ?_
               rintro e w8 ⟨xs, rfl, hxs, hS8, hn8⟩
               have H8 := hide (And.intro ((unhide H7).1.step (unhide HL) hn8 hS8) ((hn8.block X (Array.getElem?_eq_some_iff.1 (unhide H7).2).1 (unhide hXB)).trans (unhide H7).2))
               obtain ⟨g0, g1, g2, g3, g4, g5⟩ := (unhide H8).1.rowA
               have hts : (strOfNums xs).size ≤ 1048576 := by
                 rw [strOfNums_size]
                 omega
               generalize strOfNums xs = t8 at *
               clear hS8 hn8 hxs)
            | (go_at_call 10
               refine (sPutL ⟨p1, p2, p3, p4, p5⟩ xa ya La t8 w8 (by omega) hts (unhide H8).1.ha.1).mono ?_
               rintro e w9 ha
               obtain ⟨i1, i2, i3, i4, b5, s1, n1, s2, s3, n2, s4, s5, n3, s6, oc, rfl, hX9, hR⟩ := Xs.ans (m := (16 - (k + 1)) * 100 + 7) (unhide H8).1 (unhide HL) (unhide fX) (unhide H8).2 (fine_put _ _ _) (unhide hmm) ha
               obtain ⟨x0, x1, x2, x3, x4, x5, x6, x7, x8⟩ := row9l hX9
               obtain ⟨z0, z1, z2, z3, z4, z5, z6, z7, z8⟩ := frz9l hX9
               have HX9 := hide hX9
               have HR := hide hR
               clear hX9 hR ha))
          all_goals
            go_wp2_with fail
            go_meet
            exact unhide HR _ (touch9 _ _ _ _ _ _ _ _ _) (set9_lo (unhide HX9) _ _ _ _ _ _ _ _ _)
        · clear CN CG HC c0 c1 c2 c3 c4 c5
          go_upto_region 15 with fail
          obtain ⟨c0, c1, c2, c3, c4, c5⟩ := (unhide H6).1.rowA
          go_region_with (first
            | (go_at_call 27
               refine (src_n w6.drew B sl n 4 (by decide) hn ((unhide H6).1.s.same rfl) ((unhide HD).below (((unhide H6).1.g.below (by omega)).drew))).mono ?_
               rintro e w7 ⟨r7, rfl, hr7, hS7, ht7⟩
               have H7 := hide (And.intro ((unhide H6).1.step (unhide HL) (Nigh.of_touch ⟨ht7.os, ht7.tape, ht7.output, ht7.size, ht7.block⟩) hS7) ((ht7.block X (unhide hXB)).trans (unhide H6).2))
               obtain ⟨d0, d1, d2, d3, d4, d5⟩ := (unhide H7).1.rowA
               have hr7' : r7 < 100000 := by omega
               have hr7'' : r7 ≤ 1000 := by omega
               clear hS7 ht7 hr7)
            | (go_at_call 28
               refine (src_bytes_n w7 B sl n r7 hr7' hn (unhide H7).1.s (unhide DB _ (unhide H7).1.g)).mono ?_
               rintro e w8 ⟨xs, rfl, hxs, hS8, hn8⟩
               have H8 := hide (And.intro ((unhide H7).1.step (unhide HL) hn8 hS8) ((hn8.block X (Array.getElem?_eq_some_iff.1 (unhide H7).2).1 (unhide hXB)).trans (unhide H7).2))
               obtain ⟨g0, g1, g2, g3, g4, g5⟩ := (unhide H8).1.rowA
               have hts : (strOfNums xs).size ≤ 1048576 := by
                 rw [strOfNums_size]
                 omega
               generalize strOfNums xs = t8 at *
               clear hS8 hn8 hxs)
            | (go_at_call 10
               refine (sPutL ⟨p1, p2, p3, p4, p5⟩ xa ya La t8 w8 (by omega) hts (unhide H8).1.ha.1).mono ?_
               rintro e w9 ha
               obtain ⟨i1, i2, i3, i4, b5, s1, n1, s2, s3, n2, s4, s5, n3, s6, oc, rfl, hX9, hR⟩ := Xs.ans (m := (16 - (k + 1)) * 100 + 7) (unhide H8).1 (unhide HL) (unhide fX) (unhide H8).2 (fine_put _ _ _) (unhide hmm) ha
               obtain ⟨x0, x1, x2, x3, x4, x5, x6, x7, x8⟩ := row9l hX9
               obtain ⟨z0, z1, z2, z3, z4, z5, z6, z7, z8⟩ := frz9l hX9
               have HX9 := hide hX9
               have HR := hide hR
               clear hX9 hR ha))
          all_goals
            go_wp2_with fail
            go_meet
            exact unhide HR _ (touch9 _ _ _ _ _ _ _ _ _) (set9_lo (unhide HX9) _ _ _ _ _ _ _ _ _)
        · go_wp2_with fail
          refine (unhide CN).mono ?_
          rintro e w9 ha
          obtain ⟨i1, i2, i3, i4, b5, s1, n1, s2, s3, n2, s4, s5, n3, s6, oc, rfl, hX9, hR⟩ := Xs.ans (m := (16 - (k + 1)) * 100 + 7) (unhide H6).1 (unhide HL) (unhide fX) (unhide H6).2 (fine_next _ _) (unhide hmm) ha
          obtain ⟨x0, x1, x2, x3, x4, x5, x6, x7, x8⟩ := row9l hX9
          obtain ⟨z0, z1, z2, z3, z4, z5, z6, z7, z8⟩ := frz9l hX9
          have HX9 := hide hX9
          have HR := hide hR
          clear hX9 hR ha
          clear CN CG HC HA
          go_wp2_with fail
          go_meet
          exact unhide HR _ (touch9 _ _ _ _ _ _ _ _ _) (set9_lo (unhide HX9) _ _ _ _ _ _ _ _ _)
        · go_wp2_with fail
          refine (unhide CG).mono ?_
          rintro e w9 ha
          obtain ⟨i1, i2, i3, i4, b5, s1, n1, s2, s3, n2, s4, s5, n3, s6, oc, rfl, hX9, hR⟩ := Xs.ans (m := (16 - (k + 1)) * 100 + 7) (unhide H6).1 (unhide HL) (unhide fX) (unhide H6).2 (fine_again _ _) (unhide hmm) ha
          obtain ⟨x0, x1, x2, x3, x4, x5, x6, x7, x8⟩ := row9l hX9
          obtain ⟨z0, z1, z2, z3, z4, z5, z6, z7, z8⟩ := frz9l hX9
          have HX9 := hide hX9
          have HR := hide hR
          clear hX9 hR ha
          clear CN CG HC HA
          go_wp2_with fail
          go_meet
          exact unhide HR _ (touch9 _ _ _ _ _ _ _ _ _) (set9_lo (unhide HX9) _ _ _ _ _ _ _ _ _)
        · clear CN CG HC c0 c1 c2 c3 c4 c5
          go_upto_region 21 with fail
          obtain ⟨c0, c1, c2, c3, c4, c5⟩ := (unhide H6).1.rowB
          go_cut [] (fun wx => Bs w B sl n ab bb fb X ((16 - (k + 1)) * 100) (.slice xk Bk.length yk) wx)
          case first =>
            have hlb := (unhide H6).1.lb
            go_region_with (first
              | (go_at_call 28
                 refine (src_bytes_n w6.drew B sl n 2 (by omega) hn ((unhide H6).1.s.same rfl) ((unhide HD).below (((unhide H6).1.g.below (by omega)).drew))).mono ?_
                 rintro e w8 ⟨xs, rfl, hxs, hS8, hn8⟩
                 have H8 := hide (And.intro ((unhide H6).1.step (unhide HL) ⟨hn8.os, hn8.tape, hn8.output, hn8.size, hn8.block⟩ hS8) ((hn8.block X (Array.getElem?_eq_some_iff.1 (unhide H6).2).1 (unhide hXB)).trans (unhide H6).2))
                 obtain ⟨g0, g1, g2, g3, g4, g5⟩ := (unhide H8).1.rowB
                 have hts : (strOfNums xs).size ≤ 1048576 := by
                   rw [strOfNums_size]
                   omega
                 generalize strOfNums xs = t8 at *
                 clear hS8 hn8 hxs)
              | (go_at_call 10
                 refine (sPutL ⟨q1, q2, q3, q4, q5⟩ xb yb Lb t8 w8 (by omega) hts (unhide H8).1.hb).mono ?_
                 rintro e w9 ha
                 obtain ⟨i1, i2, i3, i4, b5, s1, n1, s2, s3, n2, s4, s5, n3, s6, oc, rfl, hX9, _, _, _, _, _, hR⟩ := Bs.ans (m := (16 - (k + 1)) * 100) (unhide H8).1 (unhide HL) (unhide fX) (unhide H8).2 (fine_put _ _ _) hm ha
                 have hfl := fun W => field_lo (.int .i64 i1) (.int .i64 i2) (.int .i64 i3) (.int .i64 i4) (.slice s1 n1 s2) (.bool b5) (.slice s3 n2 s4) (.slice s5 n3 s6) (.int .i64 oc) W
                 obtain ⟨x0, x1, x2, x3, x4, x5⟩ := row6l hX9
                 obtain ⟨z0, z1, z2, z3, z4, z5⟩ := frz6l hX9
                 have HX9 := hide hX9
                 have HR := hide hR
                 clear hX9 hR ha))
            all_goals
              go_wp2_with fail
              go_meet
              exact unhide HR _ (touch6 _ _ _ _ _ _) (set6_lp (unhide HX9) _ _ _ _ _ _)
          case rest =>
            clear H6 HA hmm c0 c1 c2 c3 c4 c5 hm hla
            obtain ⟨pa7, pb7, va7, vb7, La7, Lb7, f7, Bk7, hL7, hm7, hX7⟩ := hcut
            have hY0 : Ys w B sl n ab bb fb X ((16 - (k + 1)) * 100) (loErr 1) (.slice none 0 0) (.slice none 0 0) (.slice none 0 0) (.slice xk Bk.length yk) wc := ⟨pa7, pb7, va7, vb7, La7, Lb7, f7, Bk7, hL7, hm7, hX7, holdsN_nil _ _ _, fun g hg => by cases hg⟩
            obtain ⟨xb7, yb7, evb⟩ := hL7.hb.form
            subst evb
            obtain ⟨t1, t2, t3, t4, t5⟩ := pb7
            obtain ⟨c0, c1, c2, c3, c4, c5⟩ := hL7.rowB
            obtain ⟨o2, fo2, hCN⟩ : ∃ o2, Fine o2 ∧ Calls Try.prog 11 #[.agg #[.int .i64 t1, .int .i64 t2, .int .i64 t3, .int .i64 t4, .slice xb7 Lb7.length yb7, .bool t5]] wc fun e q => AnsW wc o2 e q :=
              ⟨_, fine_next ⟨t1, t2, t3, t4, t5⟩ Lb7, sNextL ⟨t1, t2, t3, t4, t5⟩ xb7 yb7 Lb7 wc (by have := hL7.lb; omega) hL7.hb⟩
            have CN := hide hCN
            have H7 := hide hY0
            clear hL7 hX7 hY0 hCN hm7
            go_wp2_with fail
            refine (unhide CN).mono ?_
            rintro e z1 ⟨v2, vf2, vg2, rfl, hr2⟩
            have HA2 := hide (show AnsW wc o2 (.returned (.agg (loC o2.p v2 vf2 vg2 o2.cd))) z1 from ⟨v2, vf2, vg2, rfl, hr2⟩)
            obtain ⟨k1, k2, k3, _, _, _, k7⟩ := hr2
            obtain ⟨a1, s1, rfl⟩ := k1.form
            obtain ⟨a2, s2, rfl⟩ := k2.form
            obtain ⟨a3, s3, rfl⟩ := k3.form
            have K7 := hide k7
            clear k1 k2 k3 k7 CN c0 c1 c2 c3 c4 c5
            obtain ⟨⟨g1, g2, g3, g4, g5⟩, Q2, sn2, gt2, cd2⟩ := o2
            unfold loC
            dsimp only
            go_upto_region 23 with fail
            refine gen_world (fun q => Yn w B sl n ab bb fb X ((16 - (k + 1)) * 100) (loErr 1) (.slice none 0 0) (.slice none 0 0) (.slice none 0 0) (.slice xk Bk.length yk) (.pointer (some ⟨z1.heap.size, 0, none⟩)) q) (Yn.of (unhide H7) (unhide HL) (unhide fX) (Below.refl _ _) (unhide HA2) fo2 ((unhide K7).alloc (unhide K7).size _) (fun g hg hl => Below.heap_alloc _ _ _ hl) (fun cur T h => absurd (Array.getElem?_eq_some_iff.1 h).1 (Nat.lt_irrefl _)) (unhide K7).size (heap_alloc_new _ _)) ?_
            intro q hq
            generalize z1.heap.size = Yz at *
            obtain ⟨Y, o3, v3, vf3, vg3, e12, hYl, hXY, hy2, hc2, hq2, hn2, fo3, hs2⟩ := hq
            simp only [Value.pointer.injEq, Option.some.injEq, Addr.mk.injEq, and_true] at e12
            subst e12
            clear H7 HA2 K7 fo2
            obtain ⟨⟨g1', g2', g3', g4', g5'⟩, Q3, sn3, gt3, cd3⟩ := o3
            have hQ2 : Q3.length ≤ 20 := fo3.q
            have hS2 : sn3.length ≤ 7 := fo3.s
            clear fo3
            dsimp only at hc2 hq2 hn2
            obtain ⟨x2, y2, ev⟩ := hq2.form
            subst ev
            obtain ⟨xn, yn, ev⟩ := hn2.form
            subst ev
            have hc3 := hc2
            unfold loC at hc3
            dsimp only at hc3
            obtain ⟨c0, c1, c2, c3, c4, c5, c6, c7, c8⟩ := row9l hc3
            obtain ⟨pa9, pb9, va9, vb9, La9, Lb9, f9, Bk9, hL9, _, _, _, _⟩ := id hy2
            obtain ⟨u1', u2', u3', u4', u5'⟩ := pb9
            have cB := hL9.b
            unfold lpC at cB
            dsimp only at cB
            obtain ⟨d0', d1', d2, d3, d4, d5⟩ := row6l cB
            obtain ⟨z0, z1', z2, z3, z4, z5⟩ := frz6l cB
            have nYb : ¬ (Yz = bb) := by have := (unhide HL).f; omega
            have nbY : ¬ (bb = Yz) := fun e => nYb e.symm
            have H12 := hide (And.intro hy2 (And.intro hc2 (And.intro hq2 (And.intro hn2 (And.intro hs2 cB)))))
            clear hy2 hc2 hq2 hn2 hs2 cB hc3 hL9
            go_upto_region 24 with fail
            refine gen_world (fun q => Ys w B sl n ab bb fb X ((16 - (k + 1)) * 100) (loErr 1) (.slice none 0 0) (.slice none 0 0) (.slice none 0 0) (.slice xk Bk.length yk) q ∧ q.heap[Yz]? = some (.cells (loC ⟨g1', g2', g3', g4', g5'⟩ (.slice x2 Q3.length y2) (.slice xn sn3.length yn) vg3 cd3) 35) ∧ HoldsN q (.slice xn sn3.length yn) sn3) ?_ ?_
            · have ht := touch6 (X := bb) (W := q) (.int .i64 g1') (.int .i64 g2') (.int .i64 g3') (.int .i64 g4') (.slice x2 Q3.length y2) (.bool g5')
              refine ⟨(unhide H12).1.putB (p := ⟨g1', g2', g3', g4', g5'⟩) (unhide HL) (unhide fX) ht (unhide H12).2.2.1 hQ2 (set6_lp (unhide H12).2.2.2.2.2 _ _ _ _ _ _), (ht.block Yz nYb).trans (unhide H12).2.1, (unhide H12).2.2.2.1.other (fun g cur _ hg => ht.block g (fun e => ?_))⟩
              subst e
              rw [(unhide H12).2.2.2.2.2] at hg
              cases hg
            rintro q13 ⟨hy13, hc13, hn13⟩
            clear H12 c0 c1 c2 c3 c4 c5 c6 c7 c8 d0' d1' d2 d3 d4 d5 z0 z1' z2 z3 z4 z5
            have y6 : q13.cell? ⟨Yz, 6, none⟩ = some (.slice xn sn3.length yn) := (row9l (show q13.heap[Yz]? = some (.cells #[_, _, _, _, _, _, .slice xn sn3.length yn, _, _] _) from hc13)).2.2.2.2.2.2.1
            obtain ⟨pa8, pb8, va8, vb8, La8, Lb8, f8, Bk8, hL8, hm8, hcX, hN8, hs8⟩ := hy13
            have hbase : fb + 1 ≤ q13.heap.size := by have := (Array.getElem?_eq_some_iff.1 hcX).1; have := unhide fX; omega
            have hb2 : Bk8.length ≤ 2000000 := by omega
            have hs3 : sn3.length ≤ 2000000 := by omega
            have hmG : Bk8.length + sn3.length ≤ (16 - (k + 1)) * 100 + 7 := by omega
            have H13 := hide (And.intro hL8 (And.intro hcX (And.intro hN8 (And.intro hs8 hn13))))
            clear hL8 hcX hN8 hs8 hn13 hc13
            go_wp2_with (first
              | (at_builtin
                 refine append_b rfl _ _ rfl (fb + 1) _ _ Bk8 sn3 rfl rfl (unhide H13).1.k (unhide H13).2.2.2.2 hb2 hs3 hbase ?_
                 rintro v14 w14 ho14 hg14 hk14
                 have HZ := hide (And.intro ho14 (And.intro hg14 hk14))
                 clear ho14 hg14 hk14))
            go_meet
            obtain ⟨pa6, pb6, va6, vb6, La6, Lb6, f6, Bk6, hL6', hm6, hc6, _, _⟩ := Ys.more (unhide H13).1 (unhide HL) (unhide fX) hmG (unhide H13).2.1 (unhide H13).2.2.1 (unhide H13).2.2.2.1 (unhide HZ).1 (unhide HZ).2.1 (unhide HZ).2.2 (fun g hg => by cases hg)
            exact Xs.init hL6' hm6 hc6
        · clear CN CG HC
          cases Bk with
          | nil =>
            clear c0 c1 c2 c3 c4 c5
            have d0 : ¬ ((0 : Int) < (([] : List Nb).length : Int)) := by simp
            go_wp2_with fail
            go_meet
            exact Xs.init (unhide H6).1 (unhide hmm) (unhide H6).2
          | cons b Bk =>
            obtain ⟨g, o, cp, ek, hg1, hg2, e0, e1, e2, e3⟩ := (unhide H6).1.k.get 0 (by simp)
            rw [List.getElem_cons_zero, Nat.zero_mul, Nat.add_zero] at e0 e1 e2 e3
            cases ek
            obtain ⟨t1, t2, t3, t4⟩ := b
            dsimp only at e0 e1 e2 e3
            have hlen : (⟨t1, t2, t3, t4⟩ :: Bk : List Nb).length = Bk.length + 1 := rfl
            rw [hlen] at *
            have d0 : (0 : Int) < ((Bk.length + 1 : Nat) : Int) := by omega
            have d1 : (0 : Nat) < Bk.length + 1 := by omega
            have hcap : Bk.length + 1 ≤ yk := by
              rcases (unhide H6).1.k with ⟨e, _⟩ | ⟨_, _, _, _, e, _, _, h4, _⟩
              · cases e
              · cases e; exact h4
            go_upto_region 11 with fail
            go_cut [] (fun wx => Xs w B sl n ab bb fb X ((16 - (k + 1)) * 100 + 7) (.slice (some ⟨g, o, none⟩) (Bk.length + 1) yk) wx)
            case first =>
              go_region_with (first
                | (go_at_call 15
                   refine (sHearL ⟨p1, p2, p3, p4, p5⟩ xa ya La ⟨t1, t2, t3, t4⟩ w6.drew (by omega) ((unhide HA).other (fun _ _ _ _ => rfl))).mono ?_
                   rintro e w9 ha
                   obtain ⟨i1, i2, i3, i4, b5, s1, n1, s2, s3, n2, s4, s5, n3, s6, oc, rfl, hX9, hR⟩ := Xs.ans (m := (16 - (k + 1)) * 100 + 7) (unhide H6).1 (unhide HL) (unhide fX) (unhide H6).2 (fine_hear _ _ _) (unhide hmm) ha.undrew
                   obtain ⟨x0, x1, x2, x3, x4, x5, x6, x7, x8⟩ := row9l hX9
                   obtain ⟨z0, z1, z2, z3, z4, z5, z6, z7, z8⟩ := frz9l hX9
                   have HX9 := hide hX9
                   have HR := hide hR
                   clear hX9 hR ha))
              all_goals
                go_wp2_with fail
                go_meet
                exact unhide HR _ (touch9 _ _ _ _ _ _ _ _ _) (set9_lo (unhide HX9) _ _ _ _ _ _ _ _ _)
            case rest =>
              have HT := hide (Xs.tail hcut)
              clear hcut
              go_wp2_with fail
              · go_meet
                have hb0 : Bk.length = 0 := by omega
                have ht0 := (unhide HT).2 hb0
                have hy0 : yk - 1 = 0 := by omega
                rw [hy0] at ht0
                rw [hb0]
                exact ht0
              · go_meet
                exact (unhide HT).1
      case rest =>
        as_aux_lemma =>
          obtain ⟨pa8, pb8, va8, vb8, La8, Lb8, f8, Bk8, hL8, hm8, o8, v8, vf8, vg8, hX8, hR8, hN8, fo8, hs8, hv8⟩ := hcut
          clear H6 hr6' hm
          obtain ⟨⟨p1, p2, p3, p4, p5⟩, Q8, sn8, gt8, cd8⟩ := o8
          have hq8 : Q8.length ≤ 20 := fo8.q
          have hl8 : sn8.length ≤ 7 := fo8.s
          clear fo8
          dsimp only at hX8 hR8 hN8
          obtain ⟨x8, y8, ev⟩ := hR8.form
          subst ev
          obtain ⟨xf, yf, ev⟩ := hN8.form
          subst ev
          have hX9 := hX8
          unfold loC at hX9
          dsimp only at hX9
          obtain ⟨c0, c1, c2, c3, c4, c5, c6, c7, c8⟩ := row9l hX9
          obtain ⟨b1', b2', b3', b4', b5'⟩ := pa8
          have cA := hL8.a
          unfold lpC at cA
          dsimp only at cA
          obtain ⟨d0, d1', d2, d3, d4, d5⟩ := row6l cA
          obtain ⟨z0, z1, z2, z3, z4, z5⟩ := frz6l cA
          have fX := hide hfX
          have nXa : ¬ (X = ab) := by have := (unhide HL).b; have := (unhide HL).f; omega
          have naX : ¬ (ab = X) := fun e => nXa e.symm
          have H8 := hide (And.intro hL8 (And.intro hX8 (And.intro hR8 (And.intro hN8 (And.intro hs8 (And.intro hv8 cA))))))
          clear hL8 hX8 hR8 hN8 hs8 hv8 cA hX9
          by_cases hcd : cd8 = 0
          · subst hcd
            go_upto_region 27 with fail
            refine gen_world (fun q => Ys w B sl n ab bb fb X ((16 - (k + 1)) * 100 + 7) ⟨⟨p1, p2, p3, p4, p5⟩, Q8, sn8, gt8, 0⟩ (.slice x8 Q8.length y8) (.slice xf sn8.length yf) vg8 u7 q) (Xs.ys (unhide H8).1 (unhide HL) hfX hm8 (unhide H8).2.1 (unhide H8).2.2.1 hq8 (unhide H8).2.2.2.1 (unhide H8).2.2.2.2.1 (unhide H8).2.2.2.2.2.1 (touch6 _ _ _ _ _ _) (set6_lp (unhide H8).2.2.2.2.2.2 _ _ _ _ _ _)) ?_
            intro q9 hq9
            have H9 := hide hq9
            clear hq9 H8 c0 c1 c2 c3 c4 c5 c6 c7 c8 d0 d1' d2 d3 d4 d5 z0 z1 z2 z3 z4 z5
            go_upto_region 28 with fail
            go_loopg [7, 11] sn8.length (fun g x y wr => ∃ i : Nat, y = .int .i64 (i : Nat) ∧ i + g = sn8.length ∧ Ys w B sl n ab bb fb X ((16 - (k + 1)) * 100 + 7 + 7 * i) ⟨⟨p1, p2, p3, p4, p5⟩, Q8, sn8, gt8, 0⟩ (.slice x8 Q8.length y8) (.slice xf sn8.length yf) vg8 x wr)
            case atStart => exact ⟨0, rfl, Nat.zero_add _, unhide H9⟩
            case round =>
              obtain ⟨i, rfl, hig, hy⟩ := hrel
              have cX : wr.cell? ⟨X, 6, none⟩ = some (.slice xf sn8.length yf) := by
                obtain ⟨_, _, _, _, _, _, _, _, _, _, hc, _⟩ := hy
                exact (row9l (show wr.heap[X]? = some (.cells #[_, _, _, _, _, _, .slice xf sn8.length yf, _, _] _) from hc)).2.2.2.2.2.2.1
              have HY := hide hy
              clear hy H9
              by_cases hlt : i < sn8.length
              · have e1 : (i : Int) < (sn8.length : Int) := by omega
                go_wp2_with fail
                refine (src_one _ B sl n 6 (by decide) hn (unhide HY).src (unhide DB _ (unhide HY).nigh)).mono ?_
                rintro e w10 ⟨b, rfl, hS10, ht10⟩
                have H10 := hide ((unhide HY).step (unhide HL) (unhide fX) (Nigh.of_touch ht10) hS10)
                clear hS10 ht10 HY cX
                cases b
                · obtain ⟨pa9, pb9, va9, vb9, La9, Lb9, f9, Bk9, hL9, hm9, hc9, hN9, hs9⟩ := unhide H10
                  obtain ⟨g, cp, ev, hg, e2, e3, e4, e5⟩ := hN9.get i hlt
                  obtain ⟨xb, yb, evb⟩ := hL9.hb.form
                  subst evb
                  simp only [Value.slice.injEq] at ev
                  obtain ⟨ev, _, _⟩ := ev
                  subst ev
                  obtain ⟨q1, q2, q3, q4, q5⟩ := pb9
                  have hf : sn8[i] = sn8[i] := rfl
                  generalize sn8[i] = fr at e2 e3 e4 e5
                  obtain ⟨t1, t2, t3, t4⟩ := fr
                  dsimp only at e2 e3 e4 e5
                  have hbl : bb < w10.heap.size := (Array.getElem?_eq_some_iff.1 hL9.b).1
                  have hXl : X < w10.heap.size := (Array.getElem?_eq_some_iff.1 hc9).1
                  have rX : w10.cell? ⟨X, 6, none⟩ = some (.slice (some ⟨g, 0, none⟩) sn8.length yf) := (row9l (show w10.heap[X]? = some (.cells #[_, _, _, _, _, _, .slice (some ⟨g, 0, none⟩) sn8.length yf, _, _] _) from hc9)).2.2.2.2.2.2.1
                  have rB := hL9.rowB
                  have SZ : Hid (∀ z, Below w10.heap.size w10 z → z.cell? ⟨bb, 0, none⟩ = some (.int .i64 q1) ∧ z.cell? ⟨bb, 1, none⟩ = some (.int .i64 q2) ∧ z.cell? ⟨bb, 2, none⟩ = some (.int .i64 q3) ∧ z.cell? ⟨bb, 3, none⟩ = some (.int .i64 q4) ∧ z.cell? ⟨bb, 4, none⟩ = some (.slice xb Lb9.length yb) ∧ z.cell? ⟨bb, 5, none⟩ = some (.bool q5) ∧ z.cell? ⟨X, 6, none⟩ = some (.slice (some ⟨g, 0, none⟩) sn8.length yf) ∧ z.cell? ⟨g, i * 4, none⟩ = some (.int .i64 t1) ∧ z.cell? ⟨g, i * 4 + 1, none⟩ = some (.int .i64 t2) ∧ z.cell? ⟨g, i * 4 + 2, none⟩ = some (.int .i64 t3) ∧ z.cell? ⟨g, i * 4 + 3, none⟩ = some (.string t4)) := hide fun z hb => ⟨(hb.cell hbl).trans rB.1, (hb.cell hbl).trans rB.2.1, (hb.cell hbl).trans rB.2.2.1, (hb.cell hbl).trans rB.2.2.2.1, (hb.cell hbl).trans rB.2.2.2.2.1, (hb.cell hbl).trans rB.2.2.2.2.2, (hb.cell hXl).trans rX, (hb.cell hg).trans e2, (hb.cell hg).trans e3, (hb.cell hg).trans e4, (hb.cell hg).trans e5⟩
                  obtain ⟨o2, fo2, hCH⟩ : ∃ o2, Fine o2 ∧ ∀ z, Below w10.heap.size w10 z → Calls Try.prog 15 #[.agg #[.int .i64 q1, .int .i64 q2, .int .i64 q3, .int .i64 q4, .slice xb Lb9.length yb, .bool q5], .agg #[.int .i64 t1, .int .i64 t2, .int .i64 t3, .string t4]] z fun e q => AnsW z o2 e q :=
                    ⟨_, fine_hear ⟨q1, q2, q3, q4, q5⟩ Lb9 ⟨t1, t2, t3, t4⟩, fun z hb => sHearL ⟨q1, q2, q3, q4, q5⟩ xb yb Lb9 ⟨t1, t2, t3, t4⟩ z (by have := hL9.lb; omega) (hL9.hb.below hb)⟩
                  have CH := hide hCH
                  clear hCH hL9 hm9 hc9 hN9 hs9 e2 e3 e4 e5 rX rB hf
                  go_upto_region 30 with fail
                  go_cut [12] (fun y wx => Yn w B sl n ab bb fb X ((16 - (k + 1)) * 100 + 7 + 7 * i) ⟨⟨p1, p2, p3, p4, p5⟩, Q8, sn8, gt8, 0⟩ (.slice x8 Q8.length y8) (.slice (some ⟨g, 0, none⟩) sn8.length yf) vg8 u7 y wx)
                  case first =>
                    as_aux_lemma =>
                      refine wp_region_held_drew (S := fun z => z.cell? ⟨bb, 0, none⟩ = some (.int .i64 q1) ∧ z.cell? ⟨bb, 1, none⟩ = some (.int .i64 q2) ∧ z.cell? ⟨bb, 2, none⟩ = some (.int .i64 q3) ∧ z.cell? ⟨bb, 3, none⟩ = some (.int .i64 q4) ∧ z.cell? ⟨bb, 4, none⟩ = some (.slice xb Lb9.length yb) ∧ z.cell? ⟨bb, 5, none⟩ = some (.bool q5) ∧ z.cell? ⟨X, 6, none⟩ = some (.slice (some ⟨g, 0, none⟩) sn8.length yf) ∧ z.cell? ⟨g, i * 4, none⟩ = some (.int .i64 t1) ∧ z.cell? ⟨g, i * 4 + 1, none⟩ = some (.int .i64 t2) ∧ z.cell? ⟨g, i * 4 + 2, none⟩ = some (.int .i64 t3) ∧ z.cell? ⟨g, i * 4 + 3, none⟩ = some (.string t4)) (by kernel_rfl) (unhide SZ _ ((Below.refl _ _).drew)) (fun hHeld => ?_)
                      have BZ := hide ((Below.refl w10.heap.size w10).drew)
                      generalize w10.drew = yy at BZ hHeld ⊢
                      refine wpAnyH_take (i := 0) (v := ?vr0) rfl (by kernel_rfl) (by kernel_rfl) (by kernel_rfl) (fun _ _ _ h => h) (Or.inl ⟨by rfl, ?hyr0⟩) (by assumption) ?_
                      case hyr0 =>
                        intro w hSw
                        try dsimp only at hSw
                        go_simp
                        try with_reducible rfl
                      try simp only [Act.put, List.setIfInBounds_toArray, List.set_cons_zero, List.set_cons_succ, List.getElem_toArray, List.getElem_cons_zero]
                      refine wpAnyH_take (i := 1) (v := ?vr1) rfl (by kernel_rfl) (by kernel_rfl) (by kernel_rfl) (fun _ _ _ h => h) (Or.inl ⟨by rfl, ?hyr1⟩) (by assumption) ?_
                      case hyr1 =>
                        intro w hSw
                        try dsimp only at hSw
                        go_simp
                        try with_reducible rfl
                      try simp only [Act.put, List.setIfInBounds_toArray, List.set_cons_zero, List.set_cons_succ, List.getElem_toArray, List.getElem_cons_zero, List.getElem_cons_succ]
                      refine wpAnyH_take (i := 2) (v := ?vr2) rfl (by kernel_rfl) (by kernel_rfl) (by kernel_rfl) (fun _ _ _ h => h) (Or.inl ⟨by rfl, ?hyr2⟩) (by assumption) ?_
                      case hyr2 =>
                        intro w hSw
                        try dsimp only at hSw
                        go_simp
                        try with_reducible rfl
                      try simp only [Act.put, List.setIfInBounds_toArray, List.set_cons_zero, List.set_cons_succ, List.getElem_toArray, List.getElem_cons_zero, List.getElem_cons_succ]
                      refine wpAnyH_take (i := 3) (v := ?vr3) rfl (by kernel_rfl) (by kernel_rfl) (by kernel_rfl) (fun _ _ _ h => h) (Or.inl ⟨by rfl, ?hyr3⟩) (by assumption) ?_
                      case hyr3 =>
                        intro w hSw
                        try dsimp only at hSw
                        go_simp
                        try with_reducible rfl
                      try simp only [Act.put, List.setIfInBounds_toArray, List.set_cons_zero, List.set_cons_succ, List.getElem_toArray, List.getElem_cons_zero, List.getElem_cons_succ]
                      refine wpAnyH_take (i := 4) (v := ?vr4) rfl (by kernel_rfl) (by kernel_rfl) (by kernel_rfl) (fun _ _ _ h => h) (Or.inl ⟨by rfl, ?hyr4⟩) (by assumption) ?_
                      case hyr4 =>
                        intro w hSw
                        try dsimp only at hSw
                        go_simp
                        try with_reducible rfl
                      try simp only [Act.put, List.setIfInBounds_toArray, List.set_cons_zero, List.set_cons_succ, List.getElem_toArray, List.getElem_cons_zero, List.getElem_cons_succ]
                      refine wpAnyH_take (i := 5) (v := ?vr5) rfl (by kernel_rfl) (by kernel_rfl) (by kernel_rfl) (fun _ _ _ h => h) (Or.inl ⟨by rfl, ?hyr5⟩) (by assumption) ?_
                      case hyr5 =>
                        intro w hSw
                        try dsimp only at hSw
                        go_simp
                        try with_reducible rfl
                      try simp only [Act.put, List.setIfInBounds_toArray, List.set_cons_zero, List.set_cons_succ, List.getElem_toArray, List.getElem_cons_zero, List.getElem_cons_succ]
                      clear hHeld
                      refine wpAnyH_ready (rs := [6, 7]) (by kernel_rfl) (by simp) ?_
                      refine AllReadyH.cons rfl (fun K hK => ?_) (AllReadyH.cons rfl (fun K hK => ?_) (AllReadyH.nil))
                      · go_simp
                        refine (unhide CH yy (unhide BZ)).mono ?_
                        rintro e z1 ⟨v2, vf2, vg2, rfl, hr2⟩
                        have HA := hide (show AnsW yy o2 (.returned (.agg (loC o2.p v2 vf2 vg2 o2.cd))) z1 from ⟨v2, vf2, vg2, rfl, hr2⟩)
                        obtain ⟨k1, k2, k3, k4, k5, k6, k7⟩ := hr2
                        obtain ⟨a1, s1, rfl⟩ := k1.form
                        obtain ⟨a2, s2, rfl⟩ := k2.form
                        obtain ⟨a3, s3, rfl⟩ := k3.form
                        have BZ1 := hide ((unhide BZ).trans (k7.mono (unhide BZ).size))
                        clear k1 k2 k3 k4 k5 k6 k7
                        have hcs := lo_size o2.p (.slice a1 o2.Q.length s1) (.slice a2 o2.sn.length s2) (.slice a3 o2.gt.length s3) o2.cd
                        have hca := lo_all o2.p a1 a2 a3 o2.Q.length o2.sn.length o2.gt.length s1 s2 s3 o2.cd
                        have HCS := hide (rfl : loC o2.p (.slice a1 o2.Q.length s1) (.slice a2 o2.sn.length s2) (.slice a3 o2.gt.length s3) o2.cd = loC o2.p (.slice a1 o2.Q.length s1) (.slice a2 o2.sn.length s2) (.slice a3 o2.gt.length s3) o2.cd)
                        generalize hcg : loC o2.p (.slice a1 o2.Q.length s1) (.slice a2 o2.sn.length s2) (.slice a3 o2.gt.length s3) o2.cd = cs at hcs hca HA ⊢
                        go_wp2_with fail
                        refine hK.out _ _ (unhide SZ _ (unhide BZ1)) (fun _ => ?_)
                        clear hK K
                        try simp only [Act.put, List.setIfInBounds_toArray, List.set_cons_zero, List.set_cons_succ, List.getElem_toArray, List.getElem_cons_zero, List.getElem_cons_succ]
                        refine wpAnyH_ready (rs := [7]) (by kernel_rfl) (by simp) ?_
                        refine AllReadyH.cons rfl (fun K hK => ?_) (AllReadyH.nil)
                        go_simp
                        have HM2 := hide (heap_alloc_new z1 (.cells zLo 35))
                        have BZ2 := hide ((unhide BZ1).alloc (unhide BZ1).size (.cells zLo 35))
                        refine hK.out _ _ (unhide SZ _ (unhide BZ2)) (fun _ => ?_)
                        clear hK K
                        try simp only [Act.put, List.setIfInBounds_toArray, List.set_cons_zero, List.set_cons_succ, List.getElem_toArray, List.getElem_cons_zero, List.getElem_cons_succ]
                        refine wpAnyH_ready (rs := [8]) (by kernel_rfl) (by simp) ?_
                        refine AllReadyH.cons rfl (fun K hK => ?_) (AllReadyH.nil)
                        refine if_so (by rfl) ?_
                        refine wp_store_row 35 (.tmp 12) (.tmp 98) rfl z1.heap.size cs rfl rfl 35 zLo (unhide HM2) (by rw [hcs]; exact infoLo) (by rw [hcs]; rfl) hca ?_
                        have hMy : w10.heap.size ≤ z1.heap.size := (unhide BZ1).size
                        have BZe := hide (below_setRow (unhide BZ2) hMy cs)
                        refine hK.out _ _ (unhide SZ _ (unhide BZe)) (fun _ => ?_)
                        clear hK K
                        try simp only [Act.put, List.setIfInBounds_toArray, List.set_cons_zero, List.set_cons_succ, List.getElem_toArray, List.getElem_cons_zero, List.getElem_cons_succ]
                        refine wpAnyH_done (by kernel_rfl) ?_ _
                        go_wp2_with fail
                        go_meet
                        subst hcg
                        exact Yn.of (unhide H10) (unhide HL) (unhide fX) (unhide BZ) (unhide HA) fo2 (unhide BZe) (fun g hg hl => (setRow_other _ _ _ _ hg).trans (Below.heap_alloc _ _ _ hl)) (fun cur T h => absurd (Array.getElem?_eq_some_iff.1 h).1 (Nat.lt_irrefl _)) hMy (setRow_heap _ _ zLo _ 35 (0, 0) (unhide HM2))
                      · go_simp
                        have HM1 := hide (heap_alloc_new yy (.cells zLo 35))
                        have BZ1 := hide ((unhide BZ).alloc (unhide BZ).size (.cells zLo 35))
                        refine hK.out _ _ (unhide SZ _ (unhide BZ1)) (fun _ => ?_)
                        clear hK K
                        try simp only [Act.put, List.setIfInBounds_toArray, List.set_cons_zero, List.set_cons_succ, List.getElem_toArray, List.getElem_cons_zero, List.getElem_cons_succ]
                        refine wpAnyH_ready (rs := [6]) (by kernel_rfl) (by simp) ?_
                        refine AllReadyH.cons rfl (fun K hK => ?_) (AllReadyH.nil)
                        go_simp
                        refine (unhide CH (yy.alloc (.cells zLo 35)) (unhide BZ1)).mono ?_
                        rintro e z1 ⟨v2, vf2, vg2, rfl, hr2⟩
                        have HA := hide (show AnsW (yy.alloc (.cells zLo 35)) o2 (.returned (.agg (loC o2.p v2 vf2 vg2 o2.cd))) z1 from ⟨v2, vf2, vg2, rfl, hr2⟩)
                        obtain ⟨k1, k2, k3, k4, k5, k6, k7⟩ := hr2
                        obtain ⟨a1, s1, rfl⟩ := k1.form
                        obtain ⟨a2, s2, rfl⟩ := k2.form
                        obtain ⟨a3, s3, rfl⟩ := k3.form
                        have BZ2 := hide ((unhide BZ1).trans (k7.mono (unhide BZ1).size))
                        have HM2 := hide ((k7.block _ (Array.getElem?_eq_some_iff.1 (unhide HM1)).1).trans (unhide HM1))
                        clear k1 k2 k3 k4 k5 k6 k7
                        have hcs := lo_size o2.p (.slice a1 o2.Q.length s1) (.slice a2 o2.sn.length s2) (.slice a3 o2.gt.length s3) o2.cd
                        have hca := lo_all o2.p a1 a2 a3 o2.Q.length o2.sn.length o2.gt.length s1 s2 s3 o2.cd
                        have HCS := hide (rfl : loC o2.p (.slice a1 o2.Q.length s1) (.slice a2 o2.sn.length s2) (.slice a3 o2.gt.length s3) o2.cd = loC o2.p (.slice a1 o2.Q.length s1) (.slice a2 o2.sn.length s2) (.slice a3 o2.gt.length s3) o2.cd)
                        generalize hcg : loC o2.p (.slice a1 o2.Q.length s1) (.slice a2 o2.sn.length s2) (.slice a3 o2.gt.length s3) o2.cd = cs at hcs hca HA ⊢
                        go_wp2_with fail
                        refine hK.out _ _ (unhide SZ _ (unhide BZ2)) (fun _ => ?_)
                        clear hK K
                        try simp only [Act.put, List.setIfInBounds_toArray, List.set_cons_zero, List.set_cons_succ, List.getElem_toArray, List.getElem_cons_zero, List.getElem_cons_succ]
                        refine wpAnyH_ready (rs := [8]) (by kernel_rfl) (by simp) ?_
                        refine AllReadyH.cons rfl (fun K hK => ?_) (AllReadyH.nil)
                        refine if_so (by rfl) ?_
                        refine wp_store_row 35 (.tmp 12) (.tmp 98) rfl yy.heap.size cs rfl rfl 35 zLo (unhide HM2) (by rw [hcs]; exact infoLo) (by rw [hcs]; rfl) hca ?_
                        have hMy : w10.heap.size ≤ yy.heap.size := (unhide BZ).size
                        have BZe := hide (below_setRow (unhide BZ2) hMy cs)
                        refine hK.out _ _ (unhide SZ _ (unhide BZe)) (fun _ => ?_)
                        clear hK K
                        try simp only [Act.put, List.setIfInBounds_toArray, List.set_cons_zero, List.set_cons_succ, List.getElem_toArray, List.getElem_cons_zero, List.getElem_cons_succ]
                        refine wpAnyH_done (by kernel_rfl) ?_ _
                        go_wp2_with fail
                        go_meet
                        subst hcg
                        exact Yn.of (unhide H10) (unhide HL) (unhide fX) (unhide BZ1) (unhide HA) fo2 (unhide BZe) (fun g hg hl => setRow_other _ _ _ _ hg) (fun cur T h => by rw [unhide HM2] at h; cases h; rfl) hMy (setRow_heap _ _ zLo _ 35 (0, 0) (unhide HM2))
                  case rest =>
                    as_aux_lemma =>
                      obtain ⟨Y, o3, v2, vf2, vg2, e12, hYl, hXY, hy2, hc2, hq2, hn2, fo3, hs2⟩ := hcut
                      subst e12
                      clear H10 SZ CH fo2 o2 hbl hXl hg
                      obtain ⟨⟨g1, g2, g3, g4, g5⟩, Q2, sn2, gt2, cd2⟩ := o3
                      have hQ2 : Q2.length ≤ 20 := fo3.q
                      have hS2 : sn2.length ≤ 7 := fo3.s
                      clear fo3
                      dsimp only at hc2 hq2 hn2
                      obtain ⟨x2, y2, ev⟩ := hq2.form
                      subst ev
                      obtain ⟨xn, yn, ev⟩ := hn2.form
                      subst ev
                      have hc3 := hc2
                      unfold loC at hc3
                      dsimp only at hc3
                      obtain ⟨c0, c1, c2, c3, c4, c5, c6, c7, c8⟩ := row9l hc3
                      obtain ⟨pa7, pb7, va7, vb7, La7, Lb7, f7, Bk7, hL7, _, _, _, _⟩ := id hy2
                      obtain ⟨u1', u2', u3', u4', u5'⟩ := pb7
                      have cB := hL7.b
                      unfold lpC at cB
                      dsimp only at cB
                      obtain ⟨d0, d1', d2, d3, d4, d5⟩ := row6l cB
                      obtain ⟨z0, z1, z2, z3, z4, z5⟩ := frz6l cB
                      have nYb : ¬ (Y = bb) := by have := (unhide HL).f; omega
                      have nbY : ¬ (bb = Y) := fun e => nYb e.symm
                      have H12 := hide (And.intro hy2 (And.intro hc2 (And.intro hq2 (And.intro hn2 (And.intro hs2 cB)))))
                      clear hy2 hc2 hq2 hn2 hs2 cB hc3 hL7
                      by_cases hcd2 : cd2 = 0
                      · subst hcd2
                        go_upto_region 33 with fail
                        refine gen_world (fun q => Ys w B sl n ab bb fb X ((16 - (k + 1)) * 100 + 7 + 7 * i) ⟨⟨p1, p2, p3, p4, p5⟩, Q8, sn8, gt8, 0⟩ (.slice x8 Q8.length y8) (.slice (some ⟨g, 0, none⟩) sn8.length yf) vg8 u7 q ∧ q.heap[Y]? = some (.cells (loC ⟨g1, g2, g3, g4, g5⟩ (.slice x2 Q2.length y2) (.slice xn sn2.length yn) vg2 0) 35) ∧ HoldsN q (.slice xn sn2.length yn) sn2) ?_ ?_
                        · have ht := touch6 (X := bb) (W := wc) (.int .i64 g1) (.int .i64 g2) (.int .i64 g3) (.int .i64 g4) (.slice x2 Q2.length y2) (.bool g5)
                          refine ⟨(unhide H12).1.putB (p := ⟨g1, g2, g3, g4, g5⟩) (unhide HL) (unhide fX) ht (unhide H12).2.2.1 hQ2 (set6_lp (unhide H12).2.2.2.2.2 _ _ _ _ _ _), (ht.block Y nYb).trans (unhide H12).2.1, (unhide H12).2.2.2.1.other (fun g cur _ hg => ht.block g (fun e => ?_))⟩
                          subst e
                          rw [(unhide H12).2.2.2.2.2] at hg
                          cases hg
                        have hs2 := (unhide H12).2.2.2.2.1
                        rintro q13 ⟨hy13, hc13, hn13⟩
                        clear H12 c0 c1 c2 c3 c4 c5 c6 c7 c8 d0 d1' d2 d3 d4 d5 z0 z1 z2 z3 z4 z5
                        have y6 : q13.cell? ⟨Y, 6, none⟩ = some (.slice xn sn2.length yn) := (row9l (show q13.heap[Y]? = some (.cells #[_, _, _, _, _, _, .slice xn sn2.length yn, _, _] _) from hc13)).2.2.2.2.2.2.1
                        obtain ⟨pa9, pb9, va9, vb9, La9, Lb9', f9, Bk9, hL9, hm9, hcX, hN9, hs9⟩ := hy13
                        have hbase : fb + 1 ≤ q13.heap.size := by have := (Array.getElem?_eq_some_iff.1 hcX).1; have := unhide fX; omega
                        have hb2 : Bk9.length ≤ 2000000 := by omega
                        have hs3 : sn2.length ≤ 2000000 := by omega
                        have hgl : ∀ g', (Value.slice (some ⟨g, 0, none⟩) sn8.length yf).ownBlock = some g' → g' < q13.heap.size := fun g' e => by
                          obtain ⟨g0, _, ev, h, _⟩ := hN9.get i hlt
                          cases ev
                          cases e
                          exact h
                        have H13 := hide (And.intro hL9 (And.intro hcX (And.intro hN9 (And.intro hs9 (And.intro hn13 hgl)))))
                        clear hL9 hcX hN9 hs9 hn13 hgl hc13
                        go_wp2_with (first
                          | (at_builtin
                             refine append_b rfl _ _ rfl (fb + 1) _ _ Bk9 sn2 rfl rfl (unhide H13).1.k (unhide H13).2.2.2.2.1 hb2 hs3 hbase ?_
                             rintro v14 w14 ho14 hg14 hk14
                             have HZ := hide (And.intro ho14 (And.intro hg14 hk14))
                             clear ho14 hg14 hk14))
                        go_roundg (gk - 1)
                        case measure => omega
                        case rel => exact ⟨i + 1, by first | rfl | (push_cast; rfl), by omega, Ys.more (unhide H13).1 (unhide HL) (unhide fX) (by omega) (unhide H13).2.1 (unhide H13).2.2.1 (unhide H13).2.2.2.1 (unhide HZ).1 (unhide HZ).2.1 (unhide HZ).2.2 (unhide H13).2.2.2.2.2⟩
                      · go_wp2_with fail
                        go_roundg (gk - 1)
                        case measure => omega
                        case rel =>
                          obtain ⟨pa9, pb9, va9, vb9, La9, Lb9', f9, Bk9, hL9, hm9, hcX, hN9, hs9⟩ := (unhide H12).1
                          exact ⟨i + 1, by first | rfl | (push_cast; rfl), by omega, ⟨pa9, pb9, va9, vb9, La9, Lb9', f9, Bk9, hL9, by omega, hcX, hN9, hs9⟩⟩
                · clear e1
                  go_wp2_with fail
                  go_roundg k
                  case measure => omega
                  case rel => exact ⟨rfl, by omega, (unhide H10).ls.mono (by omega)⟩
              · have e1 : ¬ ((i : Int) < (sn8.length : Int)) := by omega
                go_wp2_with fail
                go_roundg k
                case measure => omega
                case rel => exact ⟨rfl, by omega, (unhide HY).ls.mono (by omega)⟩
          · go_wp2_with fail
            go_roundg k
            case measure => omega
            case rel => exact ⟨rfl, by omega, ⟨_, _, _, _, _, _, _, _, (unhide H8).1, by omega⟩⟩
end Go.Proofs.Ytjgnldkncoighaa
