/- The draws of chapter 4: a number, a text of at most 8000 bytes and two Booleans; what lay in memory stands. -/
import Derived.Test.YteffbodinbmliaaEdge
import Derived.Test.YteffbodinbmliaaTxt
import Derived.Deep.DeepCutAuto
import Derived.Deep.QuietTactic
import Derived.BigQuiet
namespace Go.Proofs.Yteffbodinbmliaa
open Go.RowKit
set_option maxHeartbeats 1000000 in
theorem src_proto (w : World) (B : Nat) (sl : Value) (n : Nat) (hn : n ≤ maxLen) (hS : Src w B sl n) (hD : Dat w B sl n) :
    Calls Try.prog 14 #[.pointer (some ⟨B, 0, none⟩)] w fun e w' => ∃ x : Int, e = .returned (.int .i64 x) ∧ Src w' B sl n ∧ Below B w w' := by
  have HD := hide hD
  have c := src_one w B sl n 8 (by decide) hn hS hD
  clear hS hD
  go_enter Try.func14, Try.ntmps14
  go_wp2_with fail
  refine c.mono ?_
  rintro e w1 ⟨b, rfl, hS1, ht1⟩
  have hb1 : Below B w w1 := ht1.below
  have HS1 := hide hS1
  have hBw1 := hS1.lt
  clear hS1 ht1 c
  cases b
  · go_wp2_with fail
    refine (src_n _ B sl n 4 (by decide) hn ((unhide HS1).same (Below.heap_alloc _ _ _ hBw1)) ((unhide HD).below (hb1.alloc (by omega) _))).mono ?_
    rintro e w3 ⟨r, rfl, hr, hS3, ht3⟩
    have hr2 : r < 4 := by omega
    obtain ⟨y, hy, hy1, hy2⟩ := lit_cell ((ht3.block w1.heap.size (by omega)).trans (heap_alloc_last w1 _)) (by decide) r (by simpa using hr2)
    have hb4 : Below B w w3 := (hb1.alloc (by omega) _).trans ht3.below
    have HS3 := hide hS3
    clear hS3 ht3 hr
    go_wp2
    go_ret
    exact ⟨y, rfl, unhide HS3, hb4⟩
  · go_wp2_with fail
    refine (src_edge w1 B sl n hn (unhide HS1) ((unhide HD).below hb1)).mono ?_
    rintro e w2 ⟨x, rfl, hx1, hx2, hS2, hb2⟩
    have hBw := hS2.lt
    have HS2 := hide hS2
    clear hS2
    go_wp2_with fail
    have hb3 := hb1.trans hb2
    refine (src_n _ B sl n 10 (by decide) hn ((unhide HS2).same (Below.heap_alloc _ _ _ hBw)) ((unhide HD).below (hb3.alloc (by omega) _))).mono ?_
    rintro e w3 ⟨r, rfl, hr, hS3, ht3⟩
    have hr2 : r < 10 := by omega
    obtain ⟨y, hy, hy1, hy2⟩ := lit_cell ((ht3.block w2.heap.size (by omega)).trans (heap_alloc_last w2 _)) (by
      intro v hv
      simp only [List.mem_cons, List.not_mem_nil, or_false] at hv
      rcases hv with rfl | rfl | rfl | rfl | rfl | rfl | rfl | rfl | rfl | rfl
      all_goals simp [okI64, hx1, hx2]) r (by simpa using hr2)
    have hb4 : Below B w w3 := (hb3.alloc (by omega) _).trans ht3.below
    have HS3 := hide hS3
    clear hS3 ht3 hr
    go_wp2
    go_ret
    exact ⟨y, rfl, unhide HS3, hb4⟩
theorem made_zero (n : Nat) : (madeCells (Value.int .u8 0).cells (n * 1)).toList = (List.replicate n (0 : Int)).map (Value.int .u8) := by
  apply List.ext_getElem
  · simp [madeCells, Value.cells]
  · intro i h1 h2
    simp [madeCells, Value.cells, Nat.mod_one]
set_option maxHeartbeats 1000000 in
theorem drawPack (w : World) (sl : Value) (n : Nat) (hn : n ≤ maxLen) (hD : Dat w w.heap.size sl n) :
    Calls Try.prog 4 #[sl] w fun e w' => ∃ (x : Int) (t : ByteArray) (a p : Bool), e = .returned (.tuple #[.int .i64 x, .string t, .bool a, .bool p]) ∧ t.size ≤ 8000 ∧ Below w.heap.size w w' := by
  obtain ⟨ui, hi1, hi2, hi3, hi4⟩ := u8info
  have c := src_new w sl n hn hD
  have HD := hide hD
  clear hD
  go_enter Try.func4, Try.ntmps4
  go_wp2_with fail
  refine c.mono ?_
  rintro e w1 ⟨rfl, hS1, hb1⟩
  have HS1 := hide hS1
  clear hS1 c
  go_wp2_with fail
  refine (src_proto w1 w.heap.size sl n hn (unhide HS1) ((unhide HD).below hb1)).mono ?_
  rintro e w2 ⟨x, rfl, hS2, hb2⟩
  have hb3 := hb1.trans hb2
  have HS2 := hide hS2
  clear hS2
  go_wp2_with fail
  refine (src_n w2 w.heap.size sl n 9 (by decide) hn (unhide HS2) ((unhide HD).below hb3)).mono ?_
  rintro e w3 ⟨r, rfl, hr, hS3, ht3⟩
  have hb4 := hb3.trans ht3.below
  have HS3 := hide hS3
  clear hS3 ht3
  go_wp2_with fail
  refine (src_bytes w3 w.heap.size sl n r (by omega) hn (unhide HS3) ((unhide HD).below hb4)).mono ?_
  rintro e w4 ⟨xs, rfl, hxl, hS4, hb5⟩
  have hb6 := hb4.trans hb5
  have hts : (strOfNums xs).size ≤ 8000 := by rw [strOfNums_size]; omega
  generalize strOfNums xs = t at *
  have HS4 := hide hS4
  clear hS4 hxl hr
  go_wp2_with fail
  refine (src_one w4 w.heap.size sl n 25 (by decide) hn (unhide HS4) ((unhide HD).below hb6)).mono ?_
  rintro e w5 ⟨b, rfl, hS5, ht5⟩
  have hb7 := hb6.trans ht5.below
  have HS5 := hide hS5
  clear hS5 ht5
  cases b
  · go_wp2_with fail
    refine (src_one w5 w.heap.size sl n 2 (by decide) hn (unhide HS5) ((unhide HD).below hb7)).mono ?_
    rintro e w6 ⟨a, rfl, hS6, ht6⟩
    have hb8 := hb7.trans ht6.below
    have HS6 := hide hS6
    clear hS6 ht6
    go_wp2_with fail
    refine (src_one w6 w.heap.size sl n 2 (by decide) hn (unhide HS6) ((unhide HD).below hb8)).mono ?_
    rintro e w7 ⟨p, rfl, hS7, ht7⟩
    go_wp2
    refine bodyPost_ret (v := .tuple #[.int .i64 x, .string t, .bool a, .bool p]) (by simp [results, Try.results4, go_sem]) rfl ⟨x, t, a, p, rfl, hts, hb8.trans ht7.below⟩
  · go_wp2_with fail
    refine (src_n w5 w.heap.size sl n 6 (by decide) hn (unhide HS5) ((unhide HD).below hb7)).mono ?_
    rintro e w6 ⟨r, rfl, hr, hS6, ht6⟩
    have hb8 := hb7.trans ht6.below
    have hsz := hb8.size
    have hr6 : r < 6 := by omega
    have hlt := hS6.lt
    have HS6 := hide hS6
    clear hS6 ht6 hr
    go_wp2_with (first
      | (at_make; refine wpList_make_full w6 rfl _ _ 22 rfl w6.heap.size 5 ui (.int .u8 0) 1 Try.underlying22 hi1 hi2 hi3 .i64 .i64 _ _ (7995 + r) rfl rfl (by go_num) (by go_num) (by rw [hi4]; omega) (by unfold maxLen; omega) (Nat.le_refl _) ?_; rintro w7 ho7 hg7; rw [made_zero] at ho7; have hcv := conv_own ho7; have hb9 : Below w6.heap.size w6 w7 := (Below.refl _ _).grown hg7 (Nat.le_refl _) (fun k hk => by cases hk); clear ho7 hg7))
    have hb10 : Below w.heap.size w w7 := hb8.trans (hb9.mono hsz)
    have HS7 := hide ((unhide HS6).same (hb9.block w.heap.size hlt))
    have hzs : (strOfNums (List.replicate (7995 + r) 0)).size ≤ 8000 := by rw [strOfNums_size, List.length_replicate]; omega
    generalize strOfNums (List.replicate (7995 + r) 0) = z at *
    clear hcv hb9 HS6
    refine (src_one w7 w.heap.size sl n 2 (by decide) hn (unhide HS7) ((unhide HD).below hb10)).mono ?_
    rintro e w8 ⟨a, rfl, hS8, ht8⟩
    have hb11 := hb10.trans ht8.below
    have HS8 := hide hS8
    clear hS8 ht8
    go_wp2_with fail
    refine (src_one w8 w.heap.size sl n 2 (by decide) hn (unhide HS8) ((unhide HD).below hb11)).mono ?_
    rintro e w9 ⟨p, rfl, hS9, ht9⟩
    go_wp2
    refine bodyPost_ret (v := .tuple #[.int .i64 x, .string z, .bool a, .bool p]) (by simp [results, Try.results4, go_sem]) rfl ⟨x, z, a, p, rfl, hzs, hb11.trans ht9.below⟩
theorem wrap_small (x : Int) (h1 : 0 ≤ x) (h2 : x < 9223372036854775808) : wrap64 x = x := by unfold wrap64; omega
set_option maxHeartbeats 1000000 in
set_option maxRecDepth 100000 in
theorem src_spoil (w : World) (B : Nat) (sl : Value) (n : Nat) (t : ByteArray) (ht : t.size ≤ 8000) (hn : n ≤ maxLen) (hS : Src w B sl n) (hD : Dat w B sl n) :
    Calls Try.prog 25 #[.pointer (some ⟨B, 0, none⟩), .string t] w fun e w' => ∃ u : ByteArray, e = .returned (.string u) ∧ u.size ≤ t.size + 1 ∧ Src w' B sl n ∧ Below B w w' := by
  have HD := hide hD
  have HS := hide hS
  have d0 : ¬ (9223372036854775807 < (t.size : Int) + 1) := by omega
  clear hS hD
  go_enter Try.func25, Try.ntmps25
  go_wp2_with fail
  have c := src_n w B sl n (t.size + 1) (by omega) hn (unhide HS) (unhide HD)
  rw [show ((t.size + 1 : Nat) : Int) = (t.size : Int) + 1 from rfl] at c
  refine c.mono ?_
  rintro e w1 ⟨r, rfl, hr, hS1, ht1⟩
  have hr1 : r ≤ t.size := by omega
  have hb1 := ht1.below
  have HS1 := hide hS1
  clear hS1 ht1 hr c HS
  go_upto_region 2 with fail
  go_cut [6] (fun v wx => ∃ c : ByteArray, v = .string c ∧ c.size = 1 ∧ Src wx B sl n ∧ Below B w wx)
  case first =>
    go_wp2_with fail
    refine (src_n w1 B sl n 17 (by decide) hn (unhide HS1) ((unhide HD).below hb1)).mono ?_
    rintro e w2 ⟨q, rfl, hq, hS2, ht2⟩
    have hq1 : q < 17 := by omega
    have hb2 := hb1.trans ht2.below
    have HS2 := hide hS2
    have hlt2 := hS2.lt
    clear hS2 ht2 hq HS1
    have HF := hide (And.intro (fun o => (unhide HS2).same (Below.heap_alloc w2 o _ hlt2)) (fun o => hb2.alloc (by omega) o))
    clear hb2 HS2
    have hcv1 : ∀ X : Int, (convert 22 9 (.slice (some ⟨w2.heap.size, 0, none⟩) 1 1)).run Try.prog (w2.alloc (.cells #[.int .u8 X] 5)) = .ok (.string (strOfNums [X])) (w2.alloc (.cells #[.int .u8 X] 5)) := fun X =>
      conv_own (xs := [X]) (World.ownsRow_lit (base := w2.heap.size) w2 #[.int .u8 X] 1 (by omega) (by decide) rfl)
    have hq17 : q = 0 ∨ q = 1 ∨ q = 2 ∨ q = 3 ∨ q = 4 ∨ q = 5 ∨ q = 6 ∨ q = 7 ∨ q = 8 ∨ q = 9 ∨ q = 10 ∨ q = 11 ∨ q = 12 ∨ q = 13 ∨ q = 14 ∨ q = 15 ∨ q = 16 := by omega
    clear hq1
    rcases hq17 with rfl | rfl | rfl | rfl | rfl | rfl | rfl | rfl | rfl | rfl | rfl | rfl | rfl | rfl | rfl | rfl | rfl
    all_goals
      go_wp2_with fail
      go_meet
      exact ⟨_, rfl, strOfNums_size _, (unhide HF).1 _, (unhide HF).2 _⟩
  case rest =>
    obtain ⟨c, hu6, hcs, hSc, hbc⟩ := hcut
    subst hu6
    have HSc := hide hSc
    clear hSc
    have HF : Hid (∀ k, Src (wc.drewN k) B sl n ∧ Below B w (wc.drewN k)) := hide fun k => ⟨(unhide HSc).same rfl, ⟨hbc.os, hbc.tape, hbc.output, hbc.size, hbc.block⟩⟩
    by_cases hrt : r = t.size
    · subst hrt
      go_wp2_with fail
      go_quiet (fail)
      go_wp2
      go_ret
      exact ⟨_, rfl, by simp [ByteArray.size_append, hcs], (unhide HF _).1, (unhide HF _).2⟩
    · have d1 : ((r : Int) == (t.size : Int)) = false := beq_eq_false_iff_ne.2 (by omega)
      have d2 : (r : Int) < (t.size : Int) := by omega
      have d3 : (r : Int) + 1 ≤ (t.size : Int) := by omega
      have d4 : (r : Int) ≤ (t.size : Int) := by omega
      have HR := hide (show r < t.size by omega)
      clear HF hrt
      go_wp2_with fail
      refine (src_one wc B sl n 3 (by decide) hn (unhide HSc) ((unhide HD).below hbc)).mono ?_
      rintro e w3 ⟨b, rfl, hS3, ht3⟩
      have hb3 := hbc.trans ht3.below
      have HS3 := hide hS3
      clear hS3 ht3
      cases b
      · go_wp2_with fail
        refine (src_one w3 B sl n 2 (by decide) hn (unhide HS3) ((unhide HD).below hb3)).mono ?_
        rintro e w4 ⟨b, rfl, hS4, ht4⟩
        have hb4 := hb3.trans ht4.below
        have HF : Hid (∀ k, Src (w4.drewN k) B sl n ∧ Below B w (w4.drewN k)) := hide fun k => ⟨hS4.same rfl, ⟨hb4.os, hb4.tape, hb4.output, hb4.size, hb4.block⟩⟩
        clear hS4 ht4
        cases b
        all_goals
          go_wp2_with fail
          go_quiet (fail)
          go_wp2
          go_ret
          refine ⟨_, rfl, ?_, (unhide HF _).1, (unhide HF _).2⟩
          have := unhide HR
          simp [ByteArray.size_append, ByteArray.size_extract, hcs]
          omega
      · have HF : Hid (∀ k, Src (w3.drewN k) B sl n ∧ Below B w (w3.drewN k)) := hide fun k => ⟨(unhide HS3).same rfl, ⟨hb3.os, hb3.tape, hb3.output, hb3.size, hb3.block⟩⟩
        go_wp2_with fail
        go_quiet (fail)
        go_wp2
        go_ret
        refine ⟨_, rfl, ?_, (unhide HF _).1, (unhide HF _).2⟩
        have := unhide HR
        simp [ByteArray.size_append, ByteArray.size_extract, hcs]
        omega
end Go.Proofs.Yteffbodinbmliaa
