/- A text changed a little, by the drawer, said so that a caller may keep memory above the drawer: of the old blocks the drawer's alone is turned; no condition. -/
import Derived.Test.YtillpfcldehfdaaDoorSpoil
import Derived.Test.YtillpfcldehfdaaDoorSrcNigh
import Derived.Deep.DeepCutAuto
import Derived.Deep.QuietTactic
import Derived.BigQuiet
namespace Go.Proofs.YtillpfcldehfdaaDoor
open Go.RowKit
set_option maxHeartbeats 1000000 in
set_option maxRecDepth 100000 in
theorem src_spoil_n (w : World) (B : Nat) (sl : Value) (n : Nat) (t : ByteArray) (ht : t.size ≤ 8000) (hn : n ≤ maxLen) (hS : Src w B sl n) (hD : Dat w B sl n) :
    Calls Tryd.prog 61 #[.pointer (some ⟨B, 0, none⟩), .string t] w fun e w' => ∃ u : ByteArray, e = .returned (.string u) ∧ u.size ≤ t.size + 1 ∧ Src w' B sl n ∧ Nigh B w w' := by
  have HD := hide hD
  have hBw := hS.lt
  have HS := hide hS
  have d0 : ¬ (9223372036854775807 < (t.size : Int) + 1) := by omega
  clear hS hD
  go_enter Tryd.func61, Tryd.ntmps61
  go_wp2_with fail
  have c := src_n w B sl n (t.size + 1) (by omega) hn (unhide HS) (unhide HD)
  rw [show ((t.size + 1 : Nat) : Int) = (t.size : Int) + 1 from rfl] at c
  refine c.mono ?_
  rintro e w1 ⟨r, rfl, hr, hS1, ht1⟩
  have hr1 : r ≤ t.size := by omega
  have hb1 : Nigh B w w1 := Nigh.of_touch ht1
  have HS1 := hide hS1
  clear hS1 ht1 hr c HS
  go_upto_region 2 with fail
  go_cut [6] (fun v wx => ∃ c : ByteArray, v = .string c ∧ c.size = 1 ∧ Src wx B sl n ∧ Nigh B w wx)
  case first =>
    go_wp2_with fail
    refine (src_n w1 B sl n 17 (by decide) hn (unhide HS1) ((unhide HD).below (hb1.below (by omega)))).mono ?_
    rintro e w2 ⟨q, rfl, hq, hS2, ht2⟩
    have hq1 : q < 17 := by omega
    have hb2 := hb1.trans (Nigh.of_touch ht2)
    have HS2 := hide hS2
    have hlt2 := hS2.lt
    clear hS2 ht2 hq HS1
    have HF := hide (And.intro (fun o => (unhide HS2).same (Below.heap_alloc w2 o _ hlt2)) (fun o => hb2.alloc o))
    clear hb2 HS2
    have hcv1 : ∀ X : Int, (convert 22 9 (.slice (some ⟨w2.heap.size, 0, none⟩) 1 1)).run Tryd.prog (w2.alloc (.cells #[.int .u8 X] 5)) = .ok (.string (strOfNums [X])) (w2.alloc (.cells #[.int .u8 X] 5)) := fun X =>
      conv_own (xs := [X]) (World.ownsRow_lit (base := w2.heap.size) w2 #[.int .u8 X] 1 (by omega) (by decide) rfl)
    have hq17 : q = 0 ∨ q = 1 ∨ q = 2 ∨ q = 3 ∨ q = 4 ∨ q = 5 ∨ q = 6 ∨ q = 7 ∨ q = 8 ∨ q = 9 ∨ q = 10 ∨ q = 11 ∨ q = 12 ∨ q = 13 ∨ q = 14 ∨ q = 15 ∨ q = 16 := by omega
    clear hq1
    rcases hq17 with rfl | rfl | rfl | rfl | rfl | rfl | rfl | rfl | rfl | rfl | rfl | rfl | rfl | rfl | rfl | rfl | rfl
    all_goals
      go_wp2_with fail
      go_meet
      exact ⟨_, rfl, strOfNums_size _, (unhide HF).1 _, (unhide HF).2 _⟩
  case rest =>
    obtain ⟨c, hu6, hcs, hSc, hbc⟩ := hcut
    subst hu6
    have HSc := hide hSc
    clear hSc
    have HF : Hid (∀ k, Src (wc.drewN k) B sl n ∧ Nigh B w (wc.drewN k)) := hide fun k => ⟨(unhide HSc).same rfl, ⟨hbc.os, hbc.tape, hbc.output, hbc.size, hbc.block⟩⟩
    by_cases hrt : r = t.size
    · subst hrt
      go_wp2_with fail
      go_quiet (fail)
      go_wp2
      go_ret
      exact ⟨_, rfl, by simp [ByteArray.size_append, hcs], (unhide HF _).1, (unhide HF _).2⟩
    · have d1 : ((r : Int) == (t.size : Int)) = false := beq_eq_false_iff_ne.2 (by omega)
      have d2 : (r : Int) < (t.size : Int) := by omega
      have d3 : (r : Int) + 1 ≤ (t.size : Int) := by omega
      have d4 : (r : Int) ≤ (t.size : Int) := by omega
      have HR := hide (show r < t.size by omega)
      clear HF hrt
      go_wp2_with fail
      refine (src_one wc B sl n 3 (by decide) hn (unhide HSc) ((unhide HD).below (hbc.below (by omega)))).mono ?_
      rintro e w3 ⟨b, rfl, hS3, ht3⟩
      have hb3 := hbc.trans (Nigh.of_touch ht3)
      have HS3 := hide hS3
      clear hS3 ht3
      cases b
      · go_wp2_with fail
        refine (src_one w3 B sl n 2 (by decide) hn (unhide HS3) ((unhide HD).below (hb3.below (by omega)))).mono ?_
        rintro e w4 ⟨b, rfl, hS4, ht4⟩
        have hb4 := hb3.trans (Nigh.of_touch ht4)
        have HF : Hid (∀ k, Src (w4.drewN k) B sl n ∧ Nigh B w (w4.drewN k)) := hide fun k => ⟨hS4.same rfl, ⟨hb4.os, hb4.tape, hb4.output, hb4.size, hb4.block⟩⟩
        clear hS4 ht4
        cases b
        all_goals
          go_wp2_with fail
          go_quiet (fail)
          go_wp2
          go_ret
          refine ⟨_, rfl, ?_, (unhide HF _).1, (unhide HF _).2⟩
          have := unhide HR
          simp [ByteArray.size_append, ByteArray.size_extract, hcs]
          omega
      · have HF : Hid (∀ k, Src (w3.drewN k) B sl n ∧ Nigh B w (w3.drewN k)) := hide fun k => ⟨(unhide HS3).same rfl, ⟨hb3.os, hb3.tape, hb3.output, hb3.size, hb3.block⟩⟩
        go_wp2_with fail
        go_quiet (fail)
        go_wp2
        go_ret
        refine ⟨_, rfl, ?_, (unhide HF _).1, (unhide HF _).2⟩
        have := unhide HR
        simp [ByteArray.size_append, ByteArray.size_extract, hcs]
        omega
end Go.Proofs.YtillpfcldehfdaaDoor
