/- The draw of a packet: a text of at most 8001 bytes; what lay in memory stands. -/
import Derived.Test.YteffbodinbmliaaDrawPpp
import Derived.Test.YteffbodinbmliaaPackAll
namespace Go.Proofs.Yteffbodinbmliaa
open Go.RowKit
theorem packV_size (x : Int) (t : ByteArray) (a p : Bool) : (packV x t a p).size ≤ 8000 := by
  unfold packV Pp.pack
  rw [txt_size]
  split
  · split
    · rw [List.length_append]
      assumption
    · exact Nat.zero_le _
  · exact Nat.zero_le _
set_option maxHeartbeats 1000000 in
theorem drawUnp (w : World) (sl : Value) (n : Nat) (hn : n ≤ maxLen) (hD : Dat w w.heap.size sl n) :
    Calls Try.prog 11 #[sl] w fun e w' => ∃ u : ByteArray, e = .returned (.string u) ∧ u.size ≤ 8001 ∧ Below w.heap.size w w' := by
  have c := src_new w sl n hn hD
  have HD := hide hD
  clear hD
  go_enter Try.func11, Try.ntmps11
  go_wp2_with fail
  refine c.mono ?_
  rintro e w1 ⟨rfl, hS1, hb1⟩
  have HS1 := hide hS1
  clear hS1 c
  go_wp2_with fail
  refine (src_proto w1 w.heap.size sl n hn (unhide HS1) ((unhide HD).below hb1)).mono ?_
  rintro e w2 ⟨x, rfl, hS2, hb2⟩
  have hb3 := hb1.trans hb2
  have HS2 := hide hS2
  clear hS2
  go_wp2_with fail
  refine (src_n w2 w.heap.size sl n 9 (by decide) hn (unhide HS2) ((unhide HD).below hb3)).mono ?_
  rintro e w3 ⟨r, rfl, hr, hS3, ht3⟩
  have hb4 := hb3.trans ht3.below
  have HS3 := hide hS3
  clear hS3 ht3
  go_wp2_with fail
  refine (src_bytes w3 w.heap.size sl n r (by omega) hn (unhide HS3) ((unhide HD).below hb4)).mono ?_
  rintro e w4 ⟨xs, rfl, hxl, hS4, hb5⟩
  have hb6 := hb4.trans hb5
  have hts : (strOfNums xs).size ≤ 8000 := by rw [strOfNums_size]; omega
  generalize strOfNums xs = t at *
  have HS4 := hide hS4
  clear hS4 hxl hr
  go_wp2_with fail
  refine (src_one w4 w.heap.size sl n 2 (by decide) hn (unhide HS4) ((unhide HD).below hb6)).mono ?_
  rintro e w5 ⟨a, rfl, hS5, ht5⟩
  have hb7 := hb6.trans ht5.below
  have HS5 := hide hS5
  clear hS5 ht5
  go_wp2_with fail
  refine (src_one w5 w.heap.size sl n 2 (by decide) hn (unhide HS5) ((unhide HD).below hb7)).mono ?_
  rintro e w6 ⟨p, rfl, hS6, ht6⟩
  have hb8 := hb7.trans ht6.below
  have hlt6 := hS6.lt
  have HS6 := hide hS6
  clear hS6 ht6
  go_wp2_with fail
  refine (specPackAll x t a p w6 (by unfold maxLen; omega)).mono ?_
  rintro e w7 ⟨rfl, hb9⟩
  have hS7 := (unhide HS6).same (hb9.block w.heap.size hlt6)
  have hb10 := hb8.trans (hb9.mono hb8.size)
  have HS7 := hide hS7
  have hps := packV_size x t a p
  generalize packV x t a p = P at *
  clear hb9 hS7 HS6
  go_wp2_with fail
  refine (src_n w7 w.heap.size sl n 4 (by decide) hn (unhide HS7) ((unhide HD).below hb10)).mono ?_
  rintro e w8 ⟨q, rfl, hq, hS8, ht8⟩
  have hb11 := hb10.trans ht8.below
  have HS8 := hide hS8
  clear hS8 ht8 hq
  by_cases q0 : q = 0
  · subst q0
    go_wp2_with fail
    refine (src_spoil w8 w.heap.size sl n P hps hn (unhide HS8) ((unhide HD).below hb11)).mono ?_
    rintro e w9 ⟨u, rfl, hus, hS9, hb12⟩
    go_wp2
    go_ret
    exact ⟨u, rfl, by omega, hb11.trans hb12⟩
  · by_cases q1 : q = 1
    · subst q1
      have d0 : ¬ (9223372036854775807 < (P.size : Int) + 1) := by omega
      go_wp2_with fail
      have c := src_n w8 w.heap.size sl n (P.size + 1) (by omega) hn (unhide HS8) ((unhide HD).below hb11)
      rw [show ((P.size + 1 : Nat) : Int) = (P.size : Int) + 1 from rfl] at c
      refine c.mono ?_
      rintro e w9 ⟨k, rfl, hk, hS9, ht9⟩
      have hk1 : (k : Int) ≤ (P.size : Int) := by omega
      have hb12 := hb11.trans ht9.below
      clear hk c
      go_wp2
      go_ret
      exact ⟨_, rfl, by rw [ByteArray.size_extract]; omega, hb12⟩
    · have e0 : ((q : Int) == 0) = false := beq_eq_false_iff_ne.2 (by omega)
      have e1 : ((q : Int) == 1) = false := beq_eq_false_iff_ne.2 (by omega)
      go_wp2
      go_ret
      exact ⟨P, rfl, by omega, hb11⟩
end Go.Proofs.Yteffbodinbmliaa
