/- The draws of chapter 5's options: options, and a text that is read as such; what lay in memory stands. -/
import Derived.Test.YtgelbobocjgdaaaDoorDrawOps
import Derived.Test.YtgelbobocjgdaaaDoorSpoil
import Derived.Test.YtgelbobocjgdaaaDoorOptB
import Derived.Test.YtgelbobocjgdaaaDoorSrcNew
namespace Go.Proofs.YtgelbobocjgdaaaDoor
open Go.RowKit
set_option maxHeartbeats 1000000 in
theorem drawOb (w : World) (sl : Value) (n : Nat) (hn : n ≤ maxLen) (hD : Dat w w.heap.size sl n) :
    Calls Tryd.prog 25 #[sl] w fun e w' => ∃ (F : List Op.Opt) (ad : Option Addr) (cp : Nat), e = .returned (.slice ad F.length cp) ∧ F.length ≤ 100 ∧ HoldsO w' (.slice ad F.length cp) F ∧ Below w.heap.size w w' := by
  have c := src_new w sl n hn hD
  have HD := hide hD
  clear hD
  go_enter Tryd.func25, Tryd.ntmps25
  go_wp2_with fail
  refine c.mono ?_
  rintro e w1 ⟨rfl, hS1, hb1⟩
  have HS1 := hide hS1
  have hl1 := hS1.lt
  clear hS1 c
  go_wp2_with fail
  refine (src_options w1 w.heap.size sl n hn (unhide HS1) ((unhide HD).below hb1)).mono ?_
  rintro e w2 ⟨F, ad, cp, rfl, hF, hO⟩
  have HO := hide hO
  clear hO
  go_wp2
  go_ret
  exact ⟨F, ad, cp, rfl, hF, HoldsO.own (unhide HO).o, hb1.trans ((unhide HO).g.below (by omega))⟩
theorem otV_size (F : List Op.Opt) : (otV F).size ≤ 440 := by
  cases h : Op.right F
  · rw [otV_no h]; exact Nat.zero_le _
  · rw [otV_yes h, txt_size]
    have h1 := Op.bytes_len (Op.right_all h)
    have h2 := Op.right_len h
    omega
set_option maxHeartbeats 1000000 in
theorem drawOr (w : World) (sl : Value) (n : Nat) (hn : n ≤ maxLen) (hD : Dat w w.heap.size sl n) :
    Calls Tryd.prog 32 #[sl] w fun e w' => ∃ u : ByteArray, e = .returned (.string u) ∧ u.size ≤ 441 ∧ Below w.heap.size w w' := by
  have c := src_new w sl n hn hD
  have HD := hide hD
  clear hD
  go_enter Tryd.func32, Tryd.ntmps32
  go_wp2_with fail
  refine c.mono ?_
  rintro e w1 ⟨rfl, hS1, hb1⟩
  have HS1 := hide hS1
  have hl1 := hS1.lt
  clear hS1 c
  go_wp2_with fail
  refine (src_options w1 w.heap.size sl n hn (unhide HS1) ((unhide HD).below hb1)).mono ?_
  rintro e w2 ⟨F, ad, cp, rfl, hF, hO⟩
  have HO := hide hO
  have hb2 : Below w.heap.size w w2 := hb1.trans (hO.g.below (by omega))
  have hl2 := hO.s.lt
  clear hO HS1
  go_wp2_with fail
  refine (specBytesAll _ F w2 (by unfold maxLen; omega) (HoldsO.own (unhide HO).o)).mono ?_
  rintro e w3 ⟨rfl, hb3⟩
  have HS3 := hide ((unhide HO).s.same (hb3.block w.heap.size hl2))
  have hb4 := hb2.trans (hb3.mono hb2.size)
  have hps := otV_size F
  generalize otV F = P at *
  clear HO hb3
  go_wp2_with fail
  refine (src_n w3 w.heap.size sl n 4 (by decide) hn (unhide HS3) ((unhide HD).below hb4)).mono ?_
  rintro e w8 ⟨q, rfl, hq, hS8, ht8⟩
  have hb11 := hb4.trans ht8.below
  have HS8 := hide hS8
  clear hS8 ht8 hq
  by_cases q0 : q = 0
  · subst q0
    go_wp2_with fail
    refine (src_spoil w8 w.heap.size sl n P (by omega) hn (unhide HS8) ((unhide HD).below hb11)).mono ?_
    rintro e w9 ⟨u, rfl, hus, hS9, hb12⟩
    go_wp2
    go_ret
    exact ⟨u, rfl, by omega, hb11.trans hb12⟩
  · by_cases q1 : q = 1
    · subst q1
      have d0 : ¬ (9223372036854775807 < (P.size : Int) + 1) := by omega
      go_wp2_with fail
      have c := src_n w8 w.heap.size sl n (P.size + 1) (by omega) hn (unhide HS8) ((unhide HD).below hb11)
      rw [show ((P.size + 1 : Nat) : Int) = (P.size : Int) + 1 from rfl] at c
      refine c.mono ?_
      rintro e w9 ⟨k, rfl, hk, hS9, ht9⟩
      have hk1 : (k : Int) ≤ (P.size : Int) := by omega
      have hb12 := hb11.trans ht9.below
      clear hk c
      go_wp2
      go_ret
      exact ⟨_, rfl, by rw [ByteArray.size_extract]; omega, hb12⟩
    · have e0 : ((q : Int) == 0) = false := beq_eq_false_iff_ne.2 (by omega)
      have e1 : ((q : Int) == 1) = false := beq_eq_false_iff_ne.2 (by omega)
      go_wp2
      go_ret
      exact ⟨P, rfl, by omega, hb11⟩
end Go.Proofs.YtgelbobocjgdaaaDoor
