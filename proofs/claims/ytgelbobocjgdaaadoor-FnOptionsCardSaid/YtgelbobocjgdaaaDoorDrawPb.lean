/- The draws of chapter 5's packets: a packet, and a text that is read as one; what lay in memory stands. -/
import Derived.Test.YtgelbobocjgdaaaDoorDrawPk
namespace Go.Proofs.YtgelbobocjgdaaaDoor
open Go.RowKit
set_option maxHeartbeats 1000000 in
theorem drawPb (w : World) (sl : Value) (n : Nat) (hn : n ≤ maxLen) (hD : Dat w w.heap.size sl n) :
    Calls Tryd.prog 34 #[sl] w fun e w' => ∃ p : Op.Pk, e = .returned (.agg #[.int .i64 p.code, .int .i64 p.id, .string p.data]) ∧ p.data.size ≤ 251 ∧ Below w.heap.size w w' := by
  have c := hide fun (W : World) (hb : Below w.heap.size w W) => src_new W sl n hn ((hD.below hb).mono hb.size)
  have HD := hide hD
  clear hD
  go_enter Tryd.func34, Tryd.ntmps34
  go_wp2_with fail
  refine (unhide c _ ((Below.refl _ _).alloc (Nat.le_refl _) _)).mono ?_
  rintro e w1 ⟨rfl, hS1, hb1⟩
  have hsz : (w.alloc (.cells #[.int .i64 0, .int .i64 0, .string ⟨#[]⟩] 58)).heap.size = w.heap.size + 1 := by simp
  rw [hsz] at hS1 hb1
  have hr1 := (hb1.block w.heap.size (by omega)).trans (heap_alloc_new w _)
  have hB1 : Below w.heap.size w w1 := ((Below.refl _ _).alloc (Nat.le_refl _) _).trans (hb1.mono (by omega))
  have hD1 : Dat w1 (w.heap.size + 1) sl n := ((unhide HD).below hB1).mono (by omega)
  have hl1 := hS1.lt
  have HS1 := hide (And.intro hS1 hD1)
  have HR1 := hide hr1
  clear hS1 hD1 hb1 hr1 c
  go_wp2_with fail
  refine (src_some w1 (w.heap.size + 1) sl n hn (unhide HS1).1 (unhide HS1).2).mono ?_
  rintro e w2 ⟨p, rfl, hp, hS2, hn2⟩
  have hr2 := (hn2.block w.heap.size (by omega) (by omega)).trans (unhide HR1)
  have hB2 : Below w.heap.size w w2 := hB1.trans ((hn2.below (by omega)).mono (by omega))
  obtain ⟨y0, y1, y2, f0, f1, f2⟩ := row3d hr2
  obtain ⟨pc, pi, pd⟩ := p
  dsimp only at hp ⊢
  have hfin : (((w2.setCell ⟨w.heap.size, 0, none⟩ (.int .i64 pc)).setCell ⟨w.heap.size, 1, none⟩ (.int .i64 pi)).setCell ⟨w.heap.size, 2, none⟩ (.string pd)).heap[w.heap.size]? = some (.cells #[.int .i64 pc, .int .i64 pi, .string pd] 58) := heap_setCell_same _ _ 2 _ _ (.string pd) (heap_setCell_same _ _ 1 _ _ (.int .i64 pi) (heap_setCell_same _ _ 0 _ _ (.int .i64 pc) hr2))
  have FIN := hide (loadP hfin)
  clear hS2 hn2 hr2 HS1 HR1 hfin
  go_wp2
  refine bodyPost_ret (v := .agg #[.int .i64 pc, .int .i64 pi, .string pd]) ?_ rfl ⟨⟨pc, pi, pd⟩, rfl, hp, ((hB2.setCell (p := ⟨w.heap.size, 0, none⟩) (Nat.le_refl _) _).setCell (p := ⟨w.heap.size, 1, none⟩) (Nat.le_refl _) _).setCell (p := ⟨w.heap.size, 2, none⟩) (Nat.le_refl _) _⟩
  simp [results, Tryd.results34, asAddr, unhide FIN]
theorem ptV_size (p : Op.Pk) : (ptV p).size ≤ 254 := by
  cases h : Op.pok p
  · rw [ptV_no h]; exact Nat.zero_le _
  · obtain ⟨_, _, _, _, h3, _⟩ := pok_get h
    rw [ptV_yes h, ByteArray.size_append, txt_size]
    show 4 + p.data.size ≤ 254
    omega
set_option maxHeartbeats 1000000 in
theorem drawPr (w : World) (sl : Value) (n : Nat) (hn : n ≤ maxLen) (hD : Dat w w.heap.size sl n) :
    Calls Tryd.prog 38 #[sl] w fun e w' => ∃ u : ByteArray, e = .returned (.string u) ∧ u.size ≤ 400 ∧ Below w.heap.size w w' := by
  have c := src_new w sl n hn hD
  have HD := hide hD
  clear hD
  go_enter Tryd.func38, Tryd.ntmps38
  go_wp2_with fail
  refine c.mono ?_
  rintro e w1 ⟨rfl, hS1, hb1⟩
  have HS1 := hide hS1
  have hl1 := hS1.lt
  clear hS1 c
  go_wp2_with fail
  refine (src_some w1 w.heap.size sl n hn (unhide HS1) ((unhide HD).below hb1)).mono ?_
  rintro e w2 ⟨p, rfl, hp, hS2, hn2⟩
  have HS2 := hide hS2
  have hb2 : Below w.heap.size w w2 := hb1.trans (hn2.below (by omega))
  have hl2 := hS2.lt
  have C := hide (specPkBytes p w2)
  have hps := ptV_size p
  generalize ptV p = P at *
  clear hS2 hn2 HS1
  go_wp2_with fail
  refine (unhide C).mono ?_
  rintro e w3 ⟨rfl, hb3⟩
  have HS3 := hide ((unhide HS2).same (hb3.block w.heap.size hl2))
  have hb4 := hb2.trans (hb3.mono hb2.size)
  clear C hb3 HS2
  go_wp2_with fail
  refine (src_n w3 w.heap.size sl n 3 (by decide) hn (unhide HS3) ((unhide HD).below hb4)).mono ?_
  rintro e w5 ⟨r5, rfl, hr5, hS5, ht5⟩
  have HS5 := hide hS5
  have hb5 := hb4.trans ht5.below
  have hr5' : r5 < 100 := by omega
  clear hS5 ht5 hr5 HS3
  go_wp2_with fail
  refine (src_bytes w5 w.heap.size sl n r5 (by omega) hn (unhide HS5) ((unhide HD).below hb5)).mono ?_
  rintro e w6 ⟨xs, rfl, hxl, hS6, hb6⟩
  have hb7 := hb5.trans hb6
  have HS6 := hide hS6
  have hts : (strOfNums xs).size ≤ 100 := by rw [strOfNums_size]; omega
  generalize strOfNums xs = tx at *
  have hcat : ¬ (9223372036854775807 < P.size + tx.size) := by omega
  have hPs : (P ++ tx).size ≤ 354 := by rw [ByteArray.size_append]; omega
  clear hS6 hb6 HS5 hxl
  go_wp2_with fail
  generalize P ++ tx = PT at *
  refine (src_n w6 w.heap.size sl n 4 (by decide) hn (unhide HS6) ((unhide HD).below hb7)).mono ?_
  rintro e w8 ⟨q, rfl, hq, hS8, ht8⟩
  have hb11 := hb7.trans ht8.below
  have HS8 := hide hS8
  clear hS8 ht8 hq
  by_cases q0 : q = 0
  · subst q0
    go_wp2_with fail
    refine (src_spoil w8 w.heap.size sl n PT (by omega) hn (unhide HS8) ((unhide HD).below hb11)).mono ?_
    rintro e w9 ⟨u, rfl, hus, hS9, hb12⟩
    go_wp2
    go_ret
    exact ⟨u, rfl, by omega, hb11.trans hb12⟩
  · by_cases q1 : q = 1
    · subst q1
      have d0 : ¬ (9223372036854775807 < (PT.size : Int) + 1) := by omega
      go_wp2_with fail
      have c := src_n w8 w.heap.size sl n (PT.size + 1) (by omega) hn (unhide HS8) ((unhide HD).below hb11)
      rw [show ((PT.size + 1 : Nat) : Int) = (PT.size : Int) + 1 from rfl] at c
      refine c.mono ?_
      rintro e w9 ⟨k, rfl, hk, hS9, ht9⟩
      have hk1 : (k : Int) ≤ (PT.size : Int) := by omega
      have hb12 := hb11.trans ht9.below
      clear hk c
      go_wp2
      go_ret
      exact ⟨_, rfl, by rw [ByteArray.size_extract]; omega, hb12⟩
    · have e0 : ((q : Int) == 0) = false := beq_eq_false_iff_ne.2 (by omega)
      have e1 : ((q : Int) == 1) = false := beq_eq_false_iff_ne.2 (by omega)
      go_wp2
      go_ret
      exact ⟨PT, rfl, by omega, hb11⟩
end Go.Proofs.YtgelbobocjgdaaaDoor
