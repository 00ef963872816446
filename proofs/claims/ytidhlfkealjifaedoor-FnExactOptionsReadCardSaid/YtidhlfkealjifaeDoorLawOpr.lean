/- The law FnExactOptionsRead walked: it returns true, and what lay in memory stands; under the library's variable errors.errorType as it is laid. -/
import Derived.Test.YtidhlfkealjifaeDoorOptRead
import Derived.Test.YtidhlfkealjifaeDoorOptMarks
namespace Go.Proofs.YtidhlfkealjifaeDoor
open Go.RowKit
theorem start2o (w : World) (a b : Obj) : ((w.alloc a).alloc b).heap.size = w.heap.size + 1 + 1 ∧ ((w.alloc a).alloc b).heap[w.heap.size]? = some a ∧ ((w.alloc a).alloc b).heap[w.heap.size + 1]? = some b ∧ Below w.heap.size w ((w.alloc a).alloc b) := by
  have s1 : (w.alloc a).heap.size = w.heap.size + 1 := by simp
  have e2 := heap_alloc_new (w.alloc a) b
  rw [s1] at e2
  refine ⟨by simp, ?_, e2, ((Below.refl _ _).alloc (Nat.le_refl _) _).alloc (by omega) _⟩
  rw [Below.heap_alloc _ _ _ (by omega)]
  exact heap_alloc_new w a
set_option maxHeartbeats 2000000 in
theorem markOo (F : List Op.Opt) (c : Int) (ad : Option Addr) (cp : Nat) (w : World) (hF : F.length ≤ 400) (h : HoldsO w (.slice ad F.length cp) F) :
    Calls Tryd.prog 8 #[.agg #[.slice ad F.length cp, .int .i64 c], .int .i64 1] w fun e w' => e = .returned (.int .i64 ((1 + 2 * F.length : Nat) : Int)) ∧ HoldsO w' (.slice ad F.length cp) (mfd 1 F.length) ∧ But (Value.slice ad F.length cp).ownBlock w w' ∧ (F = [] → Below w.heap.size w w') := by
  have C := hide fun o => markF (.slice ad F.length cp) F (w.alloc o) hF (h.below ((Below.refl _ _).alloc (Nat.le_refl _) o) rfl)
  go_enter Tryd.func8, Tryd.ntmps8
  go_wp2_with fail
  refine (unhide C _).mono ?_
  rintro e w2 ⟨rfl, hh2, hb2, hb2'⟩
  go_wp2
  go_ret
  refine ⟨rfl, hh2, ⟨hb2.os, hb2.tape, hb2.output, Nat.le_trans (by simp) hb2.size, fun b hb hne => (hb2.block b (by simp; omega) hne).trans (Below.heap_alloc _ _ _ hb)⟩, fun hF0 => ((Below.refl _ _).alloc (Nat.le_refl _) _).trans ((hb2' hF0).mono (by simp))⟩
set_option maxHeartbeats 2000000 in
theorem heldOo (F : List Op.Opt) (c : Int) (ad : Option Addr) (cp : Nat) (w : World) (hF : F.length ≤ 400) (h : HoldsO w (.slice ad F.length cp) (mfd 1 F.length)) :
    Calls Tryd.prog 9 #[.agg #[.slice ad F.length cp, .int .i64 c], .int .i64 1] w fun e w' => e = .returned (.int .i64 ((1 + 2 * F.length : Nat) : Int)) ∧ Below w.heap.size w w' := by
  have C := hide fun o => heldF (.slice ad F.length cp) F.length (w.alloc o) hF (h.below ((Below.refl _ _).alloc (Nat.le_refl _) o) rfl)
  obtain ⟨K, hK⟩ : ∃ K : Nat, 1 + 2 * F.length = K := ⟨_, rfl⟩
  rw [hK] at C ⊢
  have d1 : ¬ ((K : Int) < 0) := by omega
  clear hK
  go_enter Tryd.func9, Tryd.ntmps9
  go_wp2_with fail
  refine (unhide C _).mono ?_
  rintro e w2 ⟨rfl, hb2⟩
  go_wp2
  go_ret
  exact ⟨rfl, ((Below.refl _ _).alloc (Nat.le_refl _) _).trans (hb2.mono (by simp))⟩
set_option maxHeartbeats 2000000 in
theorem eqOo (F : List Op.Opt) (c : Int) (ad1 ad2 : Option Addr) (cp1 cp2 : Nat) (w : World) (hF : F.length ≤ 400) (h1 : HoldsO w (.slice ad1 F.length cp1) F) (h2 : HoldsO w (.slice ad2 F.length cp2) F) :
    Calls Tryd.prog 7 #[.agg #[.slice ad1 F.length cp1, .int .i64 c], .agg #[.slice ad2 F.length cp2, .int .i64 c]] w fun e w' => e = .returned (.bool true) ∧ Below w.heap.size w w' := by
  obtain ⟨hs, q0, q1, hb0⟩ := start2o w (.cells #[.slice ad1 F.length cp1, .int .i64 c] 24) (.cells #[.slice ad2 F.length cp2, .int .i64 c] 24)
  have HQ := hide (And.intro hs (And.intro q0 (And.intro q1 hb0)))
  have C := hide (eqS _ _ F ((w.alloc (.cells #[.slice ad1 F.length cp1, .int .i64 c] 24)).alloc (.cells #[.slice ad2 F.length cp2, .int .i64 c] 24)) (by omega) (h1.below hb0 rfl) (h2.below hb0 rfl))
  clear hs q0 q1 hb0 h1 h2
  go_enter Tryd.func7, Tryd.ntmps7
  go_wp2_with fail
  refine (unhide C).mono ?_
  rintro e w2 ⟨rfl, hb2⟩
  obtain ⟨hs, q0, q1, hb0⟩ := unhide HQ
  rw [hs] at hb2
  have r0 := (hb2.block w.heap.size (by omega)).trans q0
  have r1 := (hb2.block (w.heap.size + 1) (by omega)).trans q1
  obtain ⟨_, c1, _, _⟩ := row2w r0
  obtain ⟨_, d1, _, _⟩ := row2w r1
  have hb := hb0.trans (hb2.mono (by omega))
  clear HQ q0 q1 r0 r1 hb2 hs C
  go_wp2
  go_ret
  exact ⟨rfl, hb⟩
/-- What the law has laid: the two answers and their rows. -/
structure Inv (w : World) (b6 b7 : Nat) (c6 c7 : Array Value) (v0 v1 : Value) (F F1 : List Op.Opt) (W : World) : Prop where
  r6 : W.heap[b6]? = some (.cells c6 24)
  r7 : W.heap[b7]? = some (.cells c7 24)
  h0 : HoldsO W v0 F
  h1 : HoldsO W v1 F1
  below : Below w.heap.size w W
theorem Inv.step {w : World} {b6 b7 : Nat} {c6 c7 : Array Value} {v0 v1 : Value} {F F1 : List Op.Opt} {W W' : World} (h : Inv w b6 b7 c6 c7 v0 v1 F F1 W) (hb : Below W.heap.size W W') : Inv w b6 b7 c6 c7 v0 v1 F F1 W' :=
  ⟨(hb.block b6 (Array.getElem?_eq_some_iff.1 h.r6).1).trans h.r6, (hb.block b7 (Array.getElem?_eq_some_iff.1 h.r7).1).trans h.r7, h.h0.below hb rfl, h.h1.below hb rfl, h.below.trans (hb.mono h.below.size)⟩
theorem Inv.but {w : World} {b6 b7 : Nat} {c6 c7 : Array Value} {v0 v1 : Value} {F F1 F2 : List Op.Opt} {W W' : World} (h : Inv w b6 b7 c6 c7 v0 v1 F F1 W) (hb : But v1.ownBlock W W') (h1 : HoldsO W' v1 F2)
    (n2 : v1.ownBlock ≠ some b6) (n3 : v1.ownBlock ≠ some b7) (n4 : ∀ g, v0.ownBlock = some g → v1.ownBlock ≠ some g) (n5 : ∀ g, v1.ownBlock = some g → w.heap.size ≤ g) : Inv w b6 b7 c6 c7 v0 v1 F F2 W' := by
  refine ⟨(hb.block b6 (Array.getElem?_eq_some_iff.1 h.r6).1 n2).trans h.r6, (hb.block b7 (Array.getElem?_eq_some_iff.1 h.r7).1 n3).trans h.r7, ?_, h1, ?_⟩
  · refine h.h0.imp id fun ⟨g, cp, cur, e1, e2, e3⟩ => ⟨g, cp, cur, e1, (hb.block g (Array.getElem?_eq_some_iff.1 e2).1 (n4 g (by rw [e1]; rfl))).trans e2, e3⟩
  · have hs := h.below.size
    exact ⟨hb.os.trans h.below.os, hb.tape.trans h.below.tape, hb.output.trans h.below.output, Nat.le_trans hs hb.size, fun b hlt => (hb.block b (by omega) fun e => by have := n5 b e; omega).trans (h.below.block b hlt)⟩
set_option maxHeartbeats 8000000 in
set_option maxRecDepth 100000 in
theorem lawOpr_at (t : ByteArray) (w : World) (ht : t.size ≤ maxLen) (hE : Et w) (ht2 : t.size ≤ 1048576) :
    Calls Tryd.prog 3 #[.string t] w fun e w' => e = .returned (.bool true) ∧ Below w.heap.size w w' := by
  have hlt := hE.lt
  have CM := hide fun v => specOptsRead t v ht
  have CI := hide fun v (hv : Below w.heap.size w v) => implOptsRead t v ht (hE.below hv hlt)
  have hF := Op.right_len (oread_right t)
  generalize oread t = A at *
  obtain ⟨F, ac⟩ := A
  dsimp only at hF
  have CE := hide fun ad1 cp1 ad2 cp2 v => eqOo F ac ad1 ad2 cp1 cp2 v (by omega)
  have CK := hide fun ad cp v => markOo F ac ad cp v (by omega)
  have CH := hide fun ad cp v => heldOo F ac ad cp v (by omega)
  obtain ⟨K, hK⟩ : ∃ K : Nat, 1 + 2 * F.length = K := ⟨_, rfl⟩
  rw [hK] at CK CH
  have d0 : ¬ ((1048576 : Int) < (t.size : Int)) := by omega
  have d2 : ¬ ((K : Int) < 0) := by omega
  clear hK ht hE
  go_enter Tryd.func3, Tryd.ntmps3
  go_wp2_with fail
  refine (unhide CM _).mono ?_
  rintro e w1 ⟨ad0, cp0, rfl, ho0, hb1⟩
  have hb1s := hb1.size
  have HH0 := hide (HoldsO.own ho0)
  have HL0 : Hid (∀ g, (Value.slice ad0 F.length cp0).ownBlock = some g → g < w1.heap.size) := hide fun g hg => (World.ownsRow.lt ho0 g hg).2
  clear ho0 CM
  go_wp2_with fail
  refine (unhide CI _ (hb1.alloc hb1s _)).mono ?_
  rintro e w2 ⟨ad1, cp1, rfl, ho1, hb2⟩
  have hs1 : (w1.alloc (.cells #[.slice ad0 F.length cp0, .int .i64 ac] 24)).heap.size = w1.heap.size + 1 := by simp
  have hb12 : Below w.heap.size w w2 := (hb1.alloc hb1s _).trans (hb2.mono (by rw [hs1]; omega))
  have hs2 := hb2.size
  rw [hs1] at hs2
  have hI5 : Inv w w1.heap.size w2.heap.size #[.slice ad0 F.length cp0, .int .i64 ac] #[.slice ad1 F.length cp1, .int .i64 ac] (.slice ad0 F.length cp0) (.slice ad1 F.length cp1) F F (w2.alloc (.cells #[.slice ad1 F.length cp1, .int .i64 ac] 24)) := by
    have hbA : Below w1.heap.size w1 (w2.alloc (.cells #[.slice ad1 F.length cp1, .int .i64 ac] 24)) := (((Below.refl _ _).alloc (Nat.le_refl _) _).trans (hb2.mono (by rw [hs1]; omega))).alloc (by omega) _
    refine ⟨?_, heap_alloc_new w2 _, (unhide HH0).below hbA rfl, (HoldsO.own ho1).below ((Below.refl _ _).alloc (Nat.le_refl _) _) rfl, hb12.alloc hb12.size _⟩
    rw [Below.heap_alloc _ _ _ (by omega), hb2.block w1.heap.size (by rw [hs1]; omega)]
    exact heap_alloc_new w1 _
  have HVN : Hid ((Value.slice ad1 F.length cp1).ownBlock ≠ some w1.heap.size ∧ (Value.slice ad1 F.length cp1).ownBlock ≠ some w2.heap.size ∧ (∀ g, (Value.slice ad0 F.length cp0).ownBlock = some g → (Value.slice ad1 F.length cp1).ownBlock ≠ some g) ∧ ∀ g, (Value.slice ad1 F.length cp1).ownBlock = some g → w.heap.size ≤ g) := by
    have hn := fun g hg => World.ownsRow.lt ho1 g hg
    rw [hs1] at hn
    have hl0 := unhide HL0
    refine hide ⟨fun e => ?_, fun e => ?_, fun g hg e => ?_, fun g hg => ?_⟩
    · have := (hn _ e).1; omega
    · have := (hn _ e).2; omega
    · have := (hn _ e).1
      have := hl0 g hg
      omega
    · have := (hn _ hg).1; omega
  obtain ⟨i0, i1, _, _⟩ := row2w hI5.r6
  obtain ⟨m0, m1, _, _⟩ := row2w hI5.r7
  have HI5 := hide hI5
  clear hI5 hb2 ho1 HL0 HH0 hs1
  go_wp2_with fail
  refine (unhide CE _ _ _ _ _ (unhide HI5).h1 (unhide HI5).h0).mono ?_
  rintro e w6 ⟨rfl, hb6⟩
  have hI6 := (unhide HI5).step hb6
  clear i0 i1 m0 m1 hb6 HI5
  obtain ⟨m0, m1, _, _⟩ := row2w hI6.r7
  have HI6 := hide hI6
  clear hI6
  go_wp2_with fail
  refine (unhide CK _ _ _ (unhide HI6).h1).mono ?_
  rintro e w7 ⟨rfl, hh7, hb7, hb7'⟩
  have hI7 : Inv w w1.heap.size w2.heap.size #[.slice ad0 F.length cp0, .int .i64 ac] #[.slice ad1 F.length cp1, .int .i64 ac] (.slice ad0 F.length cp0) (.slice ad1 F.length cp1) F (mfd 1 F.length) w7 := by
    have hn := unhide HVN
    exact (unhide HI6).but hb7 hh7 hn.1 hn.2.1 hn.2.2.1 hn.2.2.2
  clear m0 m1 hb7 hb7' hh7 HI6
  obtain ⟨m0, m1, _, _⟩ := row2w hI7.r7
  have HI7 := hide hI7
  clear hI7
  go_wp2_with fail
  refine (unhide CH _ _ _ (unhide HI7).h1).mono ?_
  rintro e w8 ⟨rfl, hb8⟩
  have hI8 := (unhide HI7).step hb8
  clear m0 m1 hb8 HI7
  have HI8 := hide hI8
  clear hI8
  go_wp2_with fail
  refine (unhide CI _ (unhide HI8).below).mono ?_
  rintro e w10 ⟨ad2, cp2, rfl, ho2, hb10⟩
  have hI10 := ((unhide HI8).step hb10).step ((Below.refl _ _).alloc (Nat.le_refl _) (.cells #[.slice ad2 F.length cp2, .int .i64 ac] 24))
  have hr10 := heap_alloc_new w10 (.cells #[.slice ad2 F.length cp2, .int .i64 ac] 24)
  have HH2 := hide ((HoldsO.own ho2).below ((Below.refl _ _).alloc (Nat.le_refl _) (.cells #[.slice ad2 F.length cp2, .int .i64 ac] 24)) rfl)
  obtain ⟨i0, i1, _, _⟩ := row2w hI10.r6
  obtain ⟨m0, m1, _, _⟩ := row2w hr10
  have HI10 := hide hI10
  clear hI10 hr10 ho2 hb10 HI8
  go_wp2_with fail
  refine (unhide CE _ _ _ _ _ (unhide HH2) (unhide HI10).h0).mono ?_
  rintro e w11 ⟨rfl, hb11⟩
  have hI11 := (unhide HI10).step hb11
  clear i0 i1 m0 m1 hb11 HI10 HH2
  obtain ⟨m0, m1, _, _⟩ := row2w hI11.r7
  have HI11 := hide hI11
  clear hI11
  go_wp2_with fail
  refine (unhide CH _ _ _ (unhide HI11).h1).mono ?_
  rintro e w12 ⟨rfl, hb12'⟩
  have hI12 := (unhide HI11).step hb12'
  clear m0 m1 hb12' HI11
  have HI12 := hide hI12.below
  clear hI12
  go_wp2
  go_ret
  exact ⟨rfl, unhide HI12⟩
set_option maxHeartbeats 1000000 in
theorem lawOpr (t : ByteArray) (w : World) (ht : t.size ≤ maxLen) (hE : Et w) :
    Calls Tryd.prog 3 #[.string t] w fun e w' => e = .returned (.bool true) ∧ Below w.heap.size w w' := by
  by_cases ht2 : t.size ≤ 1048576
  · exact lawOpr_at t w ht hE ht2
  · unfold maxLen at ht
    have d0 : (1048576 : Int) < (t.size : Int) := by omega
    go_enter Tryd.func3, Tryd.ntmps3
    go_wp2
    go_ret
    exact ⟨rfl, Below.refl _ _⟩
end Go.Proofs.YtidhlfkealjifaeDoor
