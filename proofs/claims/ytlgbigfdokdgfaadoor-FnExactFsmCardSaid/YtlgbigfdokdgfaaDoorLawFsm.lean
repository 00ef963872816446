/- The law FnExactFsm walked: it returns true, and what lay in memory stands; the tables lie as the texts lay them. -/
import Derived.Test.YtlgbigfdokdgfaaDoorFsmI
import Derived.Test.YtlgbigfdokdgfaaDoorStrMarks
namespace Go.Proofs.YtlgbigfdokdgfaaDoor
open Go.RowKit
theorem start2t (w : World) (a b : Obj) : ((w.alloc a).alloc b).heap.size = w.heap.size + 1 + 1 ∧ ((w.alloc a).alloc b).heap[w.heap.size]? = some a ∧ ((w.alloc a).alloc b).heap[w.heap.size + 1]? = some b ∧ Below w.heap.size w ((w.alloc a).alloc b) := by
  have s1 : (w.alloc a).heap.size = w.heap.size + 1 := by simp
  have e2 := heap_alloc_new (w.alloc a) b
  rw [s1] at e2
  refine ⟨by simp, ?_, e2, ((Below.refl _ _).alloc (Nat.le_refl _) _).alloc (by omega) _⟩
  rw [Below.heap_alloc _ _ _ (by omega)]
  exact heap_alloc_new w a
set_option maxHeartbeats 2000000 in
theorem markTu (F : List ByteArray) (s c : Int) (ad : Option Addr) (cp : Nat) (w : World) (hF : F.length ≤ 400) (h : HoldsT w (.slice ad F.length cp) F) :
    Calls Tryd.prog 13 #[.agg #[.int .i64 s, .slice ad F.length cp, .int .i64 c], .int .i64 1] w fun e w' => e = .returned (.int .i64 ((1 + F.length : Nat) : Int)) ∧ HoldsT w' (.slice ad F.length cp) (mtl 1 F.length) ∧ But (Value.slice ad F.length cp).ownBlock w w' := by
  have C := hide fun o => markTF (.slice ad F.length cp) F 1 (w.alloc o) (by decide) (by omega) (h.below ((Below.refl _ _).alloc (Nat.le_refl _) o) rfl)
  go_enter Tryd.func13, Tryd.ntmps13
  go_wp2_with fail
  refine (unhide C _).mono ?_
  rintro e w2 ⟨rfl, hh2, hb2, _⟩
  go_wp2
  go_ret
  exact ⟨rfl, hh2, ⟨hb2.os, hb2.tape, hb2.output, Nat.le_trans (by simp) hb2.size, fun b hb hne => (hb2.block b (by simp; omega) hne).trans (Below.heap_alloc _ _ _ hb)⟩⟩
set_option maxHeartbeats 2000000 in
theorem heldTu (F : List ByteArray) (s c : Int) (ad : Option Addr) (cp : Nat) (w : World) (hF : F.length ≤ 400) (h : HoldsT w (.slice ad F.length cp) (mtl 1 F.length)) :
    Calls Tryd.prog 14 #[.agg #[.int .i64 s, .slice ad F.length cp, .int .i64 c], .int .i64 1] w fun e w' => e = .returned (.int .i64 ((1 + F.length : Nat) : Int)) ∧ Below w.heap.size w w' := by
  have C := hide fun o => heldTF (.slice ad F.length cp) F.length 1 (w.alloc o) (by decide) (by omega) (h.below ((Below.refl _ _).alloc (Nat.le_refl _) o) rfl)
  obtain ⟨K, hK⟩ : ∃ K : Nat, 1 + F.length = K := ⟨_, rfl⟩
  rw [hK] at C ⊢
  have d1 : ¬ ((K : Int) < 0) := by omega
  clear hK
  go_enter Tryd.func14, Tryd.ntmps14
  go_wp2_with fail
  refine (unhide C _).mono ?_
  rintro e w2 ⟨rfl, hb2⟩
  go_wp2
  go_ret
  exact ⟨rfl, ((Below.refl _ _).alloc (Nat.le_refl _) _).trans (hb2.mono (by simp))⟩
set_option maxHeartbeats 2000000 in
theorem eqTu (F : List ByteArray) (s c : Int) (ad1 ad2 : Option Addr) (cp1 cp2 : Nat) (w : World) (hF : F.length ≤ 400) (h1 : HoldsT w (.slice ad1 F.length cp1) F) (h2 : HoldsT w (.slice ad2 F.length cp2) F) :
    Calls Tryd.prog 12 #[.agg #[.int .i64 s, .slice ad1 F.length cp1, .int .i64 c], .agg #[.int .i64 s, .slice ad2 F.length cp2, .int .i64 c]] w fun e w' => e = .returned (.bool true) ∧ Below w.heap.size w w' := by
  obtain ⟨hs, q0, q1, hb0⟩ := start2t w (.cells #[.int .i64 s, .slice ad1 F.length cp1, .int .i64 c] 27) (.cells #[.int .i64 s, .slice ad2 F.length cp2, .int .i64 c] 27)
  have HB := hide (And.intro hs (And.intro q0 (And.intro q1 hb0)))
  have C := hide (eqT _ _ F ((w.alloc (.cells #[.int .i64 s, .slice ad1 F.length cp1, .int .i64 c] 27)).alloc (.cells #[.int .i64 s, .slice ad2 F.length cp2, .int .i64 c] 27)) (by omega) (h1.below hb0 rfl) (h2.below hb0 rfl))
  clear hs q0 q1 hb0 h1 h2
  go_enter Tryd.func12, Tryd.ntmps12
  go_wp2_with fail
  refine (unhide C).mono ?_
  rintro e w2 ⟨rfl, hb2⟩
  obtain ⟨hs, q0, q1, hb0⟩ := unhide HB
  rw [hs] at hb2
  obtain ⟨_, _, c2, _⟩ := row3x ((hb2.block w.heap.size (by omega)).trans q0)
  obtain ⟨_, _, e2, _⟩ := row3x ((hb2.block (w.heap.size + 1) (by omega)).trans q1)
  have hb := hb0.trans (hb2.mono (by omega))
  clear hb2 C HB hs q0 q1 hb0
  go_wp2
  go_ret
  exact ⟨rfl, hb⟩
/-- What the law has laid: the two answers and their rows. -/
structure InvT (w : World) (b6 b8 : Nat) (s c : Int) (v0 v1 : Value) (F F1 : List ByteArray) (W : World) : Prop where
  r6 : W.heap[b6]? = some (.cells #[.int .i64 s, v0, .int .i64 c] 27)
  r8 : W.heap[b8]? = some (.cells #[.int .i64 s, v1, .int .i64 c] 27)
  h0 : HoldsT W v0 F
  h1 : HoldsT W v1 F1
  below : Below w.heap.size w W
theorem InvT.step {w : World} {b6 b8 : Nat} {s c : Int} {v0 v1 : Value} {F F1 : List ByteArray} {W W' : World} (h : InvT w b6 b8 s c v0 v1 F F1 W) (hb : Below W.heap.size W W') : InvT w b6 b8 s c v0 v1 F F1 W' :=
  ⟨(hb.block b6 (Array.getElem?_eq_some_iff.1 h.r6).1).trans h.r6, (hb.block b8 (Array.getElem?_eq_some_iff.1 h.r8).1).trans h.r8, h.h0.below hb rfl, h.h1.below hb rfl, h.below.trans (hb.mono h.below.size)⟩
theorem InvT.but {w : World} {b6 b8 : Nat} {s c : Int} {v0 v1 : Value} {F F1 F2 : List ByteArray} {W W' : World} (h : InvT w b6 b8 s c v0 v1 F F1 W) (hb : But v1.ownBlock W W') (h1 : HoldsT W' v1 F2)
    (n2 : v1.ownBlock ≠ some b6) (n3 : v1.ownBlock ≠ some b8) (n4 : ∀ g, v0.ownBlock = some g → v1.ownBlock ≠ some g) (n5 : ∀ g, v1.ownBlock = some g → w.heap.size ≤ g) : InvT w b6 b8 s c v0 v1 F F2 W' := by
  refine ⟨(hb.block b6 (Array.getElem?_eq_some_iff.1 h.r6).1 n2).trans h.r6, (hb.block b8 (Array.getElem?_eq_some_iff.1 h.r8).1 n3).trans h.r8, holdsT_but h.h0 hb n4, h1, ?_⟩
  have hs := h.below.size
  exact ⟨hb.os.trans h.below.os, hb.tape.trans h.below.tape, hb.output.trans h.below.output, Nat.le_trans hs hb.size, fun b hlt => (hb.block b (by omega) fun e => by have := n5 b e; omega).trans (h.below.block b hlt)⟩
set_option maxHeartbeats 8000000 in
set_option maxRecDepth 100000 in
theorem lawFsm_at (s : Int) (t : ByteArray) (w : World) (ht : t.size ≤ maxLen) (ht2 : t.size ≤ 1048576) (hF : (fsmF s t).2.1.length ≤ 400) (hE : EvT w) (hN : NxT w) (hS : SpT w) :
    Calls Tryd.prog 4 #[.int .i64 s, .string t] w fun e w' => e = .returned (.bool true) ∧ Below w.heap.size w w' := by
  have CM := hide fun v => specFsm s t v ht
  have CI := hide fun v (hb : Below w.heap.size w v) => implFsm s t v ht (hE.below hb) (hN.below hb) (hS.below hb)
  clear hE hN hS
  generalize fsmF s t = R at *
  obtain ⟨st, F, c⟩ := R
  dsimp only at hF
  unfold FsmA at CM CI
  dsimp only at CM CI
  have CE := hide fun ad1 cp1 ad2 cp2 v => eqTu F st c ad1 ad2 cp1 cp2 v hF
  have CK := hide fun ad cp v => markTu F st c ad cp v hF
  have CH := hide fun ad cp v => heldTu F st c ad cp v hF
  obtain ⟨K, hK⟩ : ∃ K : Nat, 1 + F.length = K := ⟨_, rfl⟩
  rw [hK] at CK CH
  have d0 : ¬ ((1048576 : Int) < (t.size : Int)) := by omega
  have d2 : ¬ ((K : Int) < 0) := by omega
  clear hK ht
  go_enter Tryd.func4, Tryd.ntmps4
  go_wp2_with fail
  refine (unhide CM _).mono ?_
  rintro e w1 ⟨ad0, cp0, rfl, ho0, hb1⟩
  have hb1s := hb1.size
  have HH0 := hide (HoldsT.own ho0)
  have HL0 : Hid (∀ g, (Value.slice ad0 F.length cp0).ownBlock = some g → g < w1.heap.size) := hide fun g hg => (World.ownsRow.lt ho0 g hg).2
  clear ho0 CM
  go_wp2_with fail
  refine (unhide CI _ (hb1.alloc hb1s _)).mono ?_
  rintro e w2 ⟨ad1, cp1, rfl, ho1, hb2⟩
  have hs1 : (w1.alloc (.cells #[.int .i64 st, .slice ad0 F.length cp0, .int .i64 c] 27)).heap.size = w1.heap.size + 1 := by simp
  have hb12 : Below w.heap.size w w2 := (hb1.alloc hb1s _).trans (hb2.mono (by rw [hs1]; omega))
  have hs2 := hb2.size
  rw [hs1] at hs2
  have hI5 : InvT w w1.heap.size w2.heap.size st c (.slice ad0 F.length cp0) (.slice ad1 F.length cp1) F F (w2.alloc (.cells #[.int .i64 st, .slice ad1 F.length cp1, .int .i64 c] 27)) := by
    have hbA : Below w1.heap.size w1 (w2.alloc (.cells #[.int .i64 st, .slice ad1 F.length cp1, .int .i64 c] 27)) := (((Below.refl _ _).alloc (Nat.le_refl _) _).trans (hb2.mono (by rw [hs1]; omega))).alloc (by omega) _
    refine ⟨?_, heap_alloc_new w2 _, (unhide HH0).below hbA rfl, (HoldsT.own ho1).below ((Below.refl _ _).alloc (Nat.le_refl _) _) rfl, hb12.alloc hb12.size _⟩
    rw [Below.heap_alloc _ _ _ (by omega), hb2.block w1.heap.size (by rw [hs1]; omega)]
    exact heap_alloc_new w1 _
  have HVN : Hid ((Value.slice ad1 F.length cp1).ownBlock ≠ some w1.heap.size ∧ (Value.slice ad1 F.length cp1).ownBlock ≠ some w2.heap.size ∧ (∀ g, (Value.slice ad0 F.length cp0).ownBlock = some g → (Value.slice ad1 F.length cp1).ownBlock ≠ some g) ∧ ∀ g, (Value.slice ad1 F.length cp1).ownBlock = some g → w.heap.size ≤ g) := by
    have hn := fun g hg => World.ownsRow.lt ho1 g hg
    rw [hs1] at hn
    have hl0 := unhide HL0
    refine hide ⟨fun e => ?_, fun e => ?_, fun g hg e => ?_, fun g hg => ?_⟩
    · have := (hn _ e).1; omega
    · have := (hn _ e).2; omega
    · have := (hn _ e).1
      have := hl0 g hg
      omega
    · have := (hn _ hg).1; omega
  obtain ⟨i0, i1, i2, _, _, _⟩ := row3x hI5.r6
  obtain ⟨m0, m1, m2, _, _, _⟩ := row3x hI5.r8
  have HI5 := hide hI5
  clear hI5 hb2 ho1 HL0 HH0 hs1
  go_wp2_with fail
  refine (unhide CE _ _ _ _ _ (unhide HI5).h1 (unhide HI5).h0).mono ?_
  rintro e w6 ⟨rfl, hb6⟩
  have hI6 := (unhide HI5).step hb6
  clear i0 i1 i2 m0 m1 m2 hb6 HI5
  obtain ⟨m0, m1, m2, _, _, _⟩ := row3x hI6.r8
  have HI6 := hide hI6
  clear hI6
  go_wp2_with fail
  refine (unhide CK _ _ _ (unhide HI6).h1).mono ?_
  rintro e w7 ⟨rfl, hh7, hb7⟩
  have hI7 := (unhide HI6).but hb7 hh7 (unhide HVN).1 (unhide HVN).2.1 (unhide HVN).2.2.1 (unhide HVN).2.2.2
  clear m0 m1 m2 hb7 hh7 HI6 HVN
  obtain ⟨m0, m1, m2, _, _, _⟩ := row3x hI7.r8
  have HI7 := hide hI7
  clear hI7
  go_wp2_with fail
  refine (unhide CH _ _ _ (unhide HI7).h1).mono ?_
  rintro e w8 ⟨rfl, hb8⟩
  have HI8 := hide ((unhide HI7).step hb8)
  clear m0 m1 m2 hb8 HI7
  go_wp2_with fail
  refine (unhide CI _ (unhide HI8).below).mono ?_
  rintro e w10 ⟨ad2, cp2, rfl, ho2, hb10⟩
  have hI10 := ((unhide HI8).step hb10).step ((Below.refl _ _).alloc (Nat.le_refl _) (.cells #[.int .i64 st, .slice ad2 F.length cp2, .int .i64 c] 27))
  have hr10 := heap_alloc_new w10 (.cells #[.int .i64 st, .slice ad2 F.length cp2, .int .i64 c] 27)
  have HH2 := hide ((HoldsT.own ho2).below ((Below.refl _ _).alloc (Nat.le_refl _) (.cells #[.int .i64 st, .slice ad2 F.length cp2, .int .i64 c] 27)) rfl)
  obtain ⟨i0, i1, i2, _, _, _⟩ := row3x hI10.r6
  obtain ⟨m0, m1, m2, _, _, _⟩ := row3x hr10
  have HI10 := hide hI10
  clear hI10 hr10 ho2 hb10 HI8
  go_wp2_with fail
  refine (unhide CE _ _ _ _ _ (unhide HH2) (unhide HI10).h0).mono ?_
  rintro e w11 ⟨rfl, hb11⟩
  have hI11 := (unhide HI10).step hb11
  clear i0 i1 i2 m0 m1 m2 hb11 HI10 HH2
  obtain ⟨m0, m1, m2, _, _, _⟩ := row3x hI11.r8
  have HI11 := hide hI11
  clear hI11
  go_wp2_with fail
  refine (unhide CH _ _ _ (unhide HI11).h1).mono ?_
  rintro e w12 ⟨rfl, hb12'⟩
  have HI12 := hide ((unhide HI11).step hb12').below
  clear m0 m1 m2 hb12' HI11
  go_wp2
  go_ret
  exact ⟨rfl, unhide HI12⟩
theorem splitE_len (t : ByteArray) (b : UInt8) (fr i n : Nat) : (splitE t b fr i n).length ≤ n + 1 := by
  induction n generalizing fr i with
  | zero => simp [splitE]
  | succ n ih =>
    simp only [splitE]
    split
    · rw [List.length_cons]; have := ih (i + 1) (i + 1); omega
    · have := ih fr (i + 1); omega
theorem fsmF_len (s : Int) (t : ByteArray) : (fsmF s t).2.1.length ≤ 400 := by
  unfold fsmF
  split
  · exact Nat.zero_le _
  split
  · exact Nat.zero_le _
  split
  · exact Nat.zero_le _
  · next h3 =>
    split
    · exact Nat.zero_le _
    · dsimp only
      split
      · have hx : (fsmX s.toNat t).size ≤ 30 := by
          unfold fsmX
          have hok := (rowOf_ok t).resolve_left h3
          unfold okRow at hok
          rw [Bool.and_eq_true, Bool.and_eq_true, Bool.and_eq_true, txt_data] at hok
          have hall := hok.1.1.2
          cases hx : (splitOf (rowOf t) 44)[s.toNat]? with
          | none => exact Nat.zero_le _
          | some x =>
            have := List.all_eq_true.1 hall x (List.mem_of_getElem? hx)
            unfold okX at this
            rw [Bool.and_eq_true, Bool.and_eq_true] at this
            exact of_decide_eq_true this.1.2
        have := splitE_len ((fsmX s.toNat t).extract 0 ((fsmX s.toNat t).size - 2)) 32 0 0 ((fsmX s.toNat t).extract 0 ((fsmX s.toNat t).size - 2)).size
        unfold splitOf
        rw [ByteArray.size_extract] at this ⊢
        omega
      · exact Nat.zero_le _
set_option maxHeartbeats 1000000 in
theorem lawFsm (s : Int) (t : ByteArray) (w : World) (ht : t.size ≤ maxLen) (hE : EvT w) (hN : NxT w) (hS : SpT w) :
    Calls Tryd.prog 4 #[.int .i64 s, .string t] w fun e w' => e = .returned (.bool true) ∧ Below w.heap.size w w' := by
  by_cases ht2 : t.size ≤ 1048576
  · exact lawFsm_at s t w ht ht2 (fsmF_len s t) hE hN hS
  · unfold maxLen at ht
    have d0 : (1048576 : Int) < (t.size : Int) := by omega
    go_enter Tryd.func4, Tryd.ntmps4
    go_wp2
    go_ret
    exact ⟨rfl, Below.refl _ _⟩
end Go.Proofs.YtlgbigfdokdgfaaDoor
