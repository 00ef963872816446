/- The law FnExactDeframe walked: it returns true, and what lay in memory stands; under the library's two tables as they are laid. -/
import Derived.Test.YteffbodinbmliadDoorOutS
namespace Go.Proofs.YteffbodinbmliadDoor
open Go.RowKit
/-- What the law has laid: its own Deframer, the two answers and their rows. -/
structure Inv (w : World) (D b6 b7 : Nat) (c25 c6 c7 : Array Value) (v0 v1 : Value) (F F1 : List Hd.Fd) (W : World) : Prop where
  box : W.heap[D]? = some (.cells c25 25)
  r6 : W.heap[b6]? = some (.cells c6 30)
  r7 : W.heap[b7]? = some (.cells c7 30)
  h0 : HoldsF W v0 F
  h1 : HoldsF W v1 F1
  below : Below w.heap.size w W
theorem Inv.step {w : World} {D b6 b7 : Nat} {c25 c6 c7 : Array Value} {v0 v1 : Value} {F F1 : List Hd.Fd} {W W' : World} (h : Inv w D b6 b7 c25 c6 c7 v0 v1 F F1 W) (hb : Below W.heap.size W W') : Inv w D b6 b7 c25 c6 c7 v0 v1 F F1 W' :=
  ⟨(hb.block D (Array.getElem?_eq_some_iff.1 h.box).1).trans h.box, (hb.block b6 (Array.getElem?_eq_some_iff.1 h.r6).1).trans h.r6, (hb.block b7 (Array.getElem?_eq_some_iff.1 h.r7).1).trans h.r7, h.h0.below hb, h.h1.below hb, h.below.trans (hb.mono h.below.size)⟩
theorem Inv.but {w : World} {D b6 b7 : Nat} {c25 c6 c7 : Array Value} {v0 v1 : Value} {F F1 F2 : List Hd.Fd} {W W' : World} (h : Inv w D b6 b7 c25 c6 c7 v0 v1 F F1 W) (hb : But v1.ownBlock W W') (h1 : HoldsF W' v1 F2)
    (n1 : v1.ownBlock ≠ some D) (n2 : v1.ownBlock ≠ some b6) (n3 : v1.ownBlock ≠ some b7) (n4 : ∀ g, v0.ownBlock = some g → v1.ownBlock ≠ some g) (n5 : ∀ g, v1.ownBlock = some g → w.heap.size ≤ g) : Inv w D b6 b7 c25 c6 c7 v0 v1 F F2 W' := by
  refine ⟨(hb.block D (Array.getElem?_eq_some_iff.1 h.box).1 n1).trans h.box, (hb.block b6 (Array.getElem?_eq_some_iff.1 h.r6).1 n2).trans h.r6, (hb.block b7 (Array.getElem?_eq_some_iff.1 h.r7).1 n3).trans h.r7, ?_, h1, ?_⟩
  · refine h.h0.imp id fun ⟨g, cp, cur, e1, e2, e3⟩ => ⟨g, cp, cur, e1, (hb.block g (Array.getElem?_eq_some_iff.1 e2).1 (n4 g (by rw [e1]; rfl))).trans e2, e3⟩
  · have hs := h.below.size
    exact ⟨hb.os.trans h.below.os, hb.tape.trans h.below.tape, hb.output.trans h.below.output, Nat.le_trans hs hb.size, fun b hlt => (hb.block b (by omega) fun e => by have := n5 b e; omega).trans (h.below.block b hlt)⟩
set_option maxHeartbeats 8000000 in
set_option maxRecDepth 100000 in
theorem lawDefr_at (wide : Bool) (x : Int) (inn esc long : Bool) (u t : ByteArray) (w : World) (hu : u.size ≤ maxLen) (ht : t.size ≤ maxLen) (hT : Lib.Utf8Tabs 0 1 w) (hu2 : u.size ≤ 1048576) (ht2 : t.size ≤ 1048576) :
    Calls Tryd.prog 4 #[.agg #[.bool wide, .int .i64 x, .bool inn, .bool esc, .bool long, .string u], .string t] w fun e w' => e = .returned (.bool true) ∧ Below w.heap.size w w' := by
  have CS := hide fun w => szDef wide x inn esc long u w hu
  rw [if_pos hu2] at CS
  have CT := hide fun w => toDef wide x inn esc long u w
  have CM := hide fun v => specDefrAll wide x inn esc long u t v hu ht
  have CI := hide fun v (hv : Below w.heap.size w v) => implDefrAll wide x inn esc long u t v hu ht (Utf8Tabs_below hT hv)
  have hF := ans_F wide x inn esc long u t
  generalize ansOf wide x inn esc long u t = A at *
  have CE := hide fun v1 v2 v => eqO A v1 v2 v hF
  have CK := hide fun v1 v => markO A v1 v hF
  have CH := hide fun v1 v => heldO A v1 v hF
  obtain ⟨aw, ax, ai, ae, al, tx, F, ac⟩ := A
  unfold ansV at CM CI CE CK CH
  dsimp only at CM CI CE CK CH hF
  obtain ⟨K, hK⟩ : ∃ K : Nat, 1 + 2 * F.length = K := ⟨_, rfl⟩
  rw [hK] at CK CH
  have d0 : ¬ ((1048576 : Int) < (t.size : Int)) := by omega
  have d1 : ¬ (1048576 - (u.size : Int) < 0) := by omega
  have d2 : ¬ ((K : Int) < 0) := by omega
  clear hK hu ht
  go_enter Tryd.func4, Tryd.ntmps4
  go_wp2_with fail
  refine (unhide CS _).mono ?_
  rintro e w1 ⟨rfl, hb1⟩
  have hbx : Below w.heap.size w w1 := ((Below.refl _ _).alloc (Nat.le_refl _) _).trans (hb1.mono (by simp))
  have hcx : w1.heap[w.heap.size]? = some (.cells #[.bool wide, .int .i64 x, .bool inn, .bool esc, .bool long, .string u] 25) := by
    rw [hb1.block w.heap.size (by simp)]; exact heap_alloc_last w _
  obtain ⟨c0, c1, c2, c3, c4, c5⟩ := row6 hcx
  have HX := hide hcx
  have hw1 : w.heap.size < w1.heap.size := (Array.getElem?_eq_some_iff.1 hcx).1
  clear hcx hb1 CS
  go_wp2_with fail
  refine (unhide CT _).mono ?_
  rintro e w2 ⟨rfl, hb2⟩
  clear c0 c1 c2 c3 c4 c5
  go_wp2_with fail
  refine (unhide CM _).mono ?_
  rintro e w3 ⟨v0, rfl, ⟨hh0, hg0⟩, hb3⟩
  obtain ⟨ad0, cp0, hv0⟩ := hh0.form
  have hb13 : Below w1.heap.size w1 w3 := hb2.trans (hb3.mono hb2.size)
  have hcx3 : (w3.alloc (.cells #[.bool aw, .int .i64 ax, .bool ai, .bool ae, .bool al, .string tx, v0, .int .i64 ac] 30)).heap[w.heap.size]? = some (.cells #[.bool wide, .int .i64 x, .bool inn, .bool esc, .bool long, .string u] 25) := (Below.heap_alloc _ _ _ (Nat.lt_of_lt_of_le hw1 hb13.size)).trans ((hb13.block w.heap.size hw1).trans (unhide HX))
  have hbw3 : Below w.heap.size w w3 := hbx.trans (hb13.mono hbx.size)
  have HR6 := hide (heap_alloc_last w3 (.cells #[.bool aw, .int .i64 ax, .bool ai, .bool ae, .bool al, .string tx, v0, .int .i64 ac] 30))
  have HH0 := hide (hh0.below ((Below.refl _ _).alloc (Nat.le_refl _) (.cells #[.bool aw, .int .i64 ax, .bool ai, .bool ae, .bool al, .string tx, v0, .int .i64 ac] 30)))
  have HL0 : Hid (∀ g, v0.ownBlock = some g → g < w3.heap.size ∨ F = []) := by
    refine hide fun g hg => ?_
    rcases hh0 with ⟨_, _, _, e⟩ | ⟨g', cp, cur, e1, e2, _⟩
    · exact Or.inr e
    · left
      rw [e1] at hg
      cases hg
      exact (Array.getElem?_eq_some_iff.1 e2).1
  have hs3 : (w3.alloc (.cells #[.bool aw, .int .i64 ax, .bool ai, .bool ae, .bool al, .string tx, v0, .int .i64 ac] 30)).heap.size = w3.heap.size + 1 := by simp
  have hbw3a := hbw3.alloc hbw3.size (.cells #[.bool aw, .int .i64 ax, .bool ai, .bool ae, .bool al, .string tx, v0, .int .i64 ac] 30)
  obtain ⟨c0, c1, c2, c3, c4, c5⟩ := row6 hcx3
  have HX3 := hide hcx3
  clear hb2 hb3 hh0 hg0 hb13 hcx3 HX CM
  subst hv0
  go_wp2_with fail
  refine (unhide CT _).mono ?_
  rintro e w4 ⟨rfl, hb4⟩
  have hbw4 : Below w.heap.size w w4 := hbw3a.trans (hb4.mono hbw3a.size)
  clear c0 c1 c2 c3 c4 c5
  go_wp2_with fail
  refine (unhide CI _ hbw4).mono ?_
  rintro e w5 ⟨v1, rfl, ⟨hh1, hg1⟩, hb5⟩
  obtain ⟨ad1, cp1, hv1⟩ := hh1.form
  have hb45 : Below (w3.heap.size + 1) (w3.alloc (.cells #[.bool aw, .int .i64 ax, .bool ai, .bool ae, .bool al, .string tx, (.slice ad0 F.length cp0), .int .i64 ac] 30)) w5 := by
    have h := hb4.trans (hb5.mono hb4.size)
    rw [hs3] at h
    exact h
  have hlt4 : w3.heap.size + 1 ≤ w4.heap.size := by have := hb4.size; omega
  have hlt5 : w4.heap.size ≤ w5.heap.size := hb5.size
  have HN1 : Hid (∀ g, v1.ownBlock = some g → w4.heap.size ≤ g ∧ (g < w5.heap.size ∨ F = [])) := by
    refine hide fun g hg => ⟨hg1 g hg, ?_⟩
    rcases hh1 with ⟨_, _, _, e⟩ | ⟨g', cp, cur, e1, e2, _⟩
    · exact Or.inr e
    · left
      rw [e1] at hg
      cases hg
      exact (Array.getElem?_eq_some_iff.1 e2).1
  have hI5 : Inv w w.heap.size w3.heap.size w5.heap.size #[.bool wide, .int .i64 x, .bool inn, .bool esc, .bool long, .string u] #[.bool aw, .int .i64 ax, .bool ai, .bool ae, .bool al, .string tx, (.slice ad0 F.length cp0), .int .i64 ac] #[.bool aw, .int .i64 ax, .bool ai, .bool ae, .bool al, .string tx, v1, .int .i64 ac] (.slice ad0 F.length cp0) v1 F F (w5.alloc (.cells #[.bool aw, .int .i64 ax, .bool ai, .bool ae, .bool al, .string tx, v1, .int .i64 ac] 30)) := by
    have hs0 := hbw3.size
    refine ⟨(Below.heap_alloc _ _ _ (by omega)).trans ((hb45.block w.heap.size (by omega)).trans (unhide HX3)), (Below.heap_alloc _ _ _ (by omega)).trans ((hb45.block w3.heap.size (by omega)).trans (unhide HR6)), heap_alloc_last w5 _, ?_, hh1.below ((Below.refl _ _).alloc (Nat.le_refl _) _), ?_⟩
    · have hb46 : Below (w3.alloc (.cells #[.bool aw, .int .i64 ax, .bool ai, .bool ae, .bool al, .string tx, (.slice ad0 F.length cp0), .int .i64 ac] 30)).heap.size (w3.alloc (.cells #[.bool aw, .int .i64 ax, .bool ai, .bool ae, .bool al, .string tx, (.slice ad0 F.length cp0), .int .i64 ac] 30)) (w5.alloc (.cells #[.bool aw, .int .i64 ax, .bool ai, .bool ae, .bool al, .string tx, v1, .int .i64 ac] 30)) := by
        rw [hs3]
        exact hb45.alloc (by omega) _
      exact (unhide HH0).below hb46
    · exact (hbw4.trans (hb5.mono hbw4.size)).alloc (by have := hbw4.size; omega) _
  have HVN : Hid (v1.ownBlock ≠ some w.heap.size ∧ v1.ownBlock ≠ some w3.heap.size ∧ (v1.ownBlock ≠ some w5.heap.size ∨ F = []) ∧ (∀ g, (Value.slice ad0 F.length cp0).ownBlock = some g → v1.ownBlock ≠ some g ∨ F = []) ∧ ∀ g, v1.ownBlock = some g → w.heap.size ≤ g) := by
    have hn := unhide HN1
    have hl0 := unhide HL0
    have hs0 := hbw3.size
    refine hide ⟨fun e => by have := (hn _ e).1; omega, fun e => by have := (hn _ e).1; omega, ?_, fun g hg => ?_, fun g hg => by have := (hn _ hg).1; omega⟩
    · by_cases hFe : F = []
      · exact Or.inr hFe
      · refine Or.inl fun e => ?_
        rcases (hn _ e).2 with h | h
        · omega
        · exact hFe h
    · by_cases hFe : F = []
      · exact Or.inr hFe
      · refine Or.inl fun e => ?_
        have h1 := (hn _ e).1
        rcases hl0 g hg with h | h
        · omega
        · exact hFe h
  subst hv1
  obtain ⟨i0, i1, i2, i3, i4, i5, i6, i7, _, _, _, _, _, _, _, _⟩ := row8s hI5.r6
  obtain ⟨m0, m1, m2, m3, m4, m5, m6, m7, _, _, _, _, _, _, _, _⟩ := row8s hI5.r7
  have HI5 := hide hI5
  clear hI5 hb4 hb5 hb45 hh1 hg1 HN1 HL0 HR6 HH0 HX3 hbw3 hbw3a
  go_wp2_with fail
  refine (unhide CE _ _ _ (unhide HI5).h1 (unhide HI5).h0).mono ?_
  rintro e w6 ⟨rfl, hb6⟩
  have hI6 := (unhide HI5).step hb6
  clear i0 i1 i2 i3 i4 i5 i6 i7 m0 m1 m2 m3 m4 m5 m6 m7 hb6 HI5
  obtain ⟨m0, m1, m2, m3, m4, m5, m6, m7, _, _, _, _, _, _, _, _⟩ := row8s hI6.r7
  have HI6 := hide hI6
  clear hI6
  go_wp2_with fail
  refine (unhide CK _ _ (unhide HI6).h1).mono ?_
  rintro e w7 ⟨rfl, hh7, hb7, hb7'⟩
  have hI7 : Inv w w.heap.size w3.heap.size w5.heap.size #[.bool wide, .int .i64 x, .bool inn, .bool esc, .bool long, .string u] #[.bool aw, .int .i64 ax, .bool ai, .bool ae, .bool al, .string tx, (.slice ad0 F.length cp0), .int .i64 ac] #[.bool aw, .int .i64 ax, .bool ai, .bool ae, .bool al, .string tx, (.slice ad1 F.length cp1), .int .i64 ac] (.slice ad0 F.length cp0) (.slice ad1 F.length cp1) F (mfd 1 F.length) w7 := by
    have hn := unhide HVN
    by_cases hFe : F = []
    · have hb8 := hb7' hFe
      clear hb7'
      subst hFe
      exact (unhide HI6).step hb8
    · exact (unhide HI6).but hb7 hh7 hn.1 hn.2.1 (hn.2.2.1.resolve_right hFe) (fun g hg => (hn.2.2.2.1 g hg).resolve_right hFe) hn.2.2.2.2
  clear m0 m1 m2 m3 m4 m5 m6 m7 hb7 hb7' hh7 HI6
  obtain ⟨m0, m1, m2, m3, m4, m5, m6, m7, _, _, _, _, _, _, _, _⟩ := row8s hI7.r7
  have HI7 := hide hI7
  clear hI7
  go_wp2_with fail
  refine (unhide CH _ _ ⟨_, _, rfl⟩ (unhide HI7).h1).mono ?_
  rintro e w8 ⟨rfl, hb8⟩
  have hI8 := (unhide HI7).step hb8
  clear m0 m1 m2 m3 m4 m5 m6 m7 hb8 HI7
  obtain ⟨c0, c1, c2, c3, c4, c5⟩ := row6 hI8.box
  have HI8 := hide hI8
  clear hI8
  go_wp2_with fail
  refine (unhide CT _).mono ?_
  rintro e w9 ⟨rfl, hb9⟩
  have hI9 := (unhide HI8).step hb9
  clear c0 c1 c2 c3 c4 c5 hb9 HI8
  have HI9 := hide hI9
  clear hI9
  go_wp2_with fail
  refine (unhide CI _ (unhide HI9).below).mono ?_
  rintro e w10 ⟨v2, rfl, ⟨hh2, _⟩, hb10⟩
  obtain ⟨ad2, cp2, hv2⟩ := hh2.form
  have hI10 := ((unhide HI9).step hb10).step ((Below.refl _ _).alloc (Nat.le_refl _) (.cells #[.bool aw, .int .i64 ax, .bool ai, .bool ae, .bool al, .string tx, v2, .int .i64 ac] 30))
  have hr10 := heap_alloc_last w10 (.cells #[.bool aw, .int .i64 ax, .bool ai, .bool ae, .bool al, .string tx, v2, .int .i64 ac] 30)
  have HH2 := hide (hh2.below ((Below.refl _ _).alloc (Nat.le_refl _) (.cells #[.bool aw, .int .i64 ax, .bool ai, .bool ae, .bool al, .string tx, v2, .int .i64 ac] 30)))
  subst hv2
  obtain ⟨i0, i1, i2, i3, i4, i5, i6, i7, _, _, _, _, _, _, _, _⟩ := row8s hI10.r6
  obtain ⟨m0, m1, m2, m3, m4, m5, m6, m7, _, _, _, _, _, _, _, _⟩ := row8s hr10
  have HI10 := hide hI10
  clear hI10 hr10 hh2 hb10 HI9
  go_wp2_with fail
  refine (unhide CE _ _ _ (unhide HH2) (unhide HI10).h0).mono ?_
  rintro e w11 ⟨rfl, hb11⟩
  have hI11 := (unhide HI10).step hb11
  clear i0 i1 i2 i3 i4 i5 i6 i7 m0 m1 m2 m3 m4 m5 m6 m7 hb11 HI10 HH2
  obtain ⟨m0, m1, m2, m3, m4, m5, m6, m7, _, _, _, _, _, _, _, _⟩ := row8s hI11.r7
  have HI11 := hide hI11
  clear hI11
  go_wp2_with fail
  refine (unhide CH _ _ ⟨_, _, rfl⟩ (unhide HI11).h1).mono ?_
  rintro e w12 ⟨rfl, hb12⟩
  have hI12 := (unhide HI11).step hb12
  clear m0 m1 m2 m3 m4 m5 m6 m7 hb12 HI11
  have HI12 := hide hI12.below
  clear hI12
  go_wp2
  go_ret
  exact ⟨rfl, unhide HI12⟩
set_option maxHeartbeats 1000000 in
theorem lawDefr (wide : Bool) (x : Int) (inn esc long : Bool) (u t : ByteArray) (w : World) (hu : u.size ≤ maxLen) (ht : t.size ≤ maxLen) (hT : Lib.Utf8Tabs 0 1 w) :
    Calls Tryd.prog 4 #[.agg #[.bool wide, .int .i64 x, .bool inn, .bool esc, .bool long, .string u], .string t] w fun e w' => e = .returned (.bool true) ∧ Below w.heap.size w w' := by
  by_cases ht2 : t.size ≤ 1048576
  · by_cases hu2 : u.size ≤ 1048576
    · exact lawDefr_at wide x inn esc long u t w hu ht hT hu2 ht2
    · have CS := hide fun w => szDef wide x inn esc long u w hu
      rw [if_neg hu2] at CS
      have d0 : ¬ ((1048576 : Int) < (t.size : Int)) := by omega
      have d1 : (-1 : Int) < 0 := by decide
      go_enter Tryd.func4, Tryd.ntmps4
      go_wp2_with fail
      refine (unhide CS _).mono ?_
      rintro e w1 ⟨rfl, hb1⟩
      go_wp2
      go_ret
      exact ⟨rfl, ((Below.refl _ _).alloc (Nat.le_refl _) _).trans (hb1.mono (by simp))⟩
  · unfold maxLen at ht
    have d0 : (1048576 : Int) < (t.size : Int) := by omega
    go_enter Tryd.func4, Tryd.ntmps4
    go_wp2
    go_ret
    exact ⟨rfl, (Below.refl _ _).alloc (Nat.le_refl _) _⟩
end Go.Proofs.YteffbodinbmliadDoor
