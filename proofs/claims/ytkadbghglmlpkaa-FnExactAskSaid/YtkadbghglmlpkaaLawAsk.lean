/- The law FnExactAsk walked: it returns true, and what lay in memory stands. -/
import Derived.Test.YtkadbghglmlpkaaAskS
import Derived.Test.YtkadbghglmlpkaaCfgArg
import Derived.Test.YtkadbghglmlpkaaOptEq
import Derived.Test.YtkadbghglmlpkaaOptMarks
namespace Go.Proofs.Ytkadbghglmlpkaa
open Go.RowKit
/-- What Ask answers. -/
def askF (m a g : Int) (p c d : Bool) : List Op.Opt := if cfgOk m a g = true then askL m.toNat a.toNat g.toNat p c d 6 else []
theorem askF_len (m a g : Int) (p c d : Bool) : (askF m a g p c d).length ≤ 6 := by
  unfold askF
  split
  · exact askL_len _ _ _ _ _ _ _
  · exact Nat.zero_le _
theorem cfg_nat {m a g : Int} (h : cfgOk m a g = true) : ((m.toNat : Nat) : Int) = m ∧ ((a.toNat : Nat) : Int) = a ∧ ((g.toNat : Nat) : Int) = g := by
  simp only [cfgOk, within, Bool.and_eq_true, decide_eq_true_eq] at h
  omega
theorem implAskAll (m a g : Int) (p c d : Bool) (w : World) :
    Calls Try.prog 7 #[cfgV m a g p c d] w fun e w' => ∃ ad cp, e = .returned (.slice ad (askF m a g p c d).length cp) ∧ w'.ownsRow w.heap.size 54 2 (.slice ad (askF m a g p c d).length cp) (askF m a g p c d).length (ocells (askF m a g p c d)) ∧ Below w.heap.size w w' := by
  by_cases h : cfgOk m a g = true
  · rw [show askF m a g p c d = askL m.toNat a.toNat g.toNat p c d 6 from if_pos h]
    obtain ⟨e1, e2, e3⟩ := cfg_nat h
    have := implAskYes m.toNat a.toNat g.toNat p c d w (by rw [e1, e2, e3]; exact h)
    rw [e1, e2, e3] at this
    exact this
  · rw [show askF m a g p c d = [] from if_neg h]
    exact (implAskNo m a g p c d w (by simpa using h)).mono fun e w' ⟨h1, h2⟩ => ⟨none, 0, h1, ⟨rfl, Or.inl ⟨rfl, rfl⟩⟩, h2⟩
theorem specAskAll (m a g : Int) (p c d : Bool) (w : World) :
    Calls Try.prog 5 #[cfgV m a g p c d] w fun e w' => ∃ ad cp, e = .returned (.slice ad (askF m a g p c d).length cp) ∧ w'.ownsRow w.heap.size 54 2 (.slice ad (askF m a g p c d).length cp) (askF m a g p c d).length (ocells (askF m a g p c d)) ∧ Below w.heap.size w w' := by
  by_cases h : cfgOk m a g = true
  · rw [show askF m a g p c d = askL m.toNat a.toNat g.toNat p c d 6 from if_pos h]
    obtain ⟨e1, e2, e3⟩ := cfg_nat h
    have := specAskYes m.toNat a.toNat g.toNat p c d w (by rw [e1, e2, e3]; exact h)
    rw [e1, e2, e3] at this
    exact this.mono fun e w' ⟨v, h1, ad, cp, h2, h3, h4⟩ => ⟨ad, cp, by rw [h1, h2], h3, h4⟩
  · rw [show askF m a g p c d = [] from if_neg h]
    exact (specAskNo m a g p c d w (by simpa using h)).mono fun e w' ⟨v, h1, ad, cp, h2, h3, h4⟩ => ⟨ad, cp, by rw [h1, h2], h3, h4⟩
/-- What the law has laid: its argument and the two answers' rows. -/
structure InvA (w : World) (B : Nat) (cs : Array Value) (v0 v1 : Value) (F F1 : List Op.Opt) (W : World) : Prop where
  c : W.heap[B]? = some (.cells cs 23)
  h0 : HoldsO W v0 F
  h1 : HoldsO W v1 F1
  below : Below w.heap.size w W
theorem InvA.step {w : World} {B : Nat} {cs : Array Value} {v0 v1 : Value} {F F1 : List Op.Opt} {W W' : World} (h : InvA w B cs v0 v1 F F1 W) (hb : Below W.heap.size W W') : InvA w B cs v0 v1 F F1 W' :=
  ⟨(hb.block B (Array.getElem?_eq_some_iff.1 h.c).1).trans h.c, h.h0.below hb rfl, h.h1.below hb rfl, h.below.trans (hb.mono h.below.size)⟩
theorem InvA.but {w : World} {B : Nat} {cs : Array Value} {v0 v1 : Value} {F F1 F2 : List Op.Opt} {W W' : World} (h : InvA w B cs v0 v1 F F1 W) (hb : But v1.ownBlock W W') (h1 : HoldsO W' v1 F2)
    (n2 : v1.ownBlock ≠ some B) (n4 : ∀ g, v0.ownBlock = some g → v1.ownBlock ≠ some g) (n5 : ∀ g, v1.ownBlock = some g → w.heap.size ≤ g) : InvA w B cs v0 v1 F F2 W' := by
  refine ⟨(hb.block B (Array.getElem?_eq_some_iff.1 h.c).1 n2).trans h.c, ?_, h1, ?_⟩
  · refine h.h0.imp id fun ⟨g, cp, cur, e1, e2, e3⟩ => ⟨g, cp, cur, e1, (hb.block g (Array.getElem?_eq_some_iff.1 e2).1 (n4 g (by rw [e1]; rfl))).trans e2, e3⟩
  · have hs := h.below.size
    exact ⟨hb.os.trans h.below.os, hb.tape.trans h.below.tape, hb.output.trans h.below.output, Nat.le_trans hs hb.size, fun b hlt => (hb.block b (by omega) fun e => by have := n5 b e; omega).trans (h.below.block b hlt)⟩
set_option maxHeartbeats 8000000 in
set_option maxRecDepth 100000 in
theorem lawAsk (m a g : Int) (p c d : Bool) (w : World) :
    Calls Try.prog 3 #[.agg #[.int .i64 m, .int .i64 a, .int .i64 g, .bool p, .bool c, .bool d]] w fun e w' => e = .returned (.bool true) ∧ Below w.heap.size w w' := by
  have CT := hide fun v => toCfg m a g p c d v
  have CM := hide fun v => specAskAll m a g p c d v
  have CI := hide fun v => implAskAll m a g p c d v
  have hF := askF_len m a g p c d
  generalize askF m a g p c d = F at *
  have CE := hide fun ad1 cp1 ad2 cp2 v => eqS (.slice ad1 F.length cp1) (.slice ad2 F.length cp2) F v (by omega)
  have CK := hide fun ad cp v => markF (.slice ad F.length cp) F v (by omega)
  have CH := hide fun ad cp v => heldF (.slice ad F.length cp) F.length v (by omega)
  obtain ⟨K, hK⟩ : ∃ K : Nat, 1 + 2 * F.length = K := ⟨_, rfl⟩
  rw [hK] at CK CH
  have d2 : ¬ ((K : Int) < 0) := by omega
  clear hK
  have hr0 : (w.alloc (.cells #[.int .i64 m, .int .i64 a, .int .i64 g, .bool p, .bool c, .bool d] 23)).heap[w.heap.size]? = some (.cells #[.int .i64 m, .int .i64 a, .int .i64 g, .bool p, .bool c, .bool d] 23) := heap_alloc_last w _
  have hb0 : Below w.heap.size w (w.alloc (.cells #[.int .i64 m, .int .i64 a, .int .i64 g, .bool p, .bool c, .bool d] 23)) := (Below.refl _ _).alloc (Nat.le_refl _) _
  have HR0 := hide (And.intro hr0 hb0)
  clear hr0 hb0
  go_enter Try.func3, Try.ntmps3
  go_wp2_with fail
  refine (unhide CT _).mono ?_
  rintro e w2 ⟨rfl, hb2⟩
  have hr2 := (hb2.block w.heap.size (Array.getElem?_eq_some_iff.1 (unhide HR0).1).1).trans (unhide HR0).1
  have hB2 := (unhide HR0).2.trans (hb2.mono (unhide HR0).2.size)
  have HR2 := hide (And.intro hr2 hB2)
  clear hr2 hB2 hb2 HR0
  go_wp2_with fail
  refine (unhide CM _).mono ?_
  rintro e w3 ⟨ad0, cp0, rfl, ho0, hb3⟩
  have hr3 := (hb3.block w.heap.size (Array.getElem?_eq_some_iff.1 (unhide HR2).1).1).trans (unhide HR2).1
  have hB3 := (unhide HR2).2.trans (hb3.mono (unhide HR2).2.size)
  have HR3 := hide (And.intro hr3 (And.intro hB3 ho0))
  obtain ⟨c0, c1, c2, c3, c4, c5⟩ := row6 hr3
  clear hr3 hB3 hb3 ho0 HR2 CM
  go_wp2_with fail
  refine (unhide CT _).mono ?_
  rintro e w4 ⟨rfl, hb4⟩
  have HB4 := hide hb4
  clear hb4 c0 c1 c2 c3 c4 c5
  go_wp2_with fail
  refine (unhide CI _).mono ?_
  rintro e w5 ⟨ad1, cp1, rfl, ho1, hb5⟩
  have HV : Hid (InvA w w.heap.size #[.int .i64 m, .int .i64 a, .int .i64 g, .bool p, .bool c, .bool d] (.slice ad0 F.length cp0) (.slice ad1 F.length cp1) F F w5 ∧ (Value.slice ad1 F.length cp1).ownBlock ≠ some w.heap.size ∧ (∀ q, (Value.slice ad0 F.length cp0).ownBlock = some q → (Value.slice ad1 F.length cp1).ownBlock ≠ some q) ∧ ∀ q, (Value.slice ad1 F.length cp1).ownBlock = some q → w.heap.size ≤ q) := by
    obtain ⟨hr3, hB3, ho0⟩ := unhide HR3
    have hb45 := (unhide HB4).trans (hb5.mono (unhide HB4).size)
    have hs4 := (unhide HB4).size
    have hl3 : w.heap.size < w3.heap.size := (Array.getElem?_eq_some_iff.1 hr3).1
    refine hide ⟨⟨(hb45.block _ hl3).trans hr3, (HoldsO.own ho0).below hb45 rfl, HoldsO.own ho1, hB3.trans (hb45.mono hB3.size)⟩, fun e => ?_, fun q hq e => ?_, fun q hq => ?_⟩
    · have := (World.ownsRow.lt ho1 _ e).1
      omega
    · have h1 := (World.ownsRow.lt ho1 _ e).1
      have h2 := (World.ownsRow.lt ho0 _ hq).2
      omega
    · have h1 := (World.ownsRow.lt ho1 _ hq).1
      omega
  clear HR3 HB4 ho1 hb5
  go_wp2_with fail
  refine (unhide CE _ _ _ _ _ (unhide HV).1.h1 (unhide HV).1.h0).mono ?_
  rintro e w6 ⟨rfl, hb6⟩
  have HI6 := hide ((unhide HV).1.step hb6)
  clear hb6
  go_wp2_with fail
  refine (unhide CK _ _ _ (unhide HI6).h1).mono ?_
  rintro e w7 ⟨rfl, hh7, hb7, hb7'⟩
  have HI7 : Hid (InvA w w.heap.size #[.int .i64 m, .int .i64 a, .int .i64 g, .bool p, .bool c, .bool d] (.slice ad0 F.length cp0) (.slice ad1 F.length cp1) F (mfd 1 F.length) w7) := by
    have hn := unhide HV
    exact hide ((unhide HI6).but hb7 hh7 hn.2.1 hn.2.2.1 hn.2.2.2)
  clear hb7 hb7' hh7 HI6 HV
  go_wp2_with fail
  refine (unhide CH _ _ _ (unhide HI7).h1).mono ?_
  rintro e w8 ⟨rfl, hb8⟩
  have hI8 := (unhide HI7).step hb8
  obtain ⟨c0, c1, c2, c3, c4, c5⟩ := row6 hI8.c
  have HI8 := hide hI8
  clear hb8 HI7 hI8
  go_wp2_with fail
  refine (unhide CT _).mono ?_
  rintro e w9 ⟨rfl, hb9⟩
  have HI9 := hide ((unhide HI8).step hb9)
  clear hb9 c0 c1 c2 c3 c4 c5 HI8
  go_wp2_with fail
  refine (unhide CI _).mono ?_
  rintro e w10 ⟨ad2, cp2, rfl, ho2, hb10⟩
  have HI10 := hide (And.intro ((unhide HI9).step hb10) (HoldsO.own ho2))
  clear ho2 hb10 HI9
  go_wp2_with fail
  refine (unhide CE _ _ _ _ _ (unhide HI10).2 (unhide HI10).1.h0).mono ?_
  rintro e w11 ⟨rfl, hb11⟩
  have HI11 := hide ((unhide HI10).1.step hb11)
  clear hb11 HI10
  go_wp2_with fail
  refine (unhide CH _ _ _ (unhide HI11).h1).mono ?_
  rintro e w12 ⟨rfl, hb12'⟩
  have HI12 := hide ((unhide HI11).step hb12').below
  clear hb12' HI11
  go_wp2
  go_ret
  exact ⟨rfl, unhide HI12⟩
end Go.Proofs.Ytkadbghglmlpkaa
