/- The law FnExactDeskWords walked: it returns true, and what lay in memory stands. -/
import Derived.Test.YtdhhkdkppcijnaaStrMarks
import Derived.Deep.WholeRow
import Derived.Laws.ResultCell
namespace Go.Proofs.Ytdhhkdkppcijnaa
open Go.RowKit
/-- The words with which a line may begin. -/
def dkTexts : List ByteArray := [txt [98, 121, 116, 101, 115], txt [100, 111], txt [102, 114, 97, 109, 101], txt [104, 101, 97, 114], txt [108, 105, 110, 101], txt [116, 105, 99, 107]]
theorem specDw (w : World) : Calls Try.prog 6 #[] w fun e w' => ∃ ad cp, e = .returned (.slice ad dkTexts.length cp) ∧ w'.ownsRow w.heap.size 9 1 (.slice ad dkTexts.length cp) dkTexts.length (scells dkTexts) ∧ Below w.heap.size w w' := by
  go_enter Try.func6, Try.ntmps6
  go_wp2
  go_ret
  exact ⟨_, _, rfl, World.ownsRow_lit w _ 6 (Nat.le_refl _) (by decide) rfl, (Below.refl _ _).alloc (Nat.le_refl _) _⟩
theorem implDw (w : World) : Calls Try.prog 7 #[] w fun e w' => ∃ ad cp, e = .returned (.slice ad dkTexts.length cp) ∧ w'.ownsRow w.heap.size 9 1 (.slice ad dkTexts.length cp) dkTexts.length (scells dkTexts) ∧ Below w.heap.size w w' := by
  go_enter Try.func7, Try.ntmps7
  go_wp2
  go_ret
  exact ⟨_, _, rfl, World.ownsRow_lit w _ 6 (Nat.le_refl _) (by decide) rfl, (Below.refl _ _).alloc (Nat.le_refl _) _⟩
/-- What the law has laid: the two answers' rows. -/
structure InvE (w : World) (v0 v1 : Value) (F F1 : List ByteArray) (W : World) : Prop where
  h0 : HoldsT W v0 F
  h1 : HoldsT W v1 F1
  below : Below w.heap.size w W
theorem InvE.step {w : World} {v0 v1 : Value} {F F1 : List ByteArray} {W W' : World} (h : InvE w v0 v1 F F1 W) (hb : Below W.heap.size W W') : InvE w v0 v1 F F1 W' :=
  ⟨h.h0.below hb rfl, h.h1.below hb rfl, h.below.trans (hb.mono h.below.size)⟩
theorem InvE.but {w : World} {v0 v1 : Value} {F F1 F2 : List ByteArray} {W W' : World} (h : InvE w v0 v1 F F1 W) (hb : But v1.ownBlock W W') (h1 : HoldsT W' v1 F2) (n4 : ∀ g, v0.ownBlock = some g → v1.ownBlock ≠ some g) (n5 : ∀ g, v1.ownBlock = some g → w.heap.size ≤ g) : InvE w v0 v1 F F2 W' := by
  refine ⟨holdsT_but h.h0 hb n4, h1, ?_⟩
  have hs := h.below.size
  exact ⟨hb.os.trans h.below.os, hb.tape.trans h.below.tape, hb.output.trans h.below.output, Nat.le_trans hs hb.size, fun b hlt => (hb.block b (by omega) fun e => by have := n5 b e; omega).trans (h.below.block b hlt)⟩
set_option maxHeartbeats 4000000 in
theorem lawDw (w : World) : Calls Try.prog 3 #[] w fun e w' => e = .returned (.bool true) ∧ Below w.heap.size w w' := by
  have CM := hide fun v => specDw v
  have CI := hide fun v => implDw v
  have hF : dkTexts.length ≤ 400 := by decide
  generalize dkTexts = F at *
  have CE := hide fun ad1 cp1 ad2 cp2 v => eqT (.slice ad1 F.length cp1) (.slice ad2 F.length cp2) F v (by omega)
  have CK := hide fun ad cp v => markTF (.slice ad F.length cp) F 1 v (by decide) (by omega)
  have CH := hide fun ad cp v => heldTF (.slice ad F.length cp) F.length 1 v (by decide) (by omega)
  obtain ⟨K, hK⟩ : ∃ K : Nat, 1 + F.length = K := ⟨_, rfl⟩
  rw [hK] at CK CH
  have d2 : ¬ ((K : Int) < 0) := by omega
  clear hK
  go_enter Try.func3, Try.ntmps3
  go_wp2_with fail
  refine (unhide CM _).mono ?_
  rintro e w3 ⟨ad0, cp0, rfl, ho0, hb3⟩
  have HR3 := hide (And.intro hb3 ho0)
  clear hb3 ho0 CM
  go_wp2_with fail
  refine (unhide CI _).mono ?_
  rintro e w5 ⟨ad1, cp1, rfl, ho1, hb5⟩
  have HV : Hid (InvE w (.slice ad0 F.length cp0) (.slice ad1 F.length cp1) F F w5 ∧ (∀ q, (Value.slice ad0 F.length cp0).ownBlock = some q → (Value.slice ad1 F.length cp1).ownBlock ≠ some q) ∧ ∀ q, (Value.slice ad1 F.length cp1).ownBlock = some q → w.heap.size ≤ q) := by
    obtain ⟨hB3, ho0⟩ := unhide HR3
    have hs3 := hB3.size
    refine hide ⟨⟨(HoldsT.own ho0).below hb5 rfl, HoldsT.own ho1, hB3.trans (hb5.mono hs3)⟩, fun q hq e => ?_, fun q hq => ?_⟩
    · have h1 := (World.ownsRow.lt ho1 _ e).1
      have h2 := (World.ownsRow.lt ho0 _ hq).2
      omega
    · have h1 := (World.ownsRow.lt ho1 _ hq).1
      omega
  clear HR3 ho1 hb5
  go_wp2_with fail
  refine (unhide CE _ _ _ _ _ (unhide HV).1.h1 (unhide HV).1.h0).mono ?_
  rintro e w6 ⟨rfl, hb6⟩
  have HI6 := hide ((unhide HV).1.step hb6)
  clear hb6
  go_wp2_with fail
  refine (unhide CK _ _ _ (unhide HI6).h1).mono ?_
  rintro e w7 ⟨rfl, hh7, hb7, hb7'⟩
  have HI7 := hide ((unhide HI6).but hb7 hh7 (unhide HV).2.1 (unhide HV).2.2)
  clear hb7 hb7' hh7 HI6 HV
  go_wp2_with fail
  refine (unhide CH _ _ _ (unhide HI7).h1).mono ?_
  rintro e w8 ⟨rfl, hb8⟩
  have HI8 := hide ((unhide HI7).step hb8)
  clear hb8 HI7
  go_wp2_with fail
  refine (unhide CI _).mono ?_
  rintro e w10 ⟨ad2, cp2, rfl, ho2, hb10⟩
  have HI10 := hide (And.intro ((unhide HI8).step hb10) (HoldsT.own ho2))
  clear ho2 hb10 HI8
  go_wp2_with fail
  refine (unhide CE _ _ _ _ _ (unhide HI10).2 (unhide HI10).1.h0).mono ?_
  rintro e w11 ⟨rfl, hb11⟩
  have HI11 := hide ((unhide HI10).1.step hb11)
  clear hb11 HI10
  go_wp2_with fail
  refine (unhide CH _ _ _ (unhide HI11).h1).mono ?_
  rintro e w12 ⟨rfl, hb12⟩
  have HI12 := hide ((unhide HI11).step hb12).below
  clear hb12 HI11
  go_wp2
  go_ret
  exact ⟨rfl, unhide HI12⟩
end Go.Proofs.Ytdhhkdkppcijnaa
