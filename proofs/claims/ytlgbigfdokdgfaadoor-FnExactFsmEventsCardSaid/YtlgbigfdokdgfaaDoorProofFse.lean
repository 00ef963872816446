/- FnExactFsmEvents holds: the program's FsmEvents answers as the model's, every text, and the answer owns its memory; the program's table of events starts as its text lays it (the card ties it). -/
import Derived.Test.YtlgbigfdokdgfaaDoorRows
import Derived.Test.YtlgbigfdokdgfaaDoorTie
import Derived.Test.YtlgbigfdokdgfaaDoorCards
import Derived.Test.YtlgbigfdokdgfaaDoorLaidEv
import Derived.Test.YtlgbigfdokdgfaaDoorLawFse
import Derived.SevenTiedAt
namespace Go.Proofs.YtlgbigfdokdgfaaDoor
open Go.ChangeShapes Go.WideShapes Go.ChangeAt Go.RowKit
theorem laidOutE : laidOutB Tryd.prog = true := by kernel_rfl
def laidEv : List (String × DataW Unit) := Rows.fnExactFsmEventsRow.laid
theorem ev_of {W : World} (hL : laidMetH Tryd.prog laidEv W) : EvT W := by
  rw [MakeChecks.laidMetH_plain _ _ _ (by kernel_rfl)] at hL
  exact evT_of (Lib.laidMet.reads hL (.head _))
set_option maxRecDepth 100000 in
theorem startEv (os : Os) (args : Array Value) : laidMetH Tryd.prog laidEv ((World.laidAll Tryd.prog os laidEv).forCall (fun _ _ => 0) ⟨#[], args, []⟩).memory := by
  rw [MakeChecks.laidMetH_plain _ _ _ (by kernel_rfl)]
  exact laidMet_laidAll _ (by kernel_rfl) (by kernel_rfl)
set_option maxRecDepth 100000 in
theorem liftedFse (os : Os) (started : os.Started) (H : Type) (enc : TypeId × Value → H) :
    ReturnsInHanded {} Tryd.checked os 5 .any (fun w args => (Rows.fnExactFsmEventsSpec.pre enc Tryd.prog Tryd.f5 [] false w args ∧ laidMetH Tryd.prog laidEv w) ∧ sizedMet enc Tryd.prog Tryd.f5 (OpenSpec.ofChange Rows.fnExactFsmEventsSpec) false w args)
      (Rows.fnExactFsmEventsSpec.post enc Tryd.prog Tryd.f5 false true false false) := by
  refine returnsInHanded_of_change_and (C := Tryd.checked) (X := fun w _ => laidMetH Tryd.prog laidEv w) (fun _ _ _ hh h => h.of_heap hh) own started (by kernel_rfl) Tryd.func5
    (ChangeSpec.witness_shaped (enc := enc) (C := Tryd.checked) (os := os) (X := fun w _ => laidMetH Tryd.prog laidEv w) false (World.laidAll Tryd.prog os laidEv) #[] 8 (World.laidAll_os _ _ _)
      (World.shaped_of_ZipB (by kernel_rfl) (by kernel_rfl)) (by kernel_rfl) (by kernel_rfl) (by kernel_rfl) (startEv os _)) ?_
  intro W base args ds gs before hval0 hW _ _ hL _
  have hW' := hW
  obtain ⟨p, q, hA0, hV, rfl, _, _⟩ := hW
  have hA : DataW.TrodAll enc Tryd.prog W 0 (fun _ => true) true Tryd.f5.params.toList args.toList ds p := hA0
  rw [Tryd.params5] at hA
  obtain ⟨rfl, rfl, rfl⟩ := trodAll_none hA
  have hV2 := hV
  obtain ⟨_, _, _, _, d0, _, rfl, _, _, _, _, _⟩ := trodVars_one hV2
  simp only [List.nil_append] at hW'
  refine (lawFse W (ev_of hL)).mono fun e W' ⟨he, hb⟩ => ?_
  subst he
  exact ⟨_, rfl, _, _, _, [], [], q, hW', trodAll_mk1 (shut_bool Tryd.underlying4 _), trodAll_mk0, hb.trodVars laidOutE (by kernel_rfl) hV, hb.frame _, fun h => by cases h⟩
theorem fnExactFsmEvents_row : Rows.FnExactFsmEventsSaid :=
  OpenClaim.holds_of_wide 5 Tryd.f5 rfl rfl rfl rfl rfl rfl rfl ⟨rfl, rfl, rfl, rfl, rfl⟩ rfl rfl rfl rfl rfl (by kernel_rfl) Tryd.func5 (by kernel_rfl)
    (of_decide_eq_true (by kernel_rfl)) (by unfold Func.isWrapper; first | (rw [if_pos (by decide +kernel)]; kernel_rfl) | (rw [if_neg (by decide +kernel)]; exact ⟨rfl, rfl⟩))
    (fun os started H enc _ => liftedFse os started H enc)
theorem fnExactFsmEvents_holds : Rows.FnExactFsmEventsCardSaid :=
  Claim7.holds_tied_plain_at .later [] [.data] true Rows.fnExactFsmEventsCard.stood.harness false fnExactFsmEvents_row (fun _ h => by cases h) (by kernel_rfl) (fun _ h => by cases h) fnExactFsmEvents_row_tie rfl ⟨rfl, rfl⟩ (by kernel_rfl) rfl
    (fun f fn hf hfn => by
      obtain rfl : f = 5 := Option.some.inj ((show Tryd.prog.funcNamed Rows.fnExactFsmEventsRow.func = some 5 by kernel_rfl).symm.trans hf) |>.symm
      obtain rfl : fn = Tryd.f5 := (Option.some.inj (Tryd.func5.symm.trans hfn)).symm
      exact ⟨by kernel_rfl, fun j t ht => by
        rw [Tryd.params5] at ht
        simp at ht⟩)
    (by kernel_rfl)
#print axioms fnExactFsmEvents_holds
end Go.Proofs.YtlgbigfdokdgfaaDoor
