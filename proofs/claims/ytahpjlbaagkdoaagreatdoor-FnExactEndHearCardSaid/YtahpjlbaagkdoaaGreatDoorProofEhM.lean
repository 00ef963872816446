/- FnExactEndHear holds: at every End, every Packet and every time the program's EndHear answers as the model's, every field, what is sent and what is told, the arguments read as before, and the answer owns its memory; the program's two tables, the library's tables of blanks and errors.errorType start as their texts lay them (the card ties them). -/
import Derived.Test.YtahpjlbaagkdoaaGreatDoorRows
import Derived.Test.YtahpjlbaagkdoaaGreatDoorTie
import Derived.Test.YtahpjlbaagkdoaaGreatDoorCards
import Derived.Test.YtahpjlbaagkdoaaGreatDoorS04
import Derived.Test.YtahpjlbaagkdoaaGreatDoorS47
import Derived.Test.YtahpjlbaagkdoaaGreatDoorS48
import Derived.SevenTiedAt
import Derived.OpenShut
namespace Go.Proofs.YtahpjlbaagkdoaaGreatDoor
open Go.ChangeShapes Go.WideShapes Go.ChangeAt Go.RowKit
open Go.ChangeMaps (open_string shut_string)
set_option maxRecDepth 100000 in
theorem liftedEh (os : Os) (started : os.Started) (H : Type) (enc : TypeId × Value → H) :
  ReturnsInHanded {} Tryz.checked os 4 .any (fun w args => (Rows.fnExactEndHearSpec.pre enc Tryz.prog Tryz.f4 [] false w args ∧ laidMetH Tryz.prog laidEh w) ∧ sizedMet enc Tryz.prog Tryz.f4 (OpenSpec.ofChange Rows.fnExactEndHearSpec) false w args)
   (Rows.fnExactEndHearSpec.post enc Tryz.prog Tryz.f4 false true false false) := by
 refine returnsInHanded_of_change_and (C := Tryz.checked) (X := fun w _ => laidMetH Tryz.prog laidEh w) (fun _ _ _ hh h => h.of_heap hh) own started (by kernel_rfl) Tryz.func4
  (ChangeSpec.witness_shaped (enc := enc) (C := Tryz.checked) (os := os) (X := fun w _ => laidMetH Tryz.prog laidEh w) false (startEh os) #[.agg enZ, .agg #[.int .i64 0, .int .i64 0, .string ⟨#[]⟩], .int .i64 0] 8 (startEh_os os)
   (World.shaped_of_ZipB (by kernel_rfl) (by kernel_rfl)) (by kernel_rfl) (by kernel_rfl) (by kernel_rfl) (startEh_met os _)) ?_
 intro W base args ds gs before hval0 hW _ _ hL _
 have hval : ∀ (j : Nat) t v, Tryz.f4.params[j]? = some t → args[j]? = some v → Value.okWide Tryz.prog W .any base t v := hval0
 have hW' := hW
 obtain ⟨p, q, hA0, hV, rfl, _, _⟩ := hW
 have hA : DataW.TrodAll enc Tryz.prog W 0 (fun _ => true) true Tryz.f4.params.toList args.toList ds p := hA0
 rw [Tryz.params4] at hA hval
 obtain ⟨v0, v1, v2, d0, d1, d2, p0, p1, p2, rfl, rfl, rfl, h0, h1, h2⟩ := trodAll_three hA
 have hV2 := hV
 obtain ⟨_, _, _, _, g0, _, _, _, _, _, g1, _, rfl, _⟩ := trodVars_two hV2
 obtain ⟨e, x1, x2, y1, y2, F1, F2, rfl, a1, a2, l1, l2, _⟩ := open_end (hval 0 51 v0 rfl rfl) h0
 obtain ⟨px, py, pt, rfl, hpt⟩ := open_pk (hval 1 52 v1 rfl rfl) h1
 obtain ⟨x, rfl, rfl, rfl, wx⟩ := open_int Tryz.underlying2 (hval 2 2 v2 rfl rfl) h2
 simp only [List.append_nil] at hW'
 have hlt0 : ∀ x ∈ p0, x.block < W.heap.size := fun x hx => hW'.lt x (List.mem_append.2 (.inl (List.mem_append.2 (.inl hx))))
 have hlt1 : ∀ x ∈ p1, x.block < W.heap.size := fun x hx => hW'.lt x (List.mem_append.2 (.inl (List.mem_append.2 (.inr hx))))
 obtain ⟨tE, tN, tS, tT⟩ := tabs_ofE hL
 refine (lawEh e x1 x2 y1 y2 F1 F2 px py pt x W l1 l2 hpt a1 a2 tE tN tS tT).mono fun r W' ⟨he, hb⟩ => ?_
 subst he
 have harg0 := Below.trod laidOutE (by kernel_rfl) (of_decide_eq_true (by kernel_rfl)) h0 hb hlt0
 have harg1 := Below.trod laidOutE (by kernel_rfl) (of_decide_eq_true (by kernel_rfl)) h1 hb hlt1
 have hargs := trodAll_mk3 harg0 harg1 (shut_int (enc := enc) (P := Tryz.prog) (w := W') Tryz.underlying2 wx)
 rw [List.append_nil] at hargs
 exact ⟨_, rfl, _, _, _, [], _, q, hW', trodAll_mk1 (shut_bool Tryz.underlying4 _), hargs, hb.trodVars laidOutF (by kernel_rfl) hV, hb.frame _, fun h => by cases h⟩
theorem fnExactEndHear_row : Rows.FnExactEndHearSaid :=
 OpenClaim.holds_of_wide 4 Tryz.f4 rfl rfl rfl rfl rfl rfl rfl ⟨rfl, rfl, rfl, rfl, rfl⟩ rfl rfl rfl rfl rfl (by kernel_rfl) Tryz.func4 (by kernel_rfl)
  (of_decide_eq_true (by kernel_rfl)) (by unfold Func.isWrapper; first | (rw [if_pos (by decide +kernel)]; kernel_rfl) | (rw [if_neg (by decide +kernel)]; exact ⟨rfl, rfl⟩))
  (fun os started H enc _ => liftedEh os started H enc)
theorem fnExactEndHear_holds : Rows.FnExactEndHearCardSaid :=
 Claim7.holds_tied_plain_at .later [] [.handle, .listed, .data, .data, .data] true Rows.fnExactEndHearCard.stood.harness true fnExactEndHear_row (fun _ h => by cases h) (by kernel_rfl) (fun _ h => by cases h) fnExactEndHear_row_tie rfl ⟨rfl, rfl⟩ (by kernel_rfl) rfl
  (fun f fn hf hfn => by
   obtain rfl : f = 4 := Option.some.inj ((show Tryz.prog.funcNamed Rows.fnExactEndHearRow.func = some 4 by kernel_rfl).symm.trans hf) |>.symm
   obtain rfl : fn = Tryz.f4 := (Option.some.inj (Tryz.func4.symm.trans hfn)).symm
   exact ⟨by kernel_rfl, fun j t ht => by
    rw [Tryz.params4] at ht
    have hm : t ∈ [51, 52, 2] := by simpa using Array.mem_of_getElem? ht
    have hall : ([51, 52, 2].all fun u => !Tryz.prog.wantsStandIn u) = true := by kernel_rfl
    exact (show Tryz.prog.wantsStandIn t = false by simpa using List.all_eq_true.1 hall t hm)⟩)
  (by kernel_rfl)
#print axioms fnExactEndHear_holds
end Go.Proofs.YtahpjlbaagkdoaaGreatDoor
