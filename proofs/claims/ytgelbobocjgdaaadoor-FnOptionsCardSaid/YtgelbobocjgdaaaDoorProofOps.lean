/- FnOptions holds: at every two slices of bytes: drawn right options, and packets, come back from their bytes; what is read of drawn bytes is told by just these, or, of a packet, by those ahead; the arguments read as before; the library's variable errors.errorType starts as its text lays it (the card ties it). -/
import Derived.Test.YtgelbobocjgdaaaDoorRows
import Derived.Test.YtgelbobocjgdaaaDoorTie
import Derived.Test.YtgelbobocjgdaaaDoorCards
import Derived.Test.YtgelbobocjgdaaaDoorLaidEt
import Derived.Test.YtgelbobocjgdaaaDoorBytes
import Derived.Test.YtgelbobocjgdaaaDoorLawOps
import Derived.SevenTiedAt
namespace Go.Proofs.YtgelbobocjgdaaaDoor
open Go.ChangeShapes Go.WideShapes Go.ChangeAt Go.RowKit
set_option maxHeartbeats 400000 in
theorem lawOpsAll (w : World) (s1 s2 : Value) (n1 n2 : Nat) (h1 : n1 ≤ maxLen) (h2 : n2 ≤ maxLen) (hD1 : Dat w w.heap.size s1 n1) (hD2 : Dat w w.heap.size s2 n2) (hE : Et w) :
    Calls Tryd.prog 5 #[s1, s2] w fun e w' => e = .returned (.bool true) ∧ Below w.heap.size w w' := by
  by_cases hl1 : n1 ≤ 1048576
  · by_cases hl2 : n2 ≤ 1048576
    · exact lawOps w s1 s2 n1 n2 h1 h2 hD1 hD2 hE hl1 hl2
    · obtain ⟨a1, cap1, rfl⟩ := hD1.1
      obtain ⟨a2, cap2, rfl⟩ := hD2.1
      clear hD1 hD2
      have d1 : ¬ ((1048576 : Int) < (n1 : Int)) := by omega
      have d2 : (1048576 : Int) < (n2 : Int) := by omega
      go_enter Tryd.func5, Tryd.ntmps5
      go_wp2_with fail
      go_ret
      exact ⟨rfl, Below.refl _ _⟩
  · obtain ⟨a1, cap1, rfl⟩ := hD1.1
    obtain ⟨a2, cap2, rfl⟩ := hD2.1
    clear hD1 hD2
    have d1 : (1048576 : Int) < (n1 : Int) := by omega
    go_enter Tryd.func5, Tryd.ntmps5
    go_wp2_with fail
    go_ret
    exact ⟨rfl, Below.refl _ _⟩
set_option maxRecDepth 100000 in
theorem liftedOps (os : Os) (started : os.Started) (H : Type) (enc : TypeId × Value → H) :
    ReturnsInHanded {} Tryd.checked os 5 .any (fun w args => (Rows.fnOptionsSpec.pre enc Tryd.prog Tryd.f5 [] false w args ∧ laidMetH Tryd.prog laidEt w) ∧ sizedMet enc Tryd.prog Tryd.f5 (OpenSpec.ofChange Rows.fnOptionsSpec) false w args)
      (Rows.fnOptionsSpec.post enc Tryd.prog Tryd.f5 false true false false) := by
  refine returnsInHanded_of_change_and (C := Tryd.checked) (X := fun w _ => laidMetH Tryd.prog laidEt w) (fun _ _ _ hh h => h.of_heap hh) own started (by kernel_rfl) Tryd.func5
    (ChangeSpec.witness_at (enc := enc) (C := Tryd.checked) (os := os) (X := fun w _ => laidMetH Tryd.prog laidEt w) false (startEt os) #[.slice none 0 0, .slice none 0 0] 8 rfl (by kernel_rfl) (by kernel_rfl) (by kernel_rfl) (by kernel_rfl) (by kernel_rfl) (startEt_met os _)) ?_
  intro W base args ds gs before hval0 hW _ _ hL _
  have hval : ∀ (j : Nat) t v, Tryd.f5.params[j]? = some t → args[j]? = some v → Value.okWide Tryd.prog W .any base t v := hval0
  have hW' := hW
  obtain ⟨p, q, hA0, hV, rfl, _, _⟩ := hW
  have hA : DataW.TrodAll enc Tryd.prog W 0 (fun _ => true) true Tryd.f5.params.toList args.toList ds p := hA0
  rw [Tryd.params5] at hA hval
  obtain ⟨v0, v1, d0, d1, p0, p1, rfl, rfl, rfl, h0, h1⟩ := trodAll_two hA
  obtain ⟨rfl, rfl⟩ := trodVars_none hV
  obtain ⟨a0, len0, cap0, rfl⟩ := okWide_slice Tryd.underlying22 (hval 0 22 v0 rfl rfl)
  obtain ⟨a1, len1, cap1, rfl⟩ := okWide_slice Tryd.underlying22 (hval 1 22 v1 rfl rfl)
  clear hA0 hval0
  simp only [List.append_nil] at hW'
  have hlt : ∀ x ∈ p0 ++ p1, x.block < W.heap.size := fun x hx => by simpa using hW'.lt x hx
  obtain ⟨hd0, hm0⟩ := dat_of h0
  obtain ⟨hd1, hm1⟩ := dat_of h1
  refine (lawOpsAll W _ _ len0 len1 hm0 hm1 hd0 hd1 (et_of hL)).mono fun e W' ⟨he, hb⟩ => ?_
  subst he
  have harg0 : DataW.Trod enc Tryd.prog W' 0 (fun b => decide (b < W.heap.size)) true 22 (.slice a0 len0 cap0) d0 p0 :=
    Below.trod laidOut (by kernel_rfl) (of_decide_eq_true (by kernel_rfl)) h0 hb (fun x hx => hlt x (List.mem_append.2 (.inl hx)))
  have harg1 : DataW.Trod enc Tryd.prog W' 0 (fun b => decide (b < W.heap.size)) true 22 (.slice a1 len1 cap1) d1 p1 :=
    Below.trod laidOut (by kernel_rfl) (of_decide_eq_true (by kernel_rfl)) h1 hb (fun x hx => hlt x (List.mem_append.2 (.inr hx)))
  exact ⟨_, rfl, _, _, _, [], _, [], hW', trodAll_mk1 (shut_bool Tryd.underlying4 _), trodAll_mk2 harg0 harg1, rfl, hb.frame _, fun h => by cases h⟩
theorem fnOptions_row : Rows.FnOptionsSaid :=
  OpenClaim.holds_of_wide 5 Tryd.f5 rfl rfl rfl rfl rfl rfl rfl ⟨rfl, rfl, rfl, rfl, rfl⟩ rfl rfl rfl rfl rfl (by kernel_rfl) Tryd.func5 (by kernel_rfl)
    (of_decide_eq_true (by kernel_rfl)) (by unfold Func.isWrapper; first | (rw [if_pos (by decide +kernel)]; kernel_rfl) | (rw [if_neg (by decide +kernel)]; exact ⟨rfl, rfl⟩))
    (fun os started H enc _ => liftedOps os started H enc)
theorem fnOptions_holds : Rows.FnOptionsCardSaid :=
  Claim7.holds_tied_plain_at .later [] [.handle] true Rows.fnOptionsCard.stood.harness true fnOptions_row (fun _ h => by cases h) (by kernel_rfl) (fun _ h => by cases h) fnOptions_row_tie rfl ⟨rfl, rfl⟩ (by kernel_rfl) rfl
    (fun f fn hf hfn => by
      obtain rfl : f = 5 := Option.some.inj ((show Tryd.prog.funcNamed Rows.fnOptionsRow.func = some 5 by kernel_rfl).symm.trans hf) |>.symm
      obtain rfl : fn = Tryd.f5 := (Option.some.inj (Tryd.func5.symm.trans hfn)).symm
      exact ⟨by kernel_rfl, fun j t ht => by
        rw [Tryd.params5] at ht
        have hm : t ∈ [22, 22] := by simpa using Array.mem_of_getElem? ht
        have hall : ([22, 22].all fun u => !Tryd.prog.wantsStandIn u) = true := by kernel_rfl
        exact (show Tryd.prog.wantsStandIn t = false by simpa using List.all_eq_true.1 hall t hm)⟩)
    (by kernel_rfl)
#print axioms fnOptions_holds
end Go.Proofs.YtgelbobocjgdaaaDoor
