/- FnMeet holds: two ends of drawn configs over a drawn script, packets lost, doubled and out of order among it, settled or not: the program's MeetRun answers as the model's, and settled the two ends are up with the same lines, or one has given up; the program's two tables, the library's tables of blanks and errors.errorType start as their texts lay them (the card ties them). -/
import Derived.Test.YtjdgiimfpkideaaGreatDoorTie
import Derived.Test.YtjdgiimfpkideaaGreatDoorCards
import Derived.Test.YtjdgiimfpkideaaGreatDoorS48
import Derived.Test.YtjdgiimfpkideaaGreatDoorS17
set_option maxRecDepth 100000
namespace Go.Proofs.YtjdgiimfpkideaaGreatDoor
open Go.RowKit Go.Proofs.Tryz
section
open Go.ChangeShapes Go.WideShapes Go.ChangeAt Go.RowKit
open Go.ChangeMaps (open_string shut_string)
theorem liftedFm(os:Os)(started:os.Started)(H:Type)(enc:TypeId × Value->H):ReturnsInHanded {} Tryz.checked os 3 .any (fun w args=>(Rows.fnMeetSpec.pre enc prog Tryz.f3 [] false w args/\laidMetH prog iS w)/\sizedMet enc prog Tryz.f3 (OpenSpec.ofChange Rows.fnMeetSpec) false w args)
   (Rows.fnMeetSpec.post enc prog Tryz.f3 false true false false):=by
 refine returnsInHanded_of_change_and (C:=Tryz.checked) (X:=fun w _=>laidMetH prog iS w) (fun _ _ _ hh h=>h.of_heap hh) own started (by kernel_rfl) func3
  (ChangeSpec.witness_shaped (enc:=enc) (C:=Tryz.checked) (os:=os) (X:=fun w _=>laidMetH prog iS w) false (gt os) #[()] 8 (mA os)
   (World.shaped_of_ZipB (by kernel_rfl) (by kernel_rfl)) (by kernel_rfl) (by kernel_rfl) (by kernel_rfl) (kV os _)) ?_
 intro W base args ds gs before hval0 hW _ _ hL _;have hval:∀(j:Nat) t v,Tryz.f3.params[j]?=some t->args[j]?=some v->Value.okWide prog W .any base t v:=hval0;have hW':=hW;obtain⟨p,q,hA0,hV,rfl,_,_⟩:=hW;have hA:DataW.TrodAll enc prog W 0 (fun _=>true) true Tryz.f3.params.toList args.toList ds p:=hA0;rw[Tryz.params3]at hA hval;obtain⟨v0,d0,rfl,rfl,h0⟩:=trodAll_one hA;have hV2:=hV;obtain⟨_,_,_,_,g0,_,_,_,_,_,g1,_,rfl,_⟩:=trodVars_two hV2;obtain⟨a0,len0,cap0,rfl⟩:=okWide_slice underlying22 (hval 0 22 v0 rfl rfl);clear hA0 hval0;have hlt0:∀x∈p,x.block<W.heap.size:=fun x hx=>hW'.lt x (by simp[hx])
 obtain⟨hd0,hm0⟩:=Fm h0;refine(G6 W _ len0 hm0 hd0 (pv hL) He eqC neL).mono fun r W' ⟨he,hb⟩=>?_
 subst he;have harg0:=Below.trod o9 (by kernel_rfl) (of_decide_eq_true (by kernel_rfl)) h0 hb hlt0;exact⟨_,rfl,_,_,_,[],_,q,hW',trodAll_mk1 (shut_bool underlying4 _),trodAll_mk1 harg0,hb.trodVars o9 (by kernel_rfl) hV,hb.frame _,fun h=>by cases h⟩
theorem fnMeet_row:Rows.FnMeetSaid :=
 OpenClaim.holds_of_wide 3 Tryz.f3 rfl rfl rfl rfl rfl rfl rfl ⟨rfl,rfl,rfl,rfl,rfl⟩ rfl rfl rfl rfl rfl (by kernel_rfl) func3 (by kernel_rfl)
  (of_decide_eq_true (by kernel_rfl)) (by unfold Func.isWrapper;first|(rw[if_pos (by decide +kernel)];kernel_rfl)|(rw[if_neg (by decide +kernel)];exact⟨rfl,rfl⟩))
  (fun os started H enc _=>liftedFm os started H enc)
theorem fnMeet_holds:Rows.FnMeetCardSaid :=
 Claim7.holds_tied_plain_at .later [] [.handle,.listed,.data,.data,.data] true Rows.fnMeetCard.stood.harness true fnMeet_row (fun _ h=>by cases h) (by kernel_rfl) (fun _ h=>by cases h) fnMeet_row_tie rfl ⟨rfl,rfl⟩ (by kernel_rfl) rfl
  (fun f fn hf hfn=>by
   obtain rfl:f=3:=Option.some.inj ((show prog.funcNamed Rows.fnMeetRow.func=some 3 by kernel_rfl).symm.trans hf) |>.symm;obtain rfl:fn=Tryz.f3:=(Option.some.inj (func3.symm.trans hfn)).symm;exact⟨by kernel_rfl,fun j t ht=>by
    rw[Tryz.params3]at ht;have hm:t∈[22]:=by simpa using Array.mem_of_getElem? ht
    have hall:([22].all fun u=>!prog.wantsStandIn u)=true:=by kernel_rfl
    exact(show prog.wantsStandIn t=false by simpa using List.all_eq_true.1 hall t hm)⟩)
  (by kernel_rfl)
#print axioms fnMeet_holds
end
end Go.Proofs.YtjdgiimfpkideaaGreatDoor
