/- FnExactMeetRun holds: at every two Configs, every script and either way of settling the program's MeetRun answers as the model's, every field, the arguments read as before, and the answer owns its memory; the program's two tables, the library's tables of blanks and errors.errorType stand as they are laid (the card ties them to the text). -/
import Derived.Test.YtjdgiimfpkideaaGreatDoorTie
import Derived.Test.YtjdgiimfpkideaaGreatDoorCards
import Derived.Test.YtjdgiimfpkideaaGreatDoorS48
set_option maxRecDepth 100000
namespace Go.Proofs.YtjdgiimfpkideaaGreatDoor
open Go.Proofs.Tryz
open Go.ChangeShapes Go.WideShapes Go.ChangeAt Go.RowKit
open Go.ChangeMaps (open_string shut_string)
theorem liftedMt (os:Os) (started:os.Started) (H:Type) (enc:TypeId × Value→H) :
  ReturnsInHanded {} Tryz.checked os 4 .any (fun w args=>(Rows.fnExactMeetRunSpec.pre enc prog Tryz.f4 [] false w args∧laidMetH prog iS w)∧sizedMet enc prog Tryz.f4 (OpenSpec.ofChange Rows.fnExactMeetRunSpec) false w args)
   (Rows.fnExactMeetRunSpec.post enc prog Tryz.f4 false true false false):=by
 refine returnsInHanded_of_change_and (C:=Tryz.checked) (X:=fun w _=>laidMetH prog iS w) (fun _ _ _ hh h=>h.of_heap hh) own started (by kernel_rfl) func4
  (ChangeSpec.witness_shaped (enc:=enc) (C:=Tryz.checked) (os:=os) (X:=fun w _=>laidMetH prog iS w) false (gt os) #[.agg #[.int .i64 0,.int .i64 0,.int .i64 0,.bool false,.bool false,.bool false],.agg #[.int .i64 0,.int .i64 0,.int .i64 0,.bool false,.bool false,.bool false],.slice none 0 0,.bool false] 8 (mA os)
   (World.shaped_of_ZipB (by kernel_rfl) (by kernel_rfl)) (by kernel_rfl) (by kernel_rfl) (by kernel_rfl) (kV os _)) ?_
 intro W base args ds gs before hval0 hW _ _ hL _;have hval:∀ (j:Nat) t v,Tryz.f4.params[j]?=some t→args[j]?=some v→Value.okWide prog W .any base t v:=hval0;have hW':=hW;obtain ⟨p,q,hA0,hV,rfl,_,_⟩:=hW;have hA:DataW.TrodAll enc prog W 0 (fun _=>true) true Tryz.f4.params.toList args.toList ds p:=hA0;rw [Tryz.params4] at hA hval;obtain ⟨v0,v1,v2,v3,d0,d1,d2,d3,p0,p1,p2,p3,rfl,rfl,rfl,h0,h1,h2,h3⟩:=trodAll_four hA;have hV2:=hV;obtain ⟨_,_,_,_,g0,_,_,_,_,_,g1,_,rfl,_⟩:=trodVars_two hV2;obtain ⟨m1,a1,k1,q1,c1,e1,rfl,_,_,_⟩:=mh (hval 0 40 v0 rfl rfl) h0;obtain ⟨m2,a2,k2,q2,c2,e2,rfl,_,_,_⟩:=mh (hval 1 40 v1 rfl rfl) h1;obtain ⟨L,hL2,hLm⟩:=oU h2 (okWide_slice underlying25 (hval 2 25 v2 rfl rfl));obtain ⟨st,rfl,rfl,rfl⟩:=open_bool underlying4 (hval 3 4 v3 rfl rfl) h3;simp only [List.append_nil] at hW';have hlt0:∀ x ∈ p0,x.block<W.heap.size:=fun x hx=>hW'.lt x (by simp [hx])
 have hlt1:∀ x ∈ p1,x.block<W.heap.size:=fun x hx=>hW'.lt x (by simp [hx])
 have hlt2:∀ x ∈ p2,x.block<W.heap.size:=fun x hx=>hW'.lt x (by simp [hx])
 obtain ⟨tE,tN,tS,tT⟩:=pv hL;refine (x8 m1 a1 k1 q1 c1 e1 m2 a2 k2 q2 c2 e2 v2 L st W hLm hL2 ⟨tE,tN,tS,tT⟩).mono fun r W' ⟨he,hb⟩=>?_
 subst he;have harg0:=Below.trod jD (by kernel_rfl) (of_decide_eq_true (by kernel_rfl)) h0 hb hlt0;have harg1:=Below.trod jD (by kernel_rfl) (of_decide_eq_true (by kernel_rfl)) h1 hb hlt1;have harg2:=Below.trod jD (by kernel_rfl) (of_decide_eq_true (by kernel_rfl)) h2 hb hlt2;have hargs:=trodAll_mk4 harg0 harg1 harg2 (shut_bool (enc:=enc) (P:=prog) (w:=W') underlying4 st);simp only [List.append_nil] at hargs;exact ⟨_,rfl,_,_,_,[],_,q,hW',trodAll_mk1 (shut_bool underlying4 _),hargs,hb.trodVars o9 (by kernel_rfl) hV,hb.frame _,fun h=>by cases h⟩
theorem fnExactMeetRun_row:Rows.FnExactMeetRunSaid :=
 OpenClaim.holds_of_wide 4 Tryz.f4 rfl rfl rfl rfl rfl rfl rfl ⟨rfl,rfl,rfl,rfl,rfl⟩ rfl rfl rfl rfl rfl (by kernel_rfl) func4 (by kernel_rfl)
  (of_decide_eq_true (by kernel_rfl)) (by unfold Func.isWrapper;first | (rw [if_pos (by decide +kernel)];kernel_rfl) | (rw [if_neg (by decide +kernel)];exact ⟨rfl,rfl⟩))
  (fun os started H enc _=>liftedMt os started H enc)
theorem fnExactMeetRun_holds:Rows.FnExactMeetRunCardSaid :=
 Claim7.holds_tied_plain_at .later [] [.handle,.listed,.data,.data,.data] true Rows.fnExactMeetRunCard.stood.harness true fnExactMeetRun_row (fun _ h=>by cases h) (by kernel_rfl) (fun _ h=>by cases h) fnExactMeetRun_row_tie rfl ⟨rfl,rfl⟩ (by kernel_rfl) rfl
  (fun f fn hf hfn=>by
   obtain rfl:f=4:=Option.some.inj ((show prog.funcNamed Rows.fnExactMeetRunRow.func=some 4 by kernel_rfl).symm.trans hf) |>.symm;obtain rfl:fn=Tryz.f4:=(Option.some.inj (func4.symm.trans hfn)).symm;exact ⟨by kernel_rfl,fun j t ht=>by
    rw [Tryz.params4] at ht;have hm:t ∈ [40,40,25,4]:=by simpa using Array.mem_of_getElem? ht
    have hall:([40,40,25,4].all fun u=>!prog.wantsStandIn u)=true:=by kernel_rfl
    exact (show prog.wantsStandIn t=false by simpa using List.all_eq_true.1 hall t hm)⟩)
  (by kernel_rfl)
#print axioms fnExactMeetRun_holds
end Go.Proofs.YtjdgiimfpkideaaGreatDoor
