/- FnExactLineRun holds: at every texts, every window, every script and either way of settling the program's LineRun answers as the model's, every field, the arguments read as before, and the answer owns its memory; the library's two tables of its decoder start as its text lays them (the card ties them). -/
import Derived.Test.YtkcghhkkepndnaaGreatDoorRows
import Derived.Test.YtkcghhkkepndnaaGreatDoorTie
import Derived.Test.YtkcghhkkepndnaaGreatDoorCards
import Derived.Test.YtkcghhkkepndnaaGreatDoorS00
import Derived.Test.YtkcghhkkepndnaaGreatDoorS46
import Derived.Test.YtkcghhkkepndnaaGreatDoorS11
import Derived.SevenTiedAt
namespace Go.Proofs.YtkcghhkkepndnaaGreatDoor
open Go.ChangeShapes Go.WideShapes Go.ChangeAt Go.RowKit
open Go.ChangeMaps (open_string shut_string)
set_option maxRecDepth 100000 in
theorem liftedLi (os:Os) (started:os.Started) (H:Type) (enc:TypeId × Value→H) :
  ReturnsInHanded {} Tryz.checked os 4 .any (fun w args=>(Rows.fnExactLineRunSpec.pre enc Tryz.prog Tryz.f4 [] false w args∧laidMetH Tryz.prog laidTabs w)∧sizedMet enc Tryz.prog Tryz.f4 (OpenSpec.ofChange Rows.fnExactLineRunSpec) false w args)
   (Rows.fnExactLineRunSpec.post enc Tryz.prog Tryz.f4 false true false false):=by
 refine returnsInHanded_of_change_and (C:=Tryz.checked) (X:=fun w _=>laidMetH Tryz.prog laidTabs w) (fun _ _ _ hh h=>h.of_heap hh) own started (by kernel_rfl) Tryz.func4
  (ChangeSpec.witness_shaped (enc:=enc) (C:=Tryz.checked) (os:=os) (X:=fun w _=>laidMetH Tryz.prog laidTabs w) false (World.laidAll Tryz.prog os laidTabs) #[.slice none 0 0,.int .i64 0,.slice none 0 0,.bool false] 8 (World.laidAll_os _ _ _)
   (World.shaped_of_ZipB (by kernel_rfl) (by kernel_rfl)) (by kernel_rfl) (by kernel_rfl) (by kernel_rfl) (start_met os _)) ?_
 intro W base args ds gs before hval0 hW _ _ hL _
 have hval:∀ (j:Nat) t v,Tryz.f4.params[j]?=some t→args[j]?=some v→Value.okWide Tryz.prog W .any base t v:=hval0
 have hW':=hW
 obtain ⟨p,q,hA0,hV,rfl,_,_⟩:=hW
 have hA:DataW.TrodAll enc Tryz.prog W 0 (fun _=>true) true Tryz.f4.params.toList args.toList ds p:=hA0
 rw [Tryz.params4] at hA hval
 obtain ⟨v0,v1,v2,v3,d0,d1,d2,d3,p0,p1,p2,p3,rfl,rfl,rfl,h0,h1,h2,h3⟩:=trodAll_four hA
 obtain ⟨rfl,rfl⟩:=trodVars_none hV
 obtain ⟨T,hT2,hTm⟩:=open_textsN h0 (okWide_slice Tryz.underlying23 (hval 0 23 v0 rfl rfl))
 obtain ⟨x,rfl,rfl,rfl,wx⟩:=open_int Tryz.underlying2 (hval 1 2 v1 rfl rfl) h1
 obtain ⟨L,hL2,hLm,hLb⟩:=open_numsN h2 (okWide_slice Tryz.underlying24 (hval 2 24 v2 rfl rfl))
 obtain ⟨st,rfl,rfl,rfl⟩:=open_bool Tryz.underlying4 (hval 3 4 v3 rfl rfl) h3
 simp only [List.append_nil] at hW'
 have hlt0:∀ x ∈ p0,x.block<W.heap.size:=fun x hx=>hW'.lt x (by simp [hx])
 have hlt2:∀ x ∈ p2,x.block<W.heap.size:=fun x hx=>hW'.lt x (by simp [hx])
 refine (lawLi v0 T x v2 L st W (tabs_of hL) hTm hLm hT2 hL2 hLb).mono fun r W' ⟨he,hb⟩=>?_
 subst he
 have harg0:=Below.trod laidOutN (by kernel_rfl) (of_decide_eq_true (by kernel_rfl)) h0 hb hlt0
 have harg2:=Below.trod laidOutN (by kernel_rfl) (of_decide_eq_true (by kernel_rfl)) h2 hb hlt2
 have hargs:=trodAll_mk4 harg0 (shut_int (enc:=enc) (P:=Tryz.prog) (w:=W') Tryz.underlying2 wx) harg2 (shut_bool (enc:=enc) (P:=Tryz.prog) (w:=W') Tryz.underlying4 st)
 simp only [List.append_nil,List.nil_append] at hargs hW' ⊢
 exact ⟨_,rfl,_,_,_,[],_,[],hW',trodAll_mk1 (shut_bool Tryz.underlying4 _),hargs,rfl,hb.frame _,fun h=>by cases h⟩
theorem fnExactLineRun_row:Rows.FnExactLineRunSaid :=
 OpenClaim.holds_of_wide 4 Tryz.f4 rfl rfl rfl rfl rfl rfl rfl ⟨rfl,rfl,rfl,rfl,rfl⟩ rfl rfl rfl rfl rfl (by kernel_rfl) Tryz.func4 (by kernel_rfl)
  (of_decide_eq_true (by kernel_rfl)) (by unfold Func.isWrapper;first | (rw [if_pos (by decide +kernel)];kernel_rfl) | (rw [if_neg (by decide +kernel)];exact ⟨rfl,rfl⟩))
  (fun os started H enc _=>liftedLi os started H enc)
theorem fnExactLineRun_holds:Rows.FnExactLineRunCardSaid :=
 Claim7.holds_tied_plain_at .later [] [.data,.pinned] true Rows.fnExactLineRunCard.stood.harness false fnExactLineRun_row (fun _ h=>by cases h) (by kernel_rfl) (fun _ h=>by cases h) fnExactLineRun_row_tie rfl ⟨rfl,rfl⟩ (by kernel_rfl) rfl
  (fun f fn hf hfn=>by
   obtain rfl:f=4:=Option.some.inj ((show Tryz.prog.funcNamed Rows.fnExactLineRunRow.func=some 4 by kernel_rfl).symm.trans hf) |>.symm
   obtain rfl:fn=Tryz.f4:=(Option.some.inj (Tryz.func4.symm.trans hfn)).symm
   exact ⟨by kernel_rfl,fun j t ht=>by
    rw [Tryz.params4] at ht
    have hm:t ∈ [23,2,24,4]:=by simpa using Array.mem_of_getElem? ht
    have hall:([23,2,24,4].all fun u=>!Tryz.prog.wantsStandIn u)=true:=by kernel_rfl
    exact (show Tryz.prog.wantsStandIn t=false by simpa using List.all_eq_true.1 hall t hm)⟩)
  (by kernel_rfl)
#print axioms fnExactLineRun_holds
end Go.Proofs.YtkcghhkkepndnaaGreatDoor
