/- FnTop holds: over each drawn number, order and place eleven good lines run at a desk tell what they ought; the program's tables and errors, the library's tables and errors.errorType start as their texts lay them (the card ties them). -/
import Derived.Test.YtjebigodbnefiaaGreatDoorTie
import Derived.Test.YtjebigodbnefiaaGreatDoorCards
import Derived.Test.YtjebigodbnefiaaGreatDoorS45
set_option maxRecDepth 100000
namespace Go.Proofs.YtjebigodbnefiaaGreatDoor
open Go.Proofs.Tryz
open Go.ChangeShapes Go.WideShapes Go.ChangeAt Go.RowKit
open Go.ChangeMaps (open_string shut_string)
theorem vars_len {H:Type} {enc:TypeId × Value→H} {P:Program} {w:World} {sp:Nat→Bool}:∀ {ns:List String} {gs:List (DataW H)} {ps:List MemPlace},DataW.TrodVars enc P w sp ns gs ps→gs.length=ns.length
 | [],[],_,_=>rfl
 | [],_ :: _,_,h=>by cases h
 | _ :: _,[],_,h=>by cases h
 | _ :: _,_ :: _,_,h=>by
  obtain ⟨_,_,_,_,_,_,_,_,_,_,h,_⟩:=h;rw [List.length_cons,List.length_cons,vars_len h]
theorem four_vars {α:Type}:∀ {l:List α},l.length=4→∃ a b c d,l=[a,b,c,d]
 | [a,b,c,d],_=>⟨a,b,c,d,rfl⟩
 | [],h=>by cases h
 | [_],h=>by cases h
 | [_,_],h=>by cases h
 | [_,_,_],h=>by cases h
 | _ :: _ :: _ :: _ :: _ :: _,h=>by simp at h
theorem liftedTp (os:Os) (started:os.Started) (H:Type) (enc:TypeId × Value→H) :
  ReturnsInHanded {} Tryz.checked os 3 .any (fun w args=>(Rows.fnTopSpec.pre enc prog Tryz.f3 [] false w args∧laidMetH prog lf w)∧sizedMet enc prog Tryz.f3 (OpenSpec.ofChange Rows.fnTopSpec) false w args)
   (Rows.fnTopSpec.post enc prog Tryz.f3 false true false false):=by
 refine returnsInHanded_of_calls own started (by kernel_rfl)
  (ChangeSpec.witness_shaped (enc:=enc) (C:=Tryz.checked) (os:=os) (X:=fun w _=>laidMetH prog lf w) false (jG os) #[.slice none 0 0] 8 (qV os)
   (World.shaped_of_ZipB (by kernel_rfl) (by kernel_rfl)) (by kernel_rfl) (by kernel_rfl) (by kernel_rfl) (pf os _)) ?_
 intro w tape i _ hsh _ hok hpre _;obtain ⟨_,_,_,fn',hfn',_,_,_,_,hval0⟩:=hok;obtain rfl:fn'=Tryz.f3:=Option.some.inj (hfn'.symm.trans func3);obtain ⟨⟨⟨ds,gs,before,hw,_⟩,hx⟩,_⟩:=hpre;have hW:=DataW.Whole.of_heap (w':=w.forCall tape i) (by rfl) hw;have hL:laidMetH prog lf (w.forCall tape i):=hx.of_heap (by rfl);suffices hC:Calls prog 3 i.args (w.forCall tape i) fun e W'=>∃ v,e=.returned v∧Rows.fnTopSpec.post enc prog Tryz.f3 false true false false (w.forCall tape i) i.args v W' by
  refine hC.mono fun e W' ⟨v,he,hp⟩=>?_
  subst he;exact ChangeSpec.post_blind hp
 clear hw hx;generalize w.forCall tape i=W at *;have hval:∀ (j:Nat) t v,Tryz.f3.params[j]?=some t→i.args[j]?=some v→Value.okWide prog W .any w.heap.size t v:=hval0;generalize i.args=args at *;have hW':=hW;obtain ⟨p,q,hA0,hV,rfl,_,_⟩:=hW;have hA:DataW.TrodAll enc prog W 0 (fun _=>true) true Tryz.f3.params.toList args.toList ds p:=hA0;rw [Tryz.params3] at hA hval;obtain ⟨v0,d0,rfl,rfl,h0⟩:=trodAll_one hA;have hV2:=hV;obtain ⟨g0,g1,g2,g3,rfl⟩:=four_vars (vars_len hV2);obtain ⟨a0,len0,cap0,rfl⟩:=okWide_slice underlying22 (hval 0 22 v0 rfl rfl);clear hA0 hval0;have hlt0:∀ x ∈ p,x.block<W.heap.size:=fun x hx=>hW'.lt x (by simp [hx])
 obtain ⟨hd0,hm0⟩:=Am h0;refine (Bd W _ len0 hd0 (zZ hsh hL)).mono fun r W' ⟨he,hb⟩=>?_
 subst he;have harg0:=Below.trod o9 (by kernel_rfl) (of_decide_eq_true (by kernel_rfl)) h0 hb hlt0;exact ⟨_,rfl,_,_,_,[],_,q,hW',trodAll_mk1 (shut_bool underlying4 _),trodAll_mk1 harg0,hb.trodVars o9 (by kernel_rfl) hV,hb.frame _,fun h=>by cases h⟩
theorem fnTop_row:Rows.FnTopSaid :=
 OpenClaim.holds_of_wide 3 Tryz.f3 rfl rfl rfl rfl rfl rfl rfl ⟨rfl,rfl,rfl,rfl,rfl⟩ rfl rfl rfl rfl rfl (by kernel_rfl) func3 (by kernel_rfl)
  (of_decide_eq_true (by kernel_rfl)) (by unfold Func.isWrapper;first | (rw [if_pos (by decide +kernel)];kernel_rfl) | (rw [if_neg (by decide +kernel)];exact ⟨rfl,rfl⟩))
  (fun os started H enc _=>liftedTp os started H enc)
theorem fnTop_holds:Rows.FnTopCardSaid :=
 Claim7.holds_tied_plain_at .later [] [.data,.data,.data,.data,.handle,.sentinel,.sentinel,.listed,.data,.data,.data,.sentinel,.sentinel,.pinned] true Rows.fnTopCard.stood.harness true fnTop_row (fun _ h=>by cases h) (by kernel_rfl) (fun _ h=>by cases h) fnTop_row_tie rfl ⟨rfl,rfl⟩ (by kernel_rfl) rfl
  (fun f fn hf hfn=>by
   obtain rfl:f=3:=Option.some.inj ((show prog.funcNamed Rows.fnTopRow.func=some 3 by kernel_rfl).symm.trans hf) |>.symm;obtain rfl:fn=Tryz.f3:=(Option.some.inj (func3.symm.trans hfn)).symm;exact ⟨by kernel_rfl,fun j t ht=>by
    rw [Tryz.params3] at ht;have hm:t ∈ [22]:=by simpa using Array.mem_of_getElem? ht
    have hall:([22].all fun u=>!prog.wantsStandIn u)=true:=by kernel_rfl
    exact (show prog.wantsStandIn t=false by simpa using List.all_eq_true.1 hall t hm)⟩)
  (by kernel_rfl)
#print axioms fnTop_holds
end Go.Proofs.YtjebigodbnefiaaGreatDoor
