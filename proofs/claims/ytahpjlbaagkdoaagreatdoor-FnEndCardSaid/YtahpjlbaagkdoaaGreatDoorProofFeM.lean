/- ProofFe -/
import Derived.Test.YtahpjlbaagkdoaaGreatDoorTie
import Derived.Test.YtahpjlbaagkdoaaGreatDoorCards
import Derived.Test.YtahpjlbaagkdoaaGreatDoorS47
import Derived.Test.YtahpjlbaagkdoaaGreatDoorS48
set_option maxHeartbeats 400000
set_option maxRecDepth 100000
namespace Go.Proofs.YtahpjlbaagkdoaaGreatDoor
open Go.Proofs.Tryz
open Go.ChangeShapes Go.WideShapes Go.ChangeAt Go.RowKit
open Go.ChangeMaps (open_string shut_string)
theorem lawFeAll (w:World) (s1 s2:Value) (n1 n2:Nat) (h1:n1≤maxLen) (h2:n2≤maxLen) (hD1:Dat w w.heap.size s1 n1) (hD2:Dat w w.heap.size s2 n2) (hEv:EvT w) (hNx:NxT w) (hSp:SpT w) (hEt:Et w) :
  Calls prog 3 #[s1,s2] w fun e w'=>e=.returned (.bool true)∧Below w.heap.size w w':=by
 by_cases hl1:n1≤1048576
 ·by_cases hl2:n2≤1048576
  ·exact lawFe w s1 s2 n1 n2 h1 h2 hD1 hD2 hl1 hl2 hEv hNx hSp hEt
  ·obtain ⟨a1,cap1,rfl⟩:=hD1.1;obtain ⟨a2,cap2,rfl⟩:=hD2.1;clear hD1 hD2 hEv hNx hSp hEt;have d1:¬ ((1048576:Int)<(n1:Int)):=by omega
   have d2:(1048576:Int)<(n2:Int):=by omega
   go_enter func3,ntmps3
   go_wp2_with fail
   go_ret
   exact ⟨rfl,Below.refl _ _⟩
 ·obtain ⟨a1,cap1,rfl⟩:=hD1.1;obtain ⟨a2,cap2,rfl⟩:=hD2.1;clear hD1 hD2 hEv hNx hSp hEt;have d1:(1048576:Int)<(n1:Int):=by omega
  go_enter func3,ntmps3
  go_wp2_with fail
  go_ret
  exact ⟨rfl,Below.refl _ _⟩
theorem liftedFe (os:Os) (started:os.Started) (H:Type) (enc:TypeId × Value→H) :
  ReturnsInHanded {} Tryz.checked os 3 .any (fun w args=>(Rows.fnEndSpec.pre enc prog Tryz.f3 [] false w args∧laidMetH prog laidEh w)∧sizedMet enc prog Tryz.f3 (OpenSpec.ofChange Rows.fnEndSpec) false w args)
   (Rows.fnEndSpec.post enc prog Tryz.f3 false true false false):=by
 refine returnsInHanded_of_change_and (C:=Tryz.checked) (X:=fun w _=>laidMetH prog laidEh w) (fun _ _ _ hh h=>h.of_heap hh) own started (by kernel_rfl) func3
  (ChangeSpec.witness_shaped (enc:=enc) (C:=Tryz.checked) (os:=os) (X:=fun w _=>laidMetH prog laidEh w) false (startEh os) #[.slice none 0 0,.slice none 0 0] 8 (startEh_os os)
   (World.shaped_of_ZipB (by kernel_rfl) (by kernel_rfl)) (by kernel_rfl) (by kernel_rfl) (by kernel_rfl) (startEh_met os _)) ?_
 intro W base args ds gs before hval0 hW _ _ hL _;have hval:∀ (j:Nat) t v,Tryz.f3.params[j]?=some t→args[j]?=some v→Value.okWide prog W .any base t v:=hval0;have hW':=hW;obtain ⟨p,q,hA0,hV,rfl,_,_⟩:=hW;have hA:DataW.TrodAll enc prog W 0 (fun _=>true) true Tryz.f3.params.toList args.toList ds p:=hA0;rw [Tryz.params3] at hA hval;obtain ⟨v0,v1,d0,d1,p0,p1,rfl,rfl,rfl,h0,h1⟩:=trodAll_two hA;have hV2:=hV;obtain ⟨_,_,_,_,g0,_,_,_,_,_,g1,_,rfl,_⟩:=trodVars_two hV2;obtain ⟨a0,len0,cap0,rfl⟩:=okWide_slice underlying22 (hval 0 22 v0 rfl rfl);obtain ⟨a1,len1,cap1,rfl⟩:=okWide_slice underlying22 (hval 1 22 v1 rfl rfl);clear hA0 hval0;have hlt0:∀ x ∈ p0,x.block<W.heap.size:=fun x hx=>hW'.lt x (List.mem_append.2 (.inl (List.mem_append.2 (.inl hx))))
 have hlt1:∀ x ∈ p1,x.block<W.heap.size:=fun x hx=>hW'.lt x (List.mem_append.2 (.inl (List.mem_append.2 (.inr hx))))
 obtain ⟨hd0,hm0⟩:=dat_of h0;obtain ⟨hd1,hm1⟩:=dat_of h1;obtain ⟨tE,tN,tS,tT⟩:=tabs_ofE hL;refine (lawFeAll W _ _ len0 len1 hm0 hm1 hd0 hd1 tE tN tS tT).mono fun r W' ⟨he,hb⟩=>?_
 subst he;have harg0:=Below.trod laidOutF (by kernel_rfl) (of_decide_eq_true (by kernel_rfl)) h0 hb hlt0;have harg1:=Below.trod laidOutF (by kernel_rfl) (of_decide_eq_true (by kernel_rfl)) h1 hb hlt1;exact ⟨_,rfl,_,_,_,[],_,q,hW',trodAll_mk1 (shut_bool underlying4 _),trodAll_mk2 harg0 harg1,hb.trodVars laidOutF (by kernel_rfl) hV,hb.frame _,fun h=>by cases h⟩
theorem fnEnd_row:Rows.FnEndSaid :=
 OpenClaim.holds_of_wide 3 Tryz.f3 rfl rfl rfl rfl rfl rfl rfl ⟨rfl,rfl,rfl,rfl,rfl⟩ rfl rfl rfl rfl rfl (by kernel_rfl) func3 (by kernel_rfl)
  (of_decide_eq_true (by kernel_rfl)) (by unfold Func.isWrapper;first | (rw [if_pos (by decide +kernel)];kernel_rfl) | (rw [if_neg (by decide +kernel)];exact ⟨rfl,rfl⟩))
  (fun os started H enc _=>liftedFe os started H enc)
theorem fnEnd_holds:Rows.FnEndCardSaid :=
 Claim7.holds_tied_plain_at .later [] [.handle,.listed,.data,.data,.data] true Rows.fnEndCard.stood.harness true fnEnd_row (fun _ h=>by cases h) (by kernel_rfl) (fun _ h=>by cases h) fnEnd_row_tie rfl ⟨rfl,rfl⟩ (by kernel_rfl) rfl
  (fun f fn hf hfn=>by
   obtain rfl:f=3:=Option.some.inj ((show prog.funcNamed Rows.fnEndRow.func=some 3 by kernel_rfl).symm.trans hf) |>.symm;obtain rfl:fn=Tryz.f3:=(Option.some.inj (func3.symm.trans hfn)).symm;exact ⟨by kernel_rfl,fun j t ht=>by
    rw [Tryz.params3] at ht;have hm:t ∈ [22,22]:=by simpa using Array.mem_of_getElem? ht
    have hall:([22,22].all fun u=>!prog.wantsStandIn u)=true:=by kernel_rfl
    exact (show prog.wantsStandIn t=false by simpa using List.all_eq_true.1 hall t hm)⟩)
  (by kernel_rfl)
#print axioms fnEnd_holds
end Go.Proofs.YtahpjlbaagkdoaaGreatDoor
