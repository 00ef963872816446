/- EvN LaidEv Acts FsmI EndMk WkUp OptAp2 OptsOf CfM ReadPkt -/
import Derived.Test.YtjebigodbnefiaaGreatDoorS06
import Derived.Test.YtjebigodbnefiaaGreatDoorRows
import Derived.Lay
import Derived.MakeChecks
import Derived.OpenVars
import Derived.Test.YtjebigodbnefiaaGreatDoorFld
import Derived.Test.YtjebigodbnefiaaGreatDoorS05
import Derived.Test.YtjebigodbnefiaaGreatDoorS03
set_option maxHeartbeats 8000000
set_option maxRecDepth 100000
namespace Go.Proofs.YtjebigodbnefiaaGreatDoor
open Go.RowKit Go.Proofs.Tryz
def EvT (w:World):Prop:=∀ (i:Nat) (t:ByteArray),bq[i]?=some t→w.cell? ⟨5,i,none⟩=some (.string t)
theorem EvT.below {w w':World} (h:EvT w) (hb:Below w.heap.size w w'):EvT w':=fun i t ht=>(hb.cell (p:=⟨5,i,none⟩) (World.block_lt_of_cell? _ _ (h i t ht))).trans (h i t ht)
theorem kR:bq.length=16:=rfl
theorem oZ (t:ByteArray) (w:World) (hT:EvT w):Calls prog 131 #[.string t] w fun e w'=>w'=w∧((∃ i:Nat,bq[i]?=some t∧e=.returned (.tuple #[.int .i64 i,.bool true]))∨((∀ i:Nat,bq[i]?≠some t)∧e=.returned (.tuple #[.int .i64 0,.bool false]))):=by
 have hl:=kR;have HT:Hid (∀ (i:Nat) (h:i<bq.length),w.cell? ⟨5,i,none⟩=some (.string bq[i])):=aa fun i h=>hT i _ (List.getElem?_eq_getElem h)
 clear hT;generalize bq=L at *;go_enter func131,ntmps131
 go_wp2_with fail
 go_loop [4,5] (fun x y=>∃ (i:Nat),i≤16∧y=.int .i64 i∧∀ j:Nat,j<i→L[j]?≠some t) (fun x y=>16 - (intOf y).toNat)
 case atStart=>exact ⟨0,Nat.zero_le _,rfl,fun j h=>absurd h (Nat.not_lt_zero _)⟩
 case round =>
  obtain ⟨i,hi,rfl,hf⟩:=hrel;have HF:=aa hf;clear hf;by_cases hlt:i<16
  ·have d1:(i:Int)<16:=by omega
   have d0:(0:Int)≤(i:Int):=by omega
   have k1:=uh HT i (by omega);obtain ⟨x,hx⟩:∃ x,L[i]'(by omega)=x:=⟨_,rfl⟩;rw [hx] at k1;have HX:Hid (L[i]?=some x):=aa (by rw [List.getElem?_eq_getElem (by omega),hx]);clear hx HT;cases hq:(x.toList == t.toList)
   ·go_wp2_with fail
    go_round
    case rel =>
     refine ⟨i+1,by omega,by go_num,fun j hj e=>?_⟩;by_cases hji:j<i
     ·exact uh HF j hji e
     ·have:j=i:=by omega
      subst this;rw [uh HX] at e;rw [Option.some.inj e,beq_self_eq_true] at hq;cases hq
    case measure=>simp [intOf];omega
   ·have hxt:x=t:=by
     have:=eq_of_beq hq
     rw [ByteArray.toList_eq,ByteArray.toList_eq] at this;exact ByteArray.ext (Array.toList_inj.1 this)
    go_wp2
    exact bodyPost_ret (v:=.tuple #[.int .i64 i,.bool true]) (by simp [results,results131,go_sem]) rfl ⟨rfl,Or.inl ⟨i,by rw [uh HX,hxt],rfl⟩⟩
  ·have e:i=16:=by omega
   subst e;clear HT;go_wp2
   refine bodyPost_ret (v:=.tuple #[.int .i64 0,.bool false]) (by simp [results,results131,go_sem]) rfl ⟨rfl,Or.inr ⟨fun j hj=>?_,rfl⟩⟩;by_cases hj16:j<16
   ·exact uh HF j hj16 hj
   ·rw [List.getElem?_eq_none (by omega)] at hj;cases hj
end Go.Proofs.YtjebigodbnefiaaGreatDoor
namespace Go.Proofs.YtjebigodbnefiaaGreatDoor
open Go.Proofs.Tryz
open Go.ChangeShapes Go.WideShapes Go.ChangeAt Go.RowKit
theorem own:ownKnob prog.godebug=none:=by kernel_rfl
theorem evG : prog.globalNamed "loop.example/g00351/impl.eventNames" = some 5 := by kernel_rfl
theorem ua:(prog.globals[5]?).map (·.type)=some 205:=by kernel_rfl
theorem sw:prog.cellsOf 9=1:=by kernel_rfl
theorem tQ:(Rows.laid_loop_example_g00351_impl_eventNames:DataW Unit)=.agg (iL.map fun x=>.lit (.string x.1)):=by kernel_rfl
theorem tR {W : World} (h : Lib.VarReads prog W "loop.example/g00351/impl.eventNames" Rows.laid_loop_example_g00351_impl_eventNames) : EvT W := by
 rw [tQ] at h;obtain ⟨g,t,cs,fuel,p,hg,hty,hvar,hd⟩:=h;obtain rfl:=Option.some.inj (evG.symm.trans hg);obtain rfl:=Option.some.inj (ua.symm.trans hty);intro i x hx;have hi:i<16:=(List.getElem?_eq_some_iff.1 hx).1;obtain ⟨fuel',d,q,hdi,he⟩:=Lib.array_elem underlying205 hd i hi;unfold bq at hx;rw [List.getElem?_map] at hx hdi;obtain ⟨r,hr,rfl⟩:=Option.map_eq_some_iff.1 hx;rw [hr] at hdi;obtain rfl:=Option.some.inj hdi;rw [sw,Nat.mul_one] at he;obtain ⟨s,hc,hz,hw⟩:=DataW.trod_string underlying9 he;rw [World.var?_cell hg hvar i,← Array.getElem?_toList];have e0:cs.toList[i]?=some (.string s):=by
  have:=congrArg (·[0]?) hc
  simpa [List.getElem?_take,List.getElem?_drop] using this
 rw [e0];simp at hz;rw [hz.1];rfl
end Go.Proofs.YtjebigodbnefiaaGreatDoor
namespace Go.Proofs.YtjebigodbnefiaaGreatDoor
open Go.RowKit Go.Proofs.Tryz
def j9:List (List (List UInt8)):=[[[],[105,114,99,32,115,99,114],[],[],[],[],[],[],[],[]],
 [[],[],[],[116,108,115],[],[],[],[],[],[116,108,100]],
 [[116,108,115],[],[105,114,99,32,115,99,114],[],[],[],[],[],[],[]],
 [[],[116,108,102],[],[],[],[],[105,114,99,32,115,116,114],[105,114,99,32,115,116,114],[105,114,99,32,115,116,114],[116,108,100,32,105,114,99,32,115,116,114]],
 [[],[],[],[],[115,116,114],[115,116,114],[115,99,114],[115,99,114],[115,99,114],[]],
 [[],[],[],[],[116,108,102],[116,108,102],[116,108,102],[116,108,102],[116,108,102],[]],
 [[],[],[115,116,97],[105,114,99,32,115,99,114,32,115,99,97],[],[],[115,99,97],[115,99,97,32,116,108,117],[115,99,97],[116,108,100,32,115,99,114,32,115,99,97]],
 [[],[],[115,116,97],[105,114,99,32,115,99,114,32,115,99,110],[],[],[115,99,110],[115,99,110],[115,99,110],[116,108,100,32,115,99,114,32,115,99,110]],
 [[],[],[115,116,97],[115,116,97],[],[],[105,114,99],[115,99,114],[105,114,99,32,116,108,117],[116,108,100,32,115,99,114]],
 [[],[],[115,116,97],[115,116,97],[],[],[105,114,99,32,115,99,114],[115,99,114],[105,114,99,32,115,99,114],[116,108,100,32,115,99,114]],
 [[],[],[115,116,97],[115,116,97],[115,116,97],[115,116,97],[115,116,97],[115,116,97],[115,116,97],[116,108,100,32,122,114,99,32,115,116,97]],
 [[],[],[],[],[116,108,102],[116,108,102],[],[],[],[116,108,100,32,115,99,114]],
 [[],[],[115,99,106],[115,99,106],[115,99,106],[115,99,106],[115,99,106],[115,99,106],[115,99,106],[115,99,106]],
 [[],[],[],[],[],[],[],[],[],[]],
 [[],[],[116,108,102],[116,108,102],[116,108,102],[116,108,102],[116,108,102],[116,108,102],[116,108,102],[116,108,100,32,105,114,99,32,115,116,114]],
 [[],[],[],[],[],[],[],[],[],[115,101,114]]]
def iy:List (List Int):=[[2,6,-1,-1,-1,-1,-1,-1,-1,-1],
 [-1,-1,0,1,0,1,1,1,1,1],
 [1,1,6,3,5,5,6,7,8,9],
 [0,0,2,2,4,4,4,4,4,4],
 [-1,-1,-1,-1,4,5,6,6,8,-1],
 [-1,-1,-1,-1,2,3,3,3,3,-1],
 [-1,-1,2,8,4,5,8,9,8,8],
 [-1,-1,2,6,4,5,6,7,6,6],
 [-1,-1,2,3,4,5,7,6,9,6],
 [-1,-1,2,3,4,5,6,6,8,6],
 [-1,-1,2,3,4,5,6,6,6,5],
 [-1,-1,2,3,2,3,6,6,8,6],
 [-1,-1,2,3,4,5,6,7,8,9],
 [-1,-1,2,3,4,5,6,6,8,9],
 [-1,-1,2,3,2,3,3,3,3,5],
 [-1,-1,2,3,4,5,6,7,8,9]]
def cX (i:Nat):Array Value:=((j9.getD i []).map fun l=>Value.string ⟨l.toArray⟩).toArray
def iM:Array Value:=(j9.flatten.map fun l=>Value.string ⟨l.toArray⟩).toArray
def ex (i s:Nat):ByteArray:=⟨((j9.getD i []).getD s []).toArray⟩
theorem ub:((List.range 16).all fun i=>(List.range 10).all fun s=>match iM[i*10+s]? with | some (.string t)=>decide (t=ex i s) | _=>false)=true:=by kernel_rfl
theorem rJ {i s:Nat} (hi:i<16) (hs:s<10):iM[i*10+s]?=some (.string (ex i s)):=by
 have h:=List.all_eq_true.1 (List.all_eq_true.1 ub i (List.mem_range.2 hi)) s (List.mem_range.2 hs);split at h
 ·next t e=>rw [e,of_decide_eq_true h]
 ·cases h
attribute [local irreducible] cX iM
theorem o8 (i s:Nat) (hi:i<16) (hs:s<10) (w:World):Calls prog 177 #[.int .i64 i,.int .i64 s] w fun e w'=>e=.returned (.string (ex i s))∧w'=w.alloc (.cells iM 270):=by
 have hc:(w.alloc (.cells iM 270)).cell? ⟨w.heap.size,i*10+s,none⟩=some (.string (ex i s)):=by
  rw [cr (zF w _)];exact rJ hi hs
 have d1:(i:Int)<16:=by omega
 have d2:(s:Int)<10:=by omega
 go_enter func177,ntmps177
 go_upto_region 1 with fail
 apply wp_region_lit
 refine wpList_buildTo rfl 269 _ rfl (some 6) rfl (cX 0) (by as_aux_lemma=>kernel_rfl) ?_;refine wpList_buildTo rfl 269 _ rfl (some 7) rfl (cX 1) (by as_aux_lemma=>kernel_rfl) ?_;refine wpList_buildTo rfl 269 _ rfl (some 8) rfl (cX 2) (by as_aux_lemma=>kernel_rfl) ?_;refine wpList_buildTo rfl 269 _ rfl (some 9) rfl (cX 3) (by as_aux_lemma=>kernel_rfl) ?_;refine wpList_buildTo rfl 269 _ rfl (some 10) rfl (cX 4) (by as_aux_lemma=>kernel_rfl) ?_;refine wpList_buildTo rfl 269 _ rfl (some 11) rfl (cX 5) (by as_aux_lemma=>kernel_rfl) ?_;refine wpList_buildTo rfl 269 _ rfl (some 12) rfl (cX 6) (by as_aux_lemma=>kernel_rfl) ?_;refine wpList_buildTo rfl 269 _ rfl (some 13) rfl (cX 7) (by as_aux_lemma=>kernel_rfl) ?_;refine wpList_buildTo rfl 269 _ rfl (some 14) rfl (cX 8) (by as_aux_lemma=>kernel_rfl) ?_;refine wpList_buildTo rfl 269 _ rfl (some 15) rfl (cX 9) (by as_aux_lemma=>kernel_rfl) ?_;refine wpList_buildTo rfl 269 _ rfl (some 16) rfl (cX 10) (by as_aux_lemma=>kernel_rfl) ?_;refine wpList_buildTo rfl 269 _ rfl (some 17) rfl (cX 11) (by as_aux_lemma=>kernel_rfl) ?_;refine wpList_buildTo rfl 269 _ rfl (some 18) rfl (cX 12) (by as_aux_lemma=>kernel_rfl) ?_;refine wpList_buildTo rfl 269 _ rfl (some 19) rfl (cX 14) (by as_aux_lemma=>kernel_rfl) ?_;refine wpList_buildTo rfl 269 _ rfl (some 20) rfl (cX 15) (by as_aux_lemma=>kernel_rfl) ?_;refine wpList_buildTo rfl 270 _ rfl (some 21) rfl iM (by as_aux_lemma=>kernel_rfl) ?_;refine Great.wpList_allocTo rfl (some 5) rfl (.pointer (some ⟨w.heap.size,0,none⟩)) (.cells (Array.replicate 160 (.string ⟨#[]⟩)) 270) (by as_aux_lemma=>kernel_rfl) ?_;refine wpList_store_rowTo rfl 270 _ _ rfl rfl w.heap.size iM (by as_aux_lemma=>kernel_rfl) (by as_aux_lemma=>kernel_rfl) 270 _ (zF w _) (by as_aux_lemma=>kernel_rfl) (by as_aux_lemma=>kernel_rfl) (by as_aux_lemma=>kernel_rfl) ?_;rw [World.setRow_alloc_new];refine wpList_frame (a':=⟨#[.int .i64 i,.int .i64 s,undef,undef,.string ⟨#[]⟩,.pointer (some ⟨w.heap.size,0,none⟩),.agg (cX 0),.agg (cX 1),.agg (cX 2),.agg (cX 3),.agg (cX 4),.agg (cX 5),.agg (cX 6),.agg (cX 7),.agg (cX 8),.agg (cX 9),.agg (cX 10),.agg (cX 11),.agg (cX 12),.agg (cX 14),.agg (cX 15),.agg iM,undef,undef,undef,undef,undef],[]⟩) (by as_aux_lemma=>kernel_rfl) ?_;apply wpList_nil
 go_wp2
 go_ret
 exact ⟨rfl,rfl⟩
end Go.Proofs.YtjebigodbnefiaaGreatDoor
namespace Go.Proofs.YtjebigodbnefiaaGreatDoor
open Go.RowKit Go.Proofs.Tryz
def iN (i s:Nat):Int:=(iy.getD i []).getD s 0
def NxT (w:World):Prop:=∀ i s:Nat,i<16→s<10→w.cell? ⟨9,i*10+s,none⟩=some (.int .i64 (iN i s))
theorem NxT.below {w w':World} (h:NxT w) (hb:Below w.heap.size w w'):NxT w':=fun i s hi hs=>(hb.cell (p:=⟨9,i*10+s,none⟩) (World.block_lt_of_cell? _ _ (h i s hi hs))).trans (h i s hi hs)
def SpT (w:World):Prop:=∀ c:Nat,c<256→w.cell? ⟨10,c,none⟩=some (.int .u8 (if Lib.isSp (UInt8.ofNat c) then 1 else 0))
theorem SpT.below {w w':World} (h:SpT w) (hb:Below w.heap.size w w'):SpT w':=fun c hc=>(hb.cell (p:=⟨10,c,none⟩) (World.block_lt_of_cell? _ _ (h c hc))).trans (h c hc)
def cU (t:ByteArray):List ByteArray:=(Lib.fields t.data.toList).map fun l=>⟨l.toArray⟩
theorem mt (s:ByteArray) (w:World) (hs:s.size≤30) (ha:(s.data.toList.all fun b=>decide (b.toNat<128))=true) (hT:SpT w) :
  Calls prog 176 #[.string s] w fun e w'=>e=.returned (.slice (some ⟨w.heap.size,0,none⟩) (cU s).length (cU s).length)∧w'=w.alloc (.cells (a_ (cU s)).toArray 9):=by
 refine (Any.strings_Fields_core Tryz.laysFld (by kernel_rfl) s w (by omega) (fun j b hj=>of_decide_eq_true (List.all_eq_true.1 ha b (List.mem_of_getElem? hj))) hT).mono ?_;rintro e w' ⟨rfl,rfl⟩;refine ⟨by simp [cU],?_⟩;simp only [cU,a_,List.map_map];rfl
def tU (t:ByteArray):ByteArray:=co (((iL.find? fun x=>x.1 == t.data.toList).map fun x=>x.2).getD [])
def oq (s:Nat) (t:ByteArray):ByteArray:=((bR (tU t) 44)[s]?).getD ⟨#[]⟩
def tV (s:Int) (t:ByteArray):Int × List ByteArray × Int :=
 if 8000<t.size then (0,[],2) else if ¬ (0≤s∧s≤9) then (0,[],5) else if tU t=⟨#[]⟩ then (0,[],6) else if (oq s.toNat t).data.toList=[45] then (s,[],8)
 else (((oq s.toNat t).data.toList.getLastD 0).toNat - 48,if 2<(oq s.toNat t).size then bR ((oq s.toNat t).extract 0 ((oq s.toNat t).size - 2)) 32 else [],0)
theorem rK (s:Int) (t:ByteArray):bO s t=tV s t:=by
 unfold bO tV ip oq aW tU;simp only [ByteArray.toList_eq]
theorem places:((List.range 16).all fun i=>(List.range 10).all fun k=>decide (tV (k:Int) (bq.getD i ⟨#[]⟩)=if iN i k=-1 then ((k:Int),[],8) else (iN i k,cU (ex i k),0)) && decide ((ex i k).size≤30∧(cU (ex i k)).length≤30) && ((ex i k).data.toList.all fun b=>decide (b.toNat<128)))=true:=by kernel_rfl
theorem iO {i k:Nat} {t:ByteArray} (ht:bq[i]?=some t) (hk:k<10):(bO (k:Int) t=if iN i k=-1 then ((k:Int),[],8) else (iN i k,cU (ex i k),0))∧((ex i k).size≤30∧(cU (ex i k)).length≤30)∧((ex i k).data.toList.all fun b=>decide (b.toNat<128))=true:=by
 have hi:i<16:=(List.getElem?_eq_some_iff.1 ht).1;have h:=List.all_eq_true.1 (List.all_eq_true.1 places i (List.mem_range.2 hi)) k (List.mem_range.2 hk);rw [Bool.and_eq_true,Bool.and_eq_true] at h;have e:bq.getD i ⟨#[]⟩=t:=by rw [List.getD_eq_getElem?_getD,ht];rfl
 rw [e] at h;rw [rK];exact ⟨of_decide_eq_true h.1.1,of_decide_eq_true h.1.2,h.2⟩
theorem px {t:ByteArray} (h:∀ i:Nat,bq[i]?≠some t):aW t=⟨#[]⟩:=by
 unfold aW;rw [List.find?_eq_none.2 fun x hx e=>?_]
 ·rfl
 ·have ht:t=co x.1:=cF (eq_of_beq e).symm;obtain ⟨i,hi⟩:=List.getElem?_of_mem (List.mem_map.2 ⟨x,hx,ht.symm⟩:t ∈ bq);exact h i hi
theorem xK (s:Int) (t:ByteArray) (w:World) (ht:t.size≤maxLen) (hE:EvT w) (hN:NxT w) (hS:SpT w):Calls prog 155 #[.int .i64 s,.string t] w fun e w'=>vD (bO s t) w w' e:=by
 unfold maxLen at ht;have hr0:(w.alloc (.cells #[.int .i64 0,.slice none 0 0,.int .i64 0] 209)).heap[w.heap.size]?=some (.cells #[.int .i64 0,.slice none 0 0,.int .i64 0] 209):=heap_alloc_last w _;have hb0:Below w.heap.size w (w.alloc (.cells #[.int .i64 0,.slice none 0 0,.int .i64 0] 209)):=(zC _ _).alloc (zD _) _;have H0:=aa (zA hr0 hb0);by_cases h1:8000<t.size
 ·have d1:(8000:Int)<(t.size:Int):=by omega
  rw [show bO s t=(0,[],2) from if_pos h1];clear hr0 hb0;go_enter func155,ntmps155
  go_wp2
  refine bodyPost_ret (v:=.agg #[.int .i64 0,.slice none 0 0,.int .i64 2]) (by simp [results,results155,go_sem]) rfl ⟨none,0,rfl,⟨rfl,Or.inl ⟨rfl,rfl⟩⟩,?_⟩;exact (zC _ _).alloc (zD _) _
 have d1:¬ ((8000:Int)<(t.size:Int)):=by omega
 by_cases h2:¬ (0≤s∧s≤9)
 ·rw [show bO s t=(0,[],5) by unfold bO;rw [if_neg h1,if_pos h2]];clear hr0 hb0;by_cases h3:s<0
  ·go_enter func155,ntmps155
   go_wp2
   refine bodyPost_ret (v:=.agg #[.int .i64 0,.slice none 0 0,.int .i64 5]) (by simp [results,results155,go_sem]) rfl ⟨none,0,rfl,⟨rfl,Or.inl ⟨rfl,rfl⟩⟩,?_⟩;exact (zC _ _).alloc (zD _) _
  ·have d2:(10:Int)≤s:=by omega
   go_enter func155,ntmps155
   go_wp2
   refine bodyPost_ret (v:=.agg #[.int .i64 0,.slice none 0 0,.int .i64 5]) (by simp [results,results155,go_sem]) rfl ⟨none,0,rfl,⟨rfl,Or.inl ⟨rfl,rfl⟩⟩,?_⟩;exact (zC _ _).alloc (zD _) _
 have h2':0≤s∧s≤9:=Classical.not_not.1 h2;have h1':=aa h1;have HN3:Hid (aW t=⟨#[]⟩→bO s t=(0,[],6)):=aa fun h3=>by unfold bO;rw [if_neg h1,if_neg h2,if_pos h3]
 obtain ⟨k,rfl⟩:∃ k:Nat,s=(k:Int):=⟨s.toNat,by omega⟩;have hk:k<10:=by omega
 have d2:¬ ((k:Int)<0):=by omega
 have d3:¬ ((10:Int)≤(k:Int)):=by omega
 have d4:(k:Int)<10:=by omega
 have C1:=aa (oZ t _ (hE.below hb0));have HNX:=aa (hN.below hb0);have HSP:=aa (hS.below hb0);clear hE hN hS h1 h2 h2' hr0 hb0 h1';obtain ⟨R,hR⟩:∃ R,bO (k:Int) t=R:=⟨_,rfl⟩;rw [hR] at HN3;rw [hR];have HR:=aa hR;clear hR;go_enter func155,ntmps155
 go_wp2_with fail
 refine (uh C1).mono ?_;rintro e w1 ⟨hw,⟨i,hi,rfl⟩ | ⟨hn,rfl⟩⟩
 ·subst hw;have hi16:i<16:=(List.getElem?_eq_some_iff.1 hi).1;obtain ⟨hF,⟨hz,hzl⟩,hascii⟩:=iO hi hk;have c1:=uh HNX i k hi16 hk;have d5:(i:Int)<16:=by omega
  rw [uh HR] at hF;clear HR;have CA:=aa fun v=>o8 i k hi16 hk v
  have CF:=aa fun v=>mt (ex i k) v hz hascii
  clear hi hz hascii HN3 HNX C1;generalize cU (ex i k)=F at *;generalize ex i k=ta at *;generalize iN i k=nx at *;go_upto_region 9 with fail
  by_cases hx:nx=-1
  ·subst hx;rw [if_pos rfl] at hF;subst hF;clear CA CF HSP;go_wp2
   exact bodyPost_ret (v:=.agg #[.int .i64 k,.slice none 0 0,.int .i64 8]) (by simp [results,results155,go_sem]) rfl ⟨none,0,rfl,⟨rfl,Or.inl ⟨rfl,rfl⟩⟩,(zC _ _).alloc (zD _) _⟩
  ·rw [if_neg hx] at hF;subst hF;have d6:(nx == -1)=false:=by simpa using hx
   have HSP2:Hid (SpT ((w.alloc (.cells #[.int .i64 0,.slice none 0 0,.int .i64 0] 209)).alloc (.cells iM 270))):=aa ((uh HSP).below ((zC _ _).alloc (zD _) _));clear HSP c1
   go_wp2_with (first
    | (go_at_call 177;refine (uh CA _).mono ?_;rintro e w2 ⟨rfl,hw⟩;subst hw)
    | fail)
   refine (uh CF _ (uh HSP2)).mono ?_;rintro e w3 ⟨rfl,hw⟩;have hs1:(w.alloc (.cells #[.int .i64 0,.slice none 0 0,.int .i64 0] 209)).heap.size=w.heap.size+1:=by simp
   have hs2:((w.alloc (.cells #[.int .i64 0,.slice none 0 0,.int .i64 0] 209)).alloc (.cells iM 270)).heap.size=w.heap.size+1+1:=by rw [World.size_alloc,hs1]
   have hr3:w3.heap[w.heap.size]?=some (.cells #[.int .i64 0,.slice none 0 0,.int .i64 0] 209):=by
    rw [hw,zG _ _ _ (by omega),zG _ _ _ (by omega)];exact (uh H0).1
   have hB3:Below w.heap.size w w3:=by
    rw [hw];exact ((uh H0).2.alloc (by omega) _).alloc (by omega) _
   have ho3:w3.ownsRow (w.heap.size+1+1) 9 1 (.slice (some ⟨w.heap.size+1+1,0,none⟩) F.length F.length) F.length (a_ F):=by
    have h:=World.ownsRow_lit (base:=w.heap.size+1+1) ((w.alloc (.cells #[.int .i64 0,.slice none 0 0,.int .i64 0] 209)).alloc (.cells iM 270)) (e:=9) (size:=1) (a_ F).toArray F.length (by omega) (by unfold maxLen;omega) (by simp [mq]);rw [hs2,← hw] at h;exact h
   rw [hs2];have H3:=aa (zA hr3 (zA hB3 ho3));obtain ⟨r0,r1,r2,f0,f1,f2⟩:=ik hr3;clear hr3 hB3 ho3 hw hs1 hs2 HSP2 CF CA H0;go_wp2
   refine bodyPost_ret (v:=.agg #[.int .i64 nx,.slice (some ⟨w.heap.size+1+1,0,none⟩) F.length F.length,.int .i64 0]) (by simp [results,results155,asAddr,nk (iw (uh H3).1 (.int .i64 nx) (.slice (some ⟨w.heap.size+1+1,0,none⟩) F.length F.length) (.int .i64 0))]) rfl ⟨_,_,rfl,?_,eW (uh H3).2.1 (zD _) _ _ _⟩;have:=aY (w':=((w3.setCell ⟨w.heap.size,0,none⟩ (.int .i64 nx)).setCell ⟨w.heap.size,1,none⟩ (.slice (some ⟨w.heap.size+1+1,0,none⟩) F.length F.length)).setCell ⟨w.heap.size,2,none⟩ (.int .i64 0)) (uh H3).2.2 fun g hg _=>by
    rw [Below.heap_setCell _ _ _ _ (by simp;omega),Below.heap_setCell _ _ _ _ (by simp;omega),Below.heap_setCell _ _ _ _ (by simp;omega)]
   exact ⟨this.1,this.2.imp id fun ⟨g,cap,cur,h1,h2,h3⟩=>⟨g,cap,cur,h1,by omega,h3⟩⟩
 ·subst hw;have hF:=uh HN3 (px hn);subst hF;clear HN3 hn HNX HSP HR;go_wp2
  refine bodyPost_ret (v:=.agg #[.int .i64 0,.slice none 0 0,.int .i64 6]) (by simp [results,results155,go_sem]) rfl ⟨none,0,rfl,⟨rfl,Or.inl ⟨rfl,rfl⟩⟩,?_⟩;exact (zC _ _).alloc (zD _) _
end Go.Proofs.YtjebigodbnefiaaGreatDoor
namespace Go.Proofs.YtjebigodbnefiaaGreatDoor
open Go.RowKit Go.Proofs.Tryz
def nb (n:Nat) (v:Value):Option Nat:=if n=0 then none else v.ownBlock
theorem r6 (v:Value):nb 0 v=none:=if_pos rfl
theorem dC {n:Nat} (h:n≠0) (v:Value):nb n v=v.ownBlock:=if_neg h
end Go.Proofs.YtjebigodbnefiaaGreatDoor
namespace Go.Proofs.YtjebigodbnefiaaGreatDoor
open Go.RowKit Go.Proofs.Tryz
theorem HoldsO.nr {w q:World} {v:Value} {F:List Op.Opt} {B:Nat} (h:HoldsO w v F) (hn:Nr B w q) (hne:nb F.length v≠some B):HoldsO q v F:=by
 rcases h with ⟨ad,cp,e,e0⟩ | ⟨g,cp,cur,e,q1,q2⟩
 ·exact Or.inl ⟨ad,cp,e,e0⟩
 ·by_cases hz:F.length=0
  ·have:F=[]:=List.eq_nil_of_length_eq_zero hz
   subst this;exact Or.inl ⟨_,_,e,rfl⟩
  ·have hg:nb F.length v=some g:=by rw [dC hz,e];rfl
   exact Or.inr ⟨g,cp,cur,e,(hn.block g (ge.1 q1).1 (fun e=>hne (by rw [hg,e]))).trans q1,q2⟩
def yK (L1 L2:Ln) (cs:List Value):List Value:=(((((((((((((((((((((cs.set 19 (.bool true)).set 20 (.int .i64 0)).set 21 (.int .i64 0)).set 22 (.bool false)).set 23 (.bool false)).set 24 (.bool false)).set 25 (.int .i64 0)).set 26 (.int .i64 0)).set 27 (.bool false)).set 28 (.bool false)).set 29 (.bool false)).set 20 (.int .i64 L1.m)).set 21 (.int .i64 L1.a)).set 22 (.bool L1.p)).set 23 (.bool L1.c)).set 24 (.bool L1.d)).set 25 (.int .i64 L2.m)).set 26 (.int .i64 L2.a)).set 27 (.bool L2.p)).set 28 (.bool L2.c)).set 29 (.bool L2.d))
end Go.Proofs.YtjebigodbnefiaaGreatDoor
namespace Go.Proofs.YtjebigodbnefiaaGreatDoor
open Go.RowKit Go.Proofs.Tryz
theorem ew {w w':World} {base:Nat} {e:TypeId} {size:Nat} {v:Value} {n:Nat} {xs:List Value} (h:w.ownsRow base e size v n xs) (hb:∀ g,v.ownBlock=some g→w'.heap[g]?=w.heap[g]?):w'.ownsRow base e size v n xs :=
 ⟨h.1,h.2.imp id fun ⟨g,cap,cur,h1,h2,h3,h4⟩=>⟨g,cap,cur,h1,h2,(hb g (by rw [h1];rfl)).trans h3,h4⟩⟩
end Go.Proofs.YtjebigodbnefiaaGreatDoor
namespace Go.Proofs.YtjebigodbnefiaaGreatDoor
open Go.RowKit Go.Proofs.Tryz
def xr:Value→Nat
  | .slice _ n _=>n
  | _=>0
theorem yT {n:UInt8} {r:List UInt8} (h:n.toNat<2∨22<n.toNat∨r.length+2<n.toNat):oL 2 20 n.toNat r=true:=decide_eq_true (by omega)
theorem xu {n:UInt8} {r:List UInt8} (h:¬ (n.toNat<2∨22<n.toNat∨r.length+2<n.toNat)):oL 2 20 n.toNat r=false:=decide_eq_false (by omega)
theorem qv (out:List Op.Opt) {k n:UInt8} {r:List UInt8} (h:n.toNat<2∨22<n.toNat∨r.length+2<n.toNat):Op.acc out (k :: n :: r)=none:=by
  rcases h with h | h | h
  · exact Op.acc_bad out (Or.inl h)
  · exact Op.acc_long out h
  · exact Op.acc_bad out (Or.inr h)
theorem mj (w:World):Calls prog 219 #[] w fun e w'=>e=.returned (.agg #[.slice (some ⟨w.heap.size+1,0,none⟩) 3 3,.int .i64 2,.int .i64 20,.int .i64 3]) ∧
    w'.heap[w.heap.size+1]?=some (.cells #[.int .i64 0,.int .i64 1,.int .i64 3] 273)∧Below w.heap.size w w':=by
  go_enter func219,ntmps219
  go_wp2
  refine bodyPost_ret (v:=.agg #[.slice (some ⟨w.heap.size+1,0,none⟩) 3 3,.int .i64 2,.int .i64 20,.int .i64 3]) (by simp [results,results219,go_sem]) rfl ⟨rfl,?_,((zC _ _).alloc (zD _) _).alloc (by simp) _⟩;have h:=zF (w.alloc (.cells #[.slice (some ⟨w.heap.size+1,0,none⟩) 3 3,.int .i64 2,.int .i64 20,.int .i64 3] 250)) (.cells #[.int .i64 0,.int .i64 1,.int .i64 3] 273);rw [show (w.alloc (.cells #[.slice (some ⟨w.heap.size+1,0,none⟩) 3 3,.int .i64 2,.int .i64 20,.int .i64 3] 250)).heap.size=w.heap.size+1 by simp] at h;exact h
theorem qw {w:World} {base:Nat} {sa:Option Addr} {n sc:Nat} {xs:List Value} (h:w.ownsRow base 2 1 (.slice sa n sc) n xs) (hn:0<n):∃ g,sa=some ⟨g,0,none⟩∧base≤g∧g<w.heap.size∧∀ i x,xs[i]?=some x→w.cell? ⟨g,i,none⟩=some x:=by
  rcases h.2 with ⟨_,h0⟩ | ⟨g,cap,cur,h1,h2,h3,h4,h5,h6,h7⟩
  · omega
  · simp only [Value.slice.injEq,true_and] at h1
    obtain ⟨rfl,rfl⟩:=h1;refine ⟨g,rfl,h2,(ge.1 h3).1,fun i x hx=>?_⟩;rw [cr h3,← hx,← h7,List.getElem?_take,if_pos,Array.getElem?_toList];have:=(List.getElem?_eq_some_iff.1 hx).1
    have hl:=h.1;omega
def sO (w w':World) (res:Option (List Op.Opt)) (e:Ending):Prop :=
  (res=none∧e=.returned (.tuple #[.slice none 0 0,cS 3])∧Below w.heap.size w w') ∨
    (∃ L ad cp,res=some L∧e=.returned (.tuple #[.slice ad L.length cp,.nilIface])∧w'.ownsRow w.heap.size 27 2 (.slice ad L.length cp) L.length (aj L)∧Below w.heap.size w w')
theorem oN (w:World) (B:Nat) (v:Value) (l:List UInt8) (hl8:l.length≤8000) (hB:B<w.heap.size) (hv:Rest w B v l) :
    Calls prog 210 #[v] w fun e w'=>sO w w' (Op.acc [] l) e:=by
  obtain ⟨i0,hi0,hz0,hz1,hz2⟩:=kW;obtain ⟨RES,hRES⟩:∃ R,Op.acc [] l=R:=⟨_,rfl⟩;rw [hRES];have HV:=aa hv;obtain ⟨off0,cap0,hvf,_⟩:=hv;subst hvf;go_enter func210,ntmps210
  go_wp2_with fail
  go_loopw [0,4] (fun x y wr=>∃ (l':List UInt8) (out:List Op.Opt),(∃ o c,x=.slice (some ⟨B,o,none⟩) l'.length c)∧Rest wr B x l'∧l'.length≤8000∧(∃ a c,y=.slice a out.length c)∧wr.ownsRow w.heap.size 27 2 y out.length (aj out)∧Op.right out=true∧Op.acc out l'=RES∧Below w.heap.size w wr) (fun x _ _=>xr x)
  case atStart=>exact ⟨l,[],⟨_,_,rfl⟩,uh HV,hl8,⟨_,_,rfl⟩,⟨rfl,Or.inl ⟨rfl,rfl⟩⟩,rfl,hRES,zC _ _⟩
  case round =>
    obtain ⟨l',out,⟨off,cap,rfl⟩,hv,hl8',⟨ya,yc,rfl⟩,hown,hrt,hacc,hb⟩:=hrel;have hbs:=hb.size;have hout:=Op.right_len hrt;have HOW:=aa hown;have HVV:=aa hv;clear HV hown hv;rcases l' with _ | ⟨k,l'⟩
    · rw [Op.acc_nil,if_pos hrt] at hacc
      go_wp2
      go_ret2
      exact Or.inr ⟨out,_,_,hacc.symm,rfl,uh HOW,hb⟩
    · have d1:(0:Int)<(l'.length:Int)+1:=by omega
      have HRT:=aa hrt;have HAC:=aa hacc;clear hrt hacc;go_wp2_with fail
      refine (mj wr).mono ?_;rintro e w1 ⟨rfl,hP,hb1⟩;have hv1:=(uh HVV).same (hb1.block B (by omega));have hb01:Below w.heap.size w w1:=hb.trans (hb1.mono hbs);have hs1:=hb1.size;rcases l' with _ | ⟨n,r⟩
      · have hres:RES=none:=by rw [← uh HAC,Op.acc_one]
        go_wp2_with fail
        refine (qt w1 _ B _ k hP (by omega) hv1).mono ?_;rintro e w2 ⟨rfl,hb2⟩;have hb02:=hb01.trans (hb2.mono hb01.size);unfold dc cS;clear HAC HOW HVV hv1 hP HRT;go_wp2
        go_ret2
        exact Or.inl ⟨hres,rfl,hb02.alloc hb02.size _⟩
      · by_cases hbd:n.toNat<2∨22<n.toNat∨r.length+2<n.toNat
        · have hres:RES=none:=by rw [← uh HAC,qv out hbd]
          go_wp2_with fail
          refine (qu w1 _ B _ k n r hP (by omega) hv1 (yT hbd)).mono ?_;rintro e w2 ⟨rfl,hb2⟩;have hb02:=hb01.trans (hb2.mono hb01.size);unfold dc cS;clear HAC HOW HVV hv1 hP HRT hbd;go_wp2
          go_ret2
          exact Or.inl ⟨hres,rfl,hb02.alloc hb02.size _⟩
        · have hac:=uh HAC
          rw [Op.acc_step out (by omega)] at hac;have hlen2:(r.drop (n.toNat - 2)).length≤r.length:=by rw [List.length_drop];omega
          have HAC2:=aa hac;have hr8:r.length+2≤8000:=by simpa using hl8'
          clear HAC hac;go_wp2_with fail
          refine (qs w1 _ B _ k n r hP (by omega) hv1 (xu hbd)).mono ?_;rintro e w2 ⟨off2,cap2,sa,sc,x,rfl,hR2,ho2,hb2⟩;generalize co (r.take (n.toNat - 2))=T at *;generalize r.drop (n.toNat - 2)=L2 at *;have hs2:=hb2.size;obtain ⟨g,rfl,hg1,hg2,hgc⟩:=qw ho2 (by decide);have g0:=hgc 0 _ rfl;have hb02:Below wr.heap.size wr w2:=hb1.trans (hb2.mono hs1);have hownB:∀ q,(Value.slice ya out.length yc).ownBlock=some q→w.heap.size≤q∧q<wr.heap.size:=fun q hq=>World.ownsRow.lt (uh HOW) q hq
          have HO2:Hid (w2.ownsRow w.heap.size 27 2 (.slice ya out.length yc) out.length (aj out)):=aa (aY (uh HOW) fun q _ hq=>hb02.block q hq);have HG:=aa g0;have HR2:=aa hR2;have hbw2:Below w.heap.size w w2:=hb.trans (hb02.mono hbs);clear HOW HVV hv1 hP hgc ho2 hbd g0 hR2 hb1 hb2;have n1:(Value.slice ya out.length yc).ownBlock≠some w2.heap.size:=fun e=>by have:=hownB _ e;omega
          have n2:(Value.slice ya out.length yc).ownBlock≠some g:=fun e=>by have:=hownB _ e;omega
          have n3:(Value.slice ya out.length yc).ownBlock≠some B:=fun e=>by have:=hownB _ e;omega
          go_wp2_with fail
          refine aI (fun q=>q.heap[w2.heap.size]?=some (.cells #[.slice (some ⟨wr.heap.size+1,0,none⟩) 3 3,.int .i64 2,.int .i64 20,.int .i64 3,.slice (some ⟨B,off2,none⟩) L2.length cap2,.slice (some ⟨g,0,none⟩) 1 sc,.int .i64 x,.string T] 253)∧q.cell? ⟨g,0,none⟩=some (.int .i64 k.toNat)∧q.ownsRow w.heap.size 27 2 (.slice ya out.length yc) out.length (aj out)∧Rest q B (.slice (some ⟨B,off2,none⟩) L2.length cap2) L2∧Below w.heap.size w q∧q.heap.size=w2.heap.size+1)
            ⟨zF w2 _,(((zC w2.heap.size w2).alloc (zD _) _).cell (p:=⟨g,0,none⟩) hg2).trans (uh HG),(uh HO2).alloc _,(uh HR2).same (zG _ _ _ (by omega)),hbw2.alloc hbw2.size _,by simp⟩ ?_
          rintro q ⟨hr,g0,hoq,hrq,hbq,hqs⟩;obtain ⟨_,_,_,_,r4,r5,_,r7,_⟩:=j_ hr;have HR:=aa hr;have HOQ:=aa hoq;have HRQ:=aa hrq;have lg:g<q.heap.size:=by omega
          have lr:w2.heap.size<q.heap.size:=by omega
          have lB:B<q.heap.size:=by omega
          have lw:w.heap.size≤q.heap.size:=by omega
          clear hr hoq hrq HG HO2 HR2 hbw2 hb02 hownB hb01 hqs
          go_region_held3 (fun z=>z.cell? ⟨w2.heap.size,5,none⟩=some (.slice (some ⟨g,0,none⟩) 1 sc)∧z.cell? ⟨g,0,none⟩=some (.int .i64 k.toNat)∧z.cell? ⟨w2.heap.size,7,none⟩=some (.string T))
            (first
              | go_keep
              | (go_split_ands
                 refine ⟨?_,?_,?_⟩
                 · (rw [hgrow.cell_far _ (by simp;omega) (Ne.symm n1)];assumption)
                 · (rw [hgrow.cell_far _ (by simp;omega) (Ne.symm n2)];assumption)
                 · (rw [hgrow.cell_far _ (by simp;omega) (Ne.symm n1)];assumption)))
            ((refine step_append_lies _ (by rfl) _ _ _ (by rfl) w.heap.size 27 i0 _ 2 24 underlying28 hi0 hz0 hz1 hz2 rfl (by omega) (.slice ya out.length yc) out.length (aj out) (by rfl) (((uh HOQ).alloc _).drew)
                ⟨q.heap.size,0,none⟩ 1 1 [.int .i64 k.toNat,.string T] (by rfl) (by rfl) (World.news_of_block (cs:=#[.int .i64 k.toNat,.string T]) (t:=27) (fr:=(0,0)) (zF q _)) (by simp [Value.oneCell'])
                (by omega) (by unfold maxLen;omega) (by omega) (by simp;omega) (q.heap.size+1) (by simp) ?_;intro gg cap3 w3 hown3 hgrow hat hlt))
          have hr3:=(hgrow.block w2.heap.size (by simp;omega) (Ne.symm n1)).trans ((zG q _ _ lr).trans (uh HR));have hB3:w3.heap[B]?=q.heap[B]?:=(hgrow.block B (by simp;omega) (Ne.symm n3)).trans (zG q _ _ lB);have hv3:=(uh HRQ).same hB3;have hbw3:Below w.heap.size w w3:=((hbq.alloc lw _).drew).grown hgrow (by simp;omega) (fun p hp=>(World.ownsRow.lt (uh HOQ) p hp).1);have hoc:aj out ++ [.int .i64 k.toNat,.string T]=aj (out ++ [⟨(k.toNat:Int),T⟩]):=by rw [bV];rfl
          rw [hoc] at hown3;have hol:out.length+1=(out ++ [(⟨(k.toNat:Int),T⟩:Op.Opt)]).length:=by simp
          have hown3':w3.ownsRow w.heap.size 27 2 (.slice (some ⟨gg,0,none⟩) (out ++ [(⟨(k.toNat:Int),T⟩:Op.Opt)]).length cap3) (out ++ [(⟨(k.toNat:Int),T⟩:Op.Opt)]).length (aj (out ++ [⟨(k.toNat:Int),T⟩])):=by rw [← hol];exact hown3
          have C:=aa (cq _ _ w3 (by rw [← hol];unfold maxLen;omega) (HoldsO.own hown3'));have hl20:out.length+1≤21:=by omega
          generalize hNO:out ++ [(⟨(k.toNat:Int),T⟩:Op.Opt)]=NO at *;rw [← hol] at C;have HO3:=aa hown3';have HV3:=aa hv3;have HR3:=aa hr3;have HOL:=aa hol;have hl3:w2.heap.size<w3.heap.size:=(ge.1 hr3).1;have hB3l:B<w3.heap.size:=by omega
          clear hown3 hown3' hgrow hat hr3 hB3 hv3 hoc HRQ HOQ HR r4 r5 r7 g0 n1 n2 n3 HRT hol;cases hrt2:Op.right NO
          · have hres:RES=none:=by rw [← uh HAC2,Op.acc_wrong L2 hrt2]
            rw [hrt2] at C;clear hrt2 HAC2;go_wp2_with (first | (go_at_call 13;refine (uh C).mono ?_;rintro e w4 ⟨rfl,hb4⟩))
            go_ret2
            exact Or.inl ⟨hres,rfl,hbw3.trans (hb4.mono hbw3.size)⟩
          · rw [hrt2] at C
            have HRT:=aa hrt2;clear hrt2;go_wp2_with (first | (go_at_call 13;refine (uh C).mono ?_;rintro e w4 ⟨rfl,hb4⟩;obtain ⟨_,_,_,_,r4,_,_,_,_⟩:=j_ ((hb4.block w2.heap.size hl3).trans (uh HR3))))
            go_roundw
            case rel =>
              refine ⟨L2,NO,⟨_,_,rfl⟩,(uh HV3).same (hb4.block B hB3l),by omega,⟨some ⟨gg,0,none⟩,cap3,by rw [uh HOL]⟩,?_,uh HRT,uh HAC2,hbw3.trans (hb4.mono hbw3.size)⟩;rw [uh HOL];exact aY (uh HO3) fun p _ hp=>hb4.block p hp
            case measure =>
              simp [xr];omega
end Go.Proofs.YtjebigodbnefiaaGreatDoor
namespace Go.Proofs.YtjebigodbnefiaaGreatDoor
open Go.RowKit Go.Proofs.Tryz
structure Cf where
 m:Nat
 a:Nat
 g:Nat
 p:Bool
 c:Bool
 d:Bool
abbrev dr (x:Cf):Array Value:=#[.int .i64 x.m,.int .i64 x.a,.int .i64 x.g,.bool x.p,.bool x.c,.bool x.d]
def iv (x:Cf):Bool:=aK x.m x.a x.g
def aD (k:Int) (x:Cf) (n:Nat):Cf :=
 if k=1 then { x with m:=n } else if k=2 then { x with a:=n } else if k=5 then { x with g:=n } else if k=9 then { x with d:=x.d && ((n:Int) != 2) } else x
def lQ (k:Int) (x:Cf):Cf :=
 if k=1 then { x with m:=300 } else if k=2 then { x with a:=4294967295 } else if k=5 then { x with g:=0 } else if k=7 then { x with p:=false } else if k=8 then { x with c:=false } else if k=9 then { x with d:=false } else x
def an (y x:Cf):Cf:=if iv y=true then y else x
def fN (x:Cf) (o:Op.Opt):Cf:=if bN o.kind=some o.data.size then an (aD o.kind x (ax o.data.data.toList)) x else x
def bF (x:Cf) (F:List Op.Opt):Cf:=F.foldl fN x
def gI (x:Cf) (F:List Op.Opt):Cf:=F.foldl (fun x o=>lQ o.kind x) x
theorem jw (x:Cf) (F:List Op.Opt) (i:Nat) (hi:i<F.length):bF x (F.take (i+1))=fN (bF x (F.take i)) F[i]:=by
 unfold bF;rw [List.take_succ_eq_append_getElem hi,List.foldl_append];rfl
theorem lS (x:Cf) (F:List Op.Opt) (i:Nat) (hi:i<F.length):gI x (F.take (i+1))=lQ F[i].kind (gI x (F.take i)):=by
 unfold gI;rw [List.take_succ_eq_append_getElem hi,List.foldl_append];rfl
theorem xy (x:Cf) (n:Nat) (w:World):Calls prog 46 #[.agg (dr x),.int .i64 n] w fun e w'=>e=.returned (.agg (dr (aD 1 x n)))∧Below w.heap.size w w':=by
 obtain ⟨m,a,g,p,c,d⟩:=x;show Calls prog 46 #[.agg #[.int .i64 m,.int .i64 a,.int .i64 g,.bool p,.bool c,.bool d],.int .i64 n] w fun e w'=>e=.returned (.agg #[.int .i64 n,.int .i64 a,.int .i64 g,.bool p,.bool c,.bool d])∧Below w.heap.size w w'
 go_enter func46,ntmps46
 go_wp2
 exact bodyPost_ret (v:=.agg #[.int .i64 n,.int .i64 a,.int .i64 g,.bool p,.bool c,.bool d]) (by simp [results,results46,go_sem]) rfl ⟨rfl,((zC _ _).alloc (zD _) _).alloc (by simp) _⟩
theorem xz (x:Cf) (n:Nat) (w:World):Calls prog 51 #[.agg (dr x),.int .i64 n] w fun e w'=>e=.returned (.agg (dr (aD 2 x n)))∧Below w.heap.size w w':=by
 obtain ⟨m,a,g,p,c,d⟩:=x;show Calls prog 51 #[.agg #[.int .i64 m,.int .i64 a,.int .i64 g,.bool p,.bool c,.bool d],.int .i64 n] w fun e w'=>e=.returned (.agg #[.int .i64 m,.int .i64 n,.int .i64 g,.bool p,.bool c,.bool d])∧Below w.heap.size w w'
 go_enter func51,ntmps51
 go_wp2
 exact bodyPost_ret (v:=.agg #[.int .i64 m,.int .i64 n,.int .i64 g,.bool p,.bool c,.bool d]) (by simp [results,results51,go_sem]) rfl ⟨rfl,((zC _ _).alloc (zD _) _).alloc (by simp) _⟩
theorem xA (x:Cf) (n:Nat) (w:World):Calls prog 57 #[.agg (dr x),.int .i64 n] w fun e w'=>e=.returned (.agg (dr (aD 5 x n)))∧Below w.heap.size w w':=by
 obtain ⟨m,a,g,p,c,d⟩:=x;show Calls prog 57 #[.agg #[.int .i64 m,.int .i64 a,.int .i64 g,.bool p,.bool c,.bool d],.int .i64 n] w fun e w'=>e=.returned (.agg #[.int .i64 m,.int .i64 a,.int .i64 n,.bool p,.bool c,.bool d])∧Below w.heap.size w w'
 go_enter func57,ntmps57
 go_wp2
 exact bodyPost_ret (v:=.agg #[.int .i64 m,.int .i64 a,.int .i64 n,.bool p,.bool c,.bool d]) (by simp [results,results57,go_sem]) rfl ⟨rfl,((zC _ _).alloc (zD _) _).alloc (by simp) _⟩
theorem xB (x:Cf) (n:Nat) (w:World):Calls prog 62 #[.agg (dr x),.int .i64 n] w fun e w'=>e=.returned (.agg (dr (aD 7 x n)))∧Below w.heap.size w w':=by
 obtain ⟨m,a,g,p,c,d⟩:=x;show Calls prog 62 #[.agg #[.int .i64 m,.int .i64 a,.int .i64 g,.bool p,.bool c,.bool d],.int .i64 n] w fun e w'=>e=.returned (.agg #[.int .i64 m,.int .i64 a,.int .i64 g,.bool p,.bool c,.bool d])∧Below w.heap.size w w'
 go_enter func62,ntmps62
 go_wp2
 exact bodyPost_ret (v:=.agg #[.int .i64 m,.int .i64 a,.int .i64 g,.bool p,.bool c,.bool d]) (by simp [results,results62,go_sem]) rfl ⟨rfl,((zC _ _).alloc (zD _) _).alloc (by simp) _⟩
theorem Ar (x:Cf) (n:Nat) (w:World):Calls prog 67 #[.agg (dr x),.int .i64 n] w fun e w'=>e=.returned (.agg (dr (aD 8 x n)))∧Below w.heap.size w w':=by
 obtain ⟨m,a,g,p,c,d⟩:=x;show Calls prog 67 #[.agg #[.int .i64 m,.int .i64 a,.int .i64 g,.bool p,.bool c,.bool d],.int .i64 n] w fun e w'=>e=.returned (.agg #[.int .i64 m,.int .i64 a,.int .i64 g,.bool p,.bool c,.bool d])∧Below w.heap.size w w'
 go_enter func67,ntmps67
 go_wp2
 exact bodyPost_ret (v:=.agg #[.int .i64 m,.int .i64 a,.int .i64 g,.bool p,.bool c,.bool d]) (by simp [results,results67,go_sem]) rfl ⟨rfl,((zC _ _).alloc (zD _) _).alloc (by simp) _⟩
theorem xD (x:Cf) (n:Nat) (w:World):Calls prog 72 #[.agg (dr x),.int .i64 n] w fun e w'=>e=.returned (.agg (dr (aD 9 x n)))∧Below w.heap.size w w':=by
 obtain ⟨m,a,g,p,c,d⟩:=x;cases d
 ·show Calls prog 72 #[.agg #[.int .i64 m,.int .i64 a,.int .i64 g,.bool p,.bool c,.bool false],.int .i64 n] w fun e w'=>e=.returned (.agg #[.int .i64 m,.int .i64 a,.int .i64 g,.bool p,.bool c,.bool false])∧Below w.heap.size w w'
  go_enter func72,ntmps72
  go_wp2
  exact bodyPost_ret (v:=.agg #[.int .i64 m,.int .i64 a,.int .i64 g,.bool p,.bool c,.bool false]) (by simp [results,results72,go_sem]) rfl ⟨rfl,((zC _ _).alloc (zD _) _).alloc (by simp) _⟩
 ·show Calls prog 72 #[.agg #[.int .i64 m,.int .i64 a,.int .i64 g,.bool p,.bool c,.bool true],.int .i64 n] w fun e w'=>e=.returned (.agg #[.int .i64 m,.int .i64 a,.int .i64 g,.bool p,.bool c,.bool ((n:Int) != 2)])∧Below w.heap.size w w'
  go_enter func72,ntmps72
  go_wp2
  exact bodyPost_ret (v:=.agg #[.int .i64 m,.int .i64 a,.int .i64 g,.bool p,.bool c,.bool ((n:Int) != 2)]) (by simp [results,results72,go_sem]) rfl ⟨rfl,((zC _ _).alloc (zD _) _).alloc (by simp) _⟩
theorem wo1 (x:Cf) (w:World):Calls prog 47 #[.agg (dr x)] w fun e w'=>e=.returned (.agg (dr (lQ 1 x)))∧Below w.heap.size w w':=by
 obtain ⟨m,a,g,p,c,d⟩:=x;show Calls prog 47 #[.agg #[.int .i64 m,.int .i64 a,.int .i64 g,.bool p,.bool c,.bool d]] w fun e w'=>e=.returned (.agg #[.int .i64 300,.int .i64 a,.int .i64 g,.bool p,.bool c,.bool d])∧Below w.heap.size w w'
 go_enter func47,ntmps47
 go_wp2
 exact bodyPost_ret (v:=.agg #[.int .i64 300,.int .i64 a,.int .i64 g,.bool p,.bool c,.bool d]) (by simp [results,results47,go_sem]) rfl ⟨rfl,((zC _ _).alloc (zD _) _).alloc (by simp) _⟩
theorem wo2 (x:Cf) (w:World):Calls prog 52 #[.agg (dr x)] w fun e w'=>e=.returned (.agg (dr (lQ 2 x)))∧Below w.heap.size w w':=by
 obtain ⟨m,a,g,p,c,d⟩:=x;show Calls prog 52 #[.agg #[.int .i64 m,.int .i64 a,.int .i64 g,.bool p,.bool c,.bool d]] w fun e w'=>e=.returned (.agg #[.int .i64 m,.int .i64 4294967295,.int .i64 g,.bool p,.bool c,.bool d])∧Below w.heap.size w w'
 go_enter func52,ntmps52
 go_wp2
 exact bodyPost_ret (v:=.agg #[.int .i64 m,.int .i64 4294967295,.int .i64 g,.bool p,.bool c,.bool d]) (by simp [results,results52,go_sem]) rfl ⟨rfl,((zC _ _).alloc (zD _) _).alloc (by simp) _⟩
theorem wo5 (x:Cf) (w:World):Calls prog 58 #[.agg (dr x)] w fun e w'=>e=.returned (.agg (dr (lQ 5 x)))∧Below w.heap.size w w':=by
 obtain ⟨m,a,g,p,c,d⟩:=x;show Calls prog 58 #[.agg #[.int .i64 m,.int .i64 a,.int .i64 g,.bool p,.bool c,.bool d]] w fun e w'=>e=.returned (.agg #[.int .i64 m,.int .i64 a,.int .i64 0,.bool p,.bool c,.bool d])∧Below w.heap.size w w'
 go_enter func58,ntmps58
 go_wp2
 exact bodyPost_ret (v:=.agg #[.int .i64 m,.int .i64 a,.int .i64 0,.bool p,.bool c,.bool d]) (by simp [results,results58,go_sem]) rfl ⟨rfl,((zC _ _).alloc (zD _) _).alloc (by simp) _⟩
theorem wo7 (x:Cf) (w:World):Calls prog 63 #[.agg (dr x)] w fun e w'=>e=.returned (.agg (dr (lQ 7 x)))∧Below w.heap.size w w':=by
 obtain ⟨m,a,g,p,c,d⟩:=x;show Calls prog 63 #[.agg #[.int .i64 m,.int .i64 a,.int .i64 g,.bool p,.bool c,.bool d]] w fun e w'=>e=.returned (.agg #[.int .i64 m,.int .i64 a,.int .i64 g,.bool false,.bool c,.bool d])∧Below w.heap.size w w'
 go_enter func63,ntmps63
 go_wp2
 exact bodyPost_ret (v:=.agg #[.int .i64 m,.int .i64 a,.int .i64 g,.bool false,.bool c,.bool d]) (by simp [results,results63,go_sem]) rfl ⟨rfl,((zC _ _).alloc (zD _) _).alloc (by simp) _⟩
theorem wo8 (x:Cf) (w:World):Calls prog 68 #[.agg (dr x)] w fun e w'=>e=.returned (.agg (dr (lQ 8 x)))∧Below w.heap.size w w':=by
 obtain ⟨m,a,g,p,c,d⟩:=x;show Calls prog 68 #[.agg #[.int .i64 m,.int .i64 a,.int .i64 g,.bool p,.bool c,.bool d]] w fun e w'=>e=.returned (.agg #[.int .i64 m,.int .i64 a,.int .i64 g,.bool p,.bool false,.bool d])∧Below w.heap.size w w'
 go_enter func68,ntmps68
 go_wp2
 exact bodyPost_ret (v:=.agg #[.int .i64 m,.int .i64 a,.int .i64 g,.bool p,.bool false,.bool d]) (by simp [results,results68,go_sem]) rfl ⟨rfl,((zC _ _).alloc (zD _) _).alloc (by simp) _⟩
theorem wo9 (x:Cf) (w:World):Calls prog 73 #[.agg (dr x)] w fun e w'=>e=.returned (.agg (dr (lQ 9 x)))∧Below w.heap.size w w':=by
 obtain ⟨m,a,g,p,c,d⟩:=x;show Calls prog 73 #[.agg #[.int .i64 m,.int .i64 a,.int .i64 g,.bool p,.bool c,.bool d]] w fun e w'=>e=.returned (.agg #[.int .i64 m,.int .i64 a,.int .i64 g,.bool p,.bool c,.bool false])∧Below w.heap.size w w'
 go_enter func73,ntmps73
 go_wp2
 exact bodyPost_ret (v:=.agg #[.int .i64 m,.int .i64 a,.int .i64 g,.bool p,.bool c,.bool false]) (by simp [results,results73,go_sem]) rfl ⟨rfl,((zC _ _).alloc (zD _) _).alloc (by simp) _⟩
structure CfR (k:Int) (s f f2 f3 f4 f5 j:Nat):Prop where
 fd:Instr.findNow (.int .i64) (.int .i64 k) cI.toList 0=some (some (j,aZ s f f2 f3 f4 f5))
 cf3:∀ args W,(callFunc f3 args).run prog W=.ok (.enter f3 args) W
 cf4:∀ args W,(callFunc f4 args).run prog W=.ok (.enter f4 args) W
 ls:∀ (x:Cf) (n:Nat) v,Calls prog f3 #[.agg (dr x),.int .i64 n] v fun e w'=>e=.returned (.agg (dr (aD k x n)))∧Below v.heap.size v w'
 wo:∀ (x:Cf) v,Calls prog f4 #[.agg (dr x)] v fun e w'=>e=.returned (.agg (dr (lQ k x)))∧Below v.heap.size v w'
theorem qy (k:Int):(∃ s f f2 f3 f4 f5 j,bN k=some s∧CfR k s f f2 f3 f4 f5 j)∨(bN k=none∧(∀ x,lQ k x=x)∧Instr.findNow (.int .i64) (.int .i64 k) cI.toList 0=some none):=by
 by_cases h1:k=1
 ·subst h1;exact Or.inl ⟨2,_,_,_,_,_,_,rfl,⟨rfl,bM (by kernel_rfl),bM (by kernel_rfl),fun x n v=>xy x n v,fun x v=>wo1 x v⟩⟩
 by_cases h2:k=2
 ·subst h2;exact Or.inl ⟨4,_,_,_,_,_,_,rfl,⟨rfl,bM (by kernel_rfl),bM (by kernel_rfl),fun x n v=>xz x n v,fun x v=>wo2 x v⟩⟩
 by_cases h5:k=5
 ·subst h5;exact Or.inl ⟨4,_,_,_,_,_,_,rfl,⟨rfl,bM (by kernel_rfl),bM (by kernel_rfl),fun x n v=>xA x n v,fun x v=>wo5 x v⟩⟩
 by_cases h7:k=7
 ·subst h7;exact Or.inl ⟨0,_,_,_,_,_,_,rfl,⟨rfl,bM (by kernel_rfl),bM (by kernel_rfl),fun x n v=>xB x n v,fun x v=>wo7 x v⟩⟩
 by_cases h8:k=8
 ·subst h8;exact Or.inl ⟨0,_,_,_,_,_,_,rfl,⟨rfl,bM (by kernel_rfl),bM (by kernel_rfl),fun x n v=>Ar x n v,fun x v=>wo8 x v⟩⟩
 by_cases h9:k=9
 ·subst h9;exact Or.inl ⟨1,_,_,_,_,_,_,rfl,⟨rfl,bM (by kernel_rfl),bM (by kernel_rfl),fun x n v=>xD x n v,fun x v=>wo9 x v⟩⟩
 ·refine Or.inr ⟨by simp [bN,h1,h2,h5,h7,h8,h9],fun x=>by simp [lQ,h1,h2,h5,h7,h8,h9],?_⟩;have e1:(k == 1)=false:=beq_eq_false_iff_ne.2 h1;have e2:(k == 2)=false:=beq_eq_false_iff_ne.2 h2;have e5:(k == 5)=false:=beq_eq_false_iff_ne.2 h5;have e7:(k == 7)=false:=beq_eq_false_iff_ne.2 h7;have e8:(k == 8)=false:=beq_eq_false_iff_ne.2 h8;have e9:(k == 9)=false:=beq_eq_false_iff_ne.2 h9;simp [Instr.findNow,cI,Instr.sameNow,e1,e2,e5,e7,e8,e9]
theorem xE:(prog.info? 35).map (·.size)=some 6:=by kernel_rfl
theorem jU {W:World} {E:Nat} {x0 x1 x2 x3 x4 x5:Value} (h:W.heap[E]?=some (.cells #[x0,x1,x2,x3,x4,x5] 35)):(loadVar 35 ⟨E,0,none⟩).run prog W=.ok (.agg #[x0,x1,x2,x3,x4,x5]) W :=
 run_loadVar_row (P:=prog) _ _ 35 35 #[x0,x1,x2,x3,x4,x5] (0,0) _ h underlying35 rfl xE
theorem sQ (w:World) (a b c:Obj):(((w.alloc a).alloc b).alloc c).heap[w.heap.size]?=some a∧(((w.alloc a).alloc b).alloc c).heap[w.heap.size+1]?=some b∧(((w.alloc a).alloc b).alloc c).heap[w.heap.size+1+1]?=some c∧Below w.heap.size w (((w.alloc a).alloc b).alloc c):=by
 have s1:(w.alloc a).heap.size=w.heap.size+1:=by simp
 have s2:((w.alloc a).alloc b).heap.size=w.heap.size+1+1:=by simp
 have e2:=zF (w.alloc a) b;have e3:=zF ((w.alloc a).alloc b) c;rw [s1] at e2;rw [s2] at e3;refine ⟨?_,?_,e3,(((zC _ _).alloc (zD _) _).alloc (by omega) _).alloc (by omega) _⟩
 ·rw [zG _ _ _ (by omega),zG _ _ _ (by omega)];exact zF w a
 ·rw [zG _ _ _ (by omega)];exact e2
theorem sR (y x:Cf) (w:World):Calls prog 213 #[.agg (dr y),.agg (dr x)] w fun e w'=>e=.returned (.agg (dr (an y x)))∧Below w.heap.size w w':=by
 unfold an iv;obtain ⟨m,a,g,p,c,d⟩:=y;obtain ⟨m',a',g',p',c',d'⟩:=x;have C:=aa fun v=>dm (m:Int) a g p c d v
 obtain ⟨h1,h2,h3,h4⟩:=sQ w (.cells #[.int .i64 m,.int .i64 a,.int .i64 g,.bool p,.bool c,.bool d] 35) (.cells #[.int .i64 m',.int .i64 a',.int .i64 g',.bool p',.bool c',.bool d'] 35) (.cells #[.int .i64 0,.int .i64 0,.int .i64 0,.bool false,.bool false,.bool false] 35);have H0:=aa (zA h1 (zA h2 (zA h3 h4)));clear h1 h2 h3 h4;dsimp only;cases hq:aK (m:Int) a g
 ·rw [if_neg (by decide)];rw [hq] at C;show Calls prog 213 #[.agg #[.int .i64 m,.int .i64 a,.int .i64 g,.bool p,.bool c,.bool d],.agg #[.int .i64 m',.int .i64 a',.int .i64 g',.bool p',.bool c',.bool d']] w fun e w'=>e=.returned (.agg #[.int .i64 m',.int .i64 a',.int .i64 g',.bool p',.bool c',.bool d'])∧Below w.heap.size w w'
  go_enter func213,ntmps213
  go_wp2_with fail
  refine (uh C _).mono ?_;rintro e w1 ⟨rfl,hb1⟩;obtain ⟨h1,h2,h3,h4⟩:=uh H0;have hS1:=(hb1.block (w.heap.size+1) (by simp)).trans h2;have hR1:=(hb1.block (w.heap.size+1+1) (by simp)).trans h3;have hB1:=h4.trans (hb1.mono h4.size);obtain ⟨c0,c1,c2,c3,c4,c5⟩:=aJ hS1;obtain ⟨r0,r1,r2,r3,r4,r5⟩:=aJ hR1;have f0:=aX hR1 0;have f1:=aX hR1 1;have f2:=aX hR1 2;have f3:=aX hR1 3;have f4:=aX hR1 4;have f5:=aX hR1 5;have H1:=aa (zA hR1 hB1);clear hS1 hR1 hB1 hb1 h1 h2 h3 h4 H0 C;go_wp2
  exact bodyPost_ret (v:=.agg #[.int .i64 m',.int .i64 a',.int .i64 g',.bool p',.bool c',.bool d']) (by simp [results,results213,asAddr,jU (dP (uh H1).1 (.int .i64 m') (.int .i64 a') (.int .i64 g') (.bool p') (.bool c') (.bool d'))]) rfl ⟨rfl,cv (uh H1).2 (by omega) _ _ _ _ _ _⟩
 ·rw [if_pos rfl];rw [hq] at C;show Calls prog 213 #[.agg #[.int .i64 m,.int .i64 a,.int .i64 g,.bool p,.bool c,.bool d],.agg #[.int .i64 m',.int .i64 a',.int .i64 g',.bool p',.bool c',.bool d']] w fun e w'=>e=.returned (.agg #[.int .i64 m,.int .i64 a,.int .i64 g,.bool p,.bool c,.bool d])∧Below w.heap.size w w'
  go_enter func213,ntmps213
  go_wp2_with fail
  refine (uh C _).mono ?_;rintro e w1 ⟨rfl,hb1⟩;obtain ⟨h1,h2,h3,h4⟩:=uh H0;have hS1:=(hb1.block (w.heap.size) (by simp;omega)).trans h1;have hR1:=(hb1.block (w.heap.size+1+1) (by simp)).trans h3;have hB1:=h4.trans (hb1.mono h4.size);obtain ⟨c0,c1,c2,c3,c4,c5⟩:=aJ hS1;obtain ⟨r0,r1,r2,r3,r4,r5⟩:=aJ hR1;have f0:=aX hR1 0;have f1:=aX hR1 1;have f2:=aX hR1 2;have f3:=aX hR1 3;have f4:=aX hR1 4;have f5:=aX hR1 5;have H1:=aa (zA hR1 hB1);clear hS1 hR1 hB1 hb1 h1 h2 h3 h4 H0 C;go_wp2
  exact bodyPost_ret (v:=.agg #[.int .i64 m,.int .i64 a,.int .i64 g,.bool p,.bool c,.bool d]) (by simp [results,results213,asAddr,jU (dP (uh H1).1 (.int .i64 m) (.int .i64 a) (.int .i64 g) (.bool p) (.bool c) (.bool d))]) rfl ⟨rfl,cv (uh H1).2 (by omega) _ _ _ _ _ _⟩
end Go.Proofs.YtjebigodbnefiaaGreatDoor
namespace Go.Proofs.YtjebigodbnefiaaGreatDoor
open Go.RowKit Go.Proofs.Tryz
def ud (w w':World) (a b:UInt8) (t:ByteArray) (e:Ending):Prop :=
 ∃ Pb B off n cap sa sc x,e=.returned (.tuple #[.agg #[.slice (some ⟨Pb,0,none⟩) 4 4,.int .i64 4,.int .i64 250,.int .i64 4,.slice (some ⟨B,off,none⟩) n cap,.slice sa 2 sc,.int .i64 x,.string t],.nilIface])∧w'.ownsRow w.heap.size 2 1 (.slice sa 2 sc) 2 [.int .i64 a.toNat,.int .i64 b.toNat]∧Below w.heap.size w w'
theorem ul (w:World) (Pb B:Nat) (v:Value) (a b c2' d:UInt8) (r:List UInt8) (n:Nat) (hP:w.heap[Pb]?=some (.cells #[.int .i64 0,.int .i64 0,.int .i64 2,.int .i64 3] 273)) (hB:B<w.heap.size) (hv:Rest w B v (a :: b :: c2' :: d :: r)) (hnn:256*c2'.toNat+d.toNat=n) (hg:oL 4 250 n r=false) :
  Calls prog 178 #[.agg #[.slice (some ⟨Pb,0,none⟩) 4 4,.int .i64 4,.int .i64 250,.int .i64 4],v] w fun e w'=>ud w w' a b (co (r.take (n - 4))) e:=by
 have hPw:Pb<w.heap.size:=(ge.1 hP).1;obtain ⟨off,cap,hvf,hcap,hl⟩:=hv;subst hvf;have HL:=aa hl;have HP:=aa hP;have HC:=aa hcap;clear hl hP hcap;go_enter func178,ntmps178
 go_wp2_with fail
 refine (fC _).mono ?_;rintro e w1 ⟨rfl,hw1⟩
 obtain ⟨hs,q0,q1,q2,q3,hb1⟩:=m8 w (.cells #[.slice (some ⟨Pb,0,none⟩) 4 4,.int .i64 4,.int .i64 250,.int .i64 4] 250) (.cells dc 253)
  (.cells #[.slice (some ⟨Pb,0,none⟩) 4 4,.int .i64 4,.int .i64 250,.int .i64 4,.slice (some ⟨B,off,none⟩) (r.length+1+1+1+1) cap,.slice none 0 0,.int .i64 0,.string ⟨#[]⟩] 253) (.map cW 4)
 unfold dc at hs q0 q1 q2 q3 hb1;rw [← hw1] at hs q0 q1 q2 q3 hb1;have hra:Ra w w1 (w.heap.size+1+1+1) Pb (w.heap.size+1) #[.int .i64 0,.int .i64 0,.int .i64 2,.int .i64 3] dc:=⟨q3,(hb1.block Pb hPw).trans (uh HP),q1,hb1⟩;have hrd:Rdg w1 (w.heap.size+1+1) (w.heap.size+1+1+1+1) B (.slice (some ⟨Pb,0,none⟩) 4 4) 4 250 4 (a :: b :: c2' :: d :: r) [] 0 ⟨#[]⟩ :=
  ⟨_,_,q2,⟨off,cap,rfl,uh HC,(uh HL).same (hb1.block B hB)⟩,⟨rfl,Or.inl ⟨rfl,rfl⟩⟩⟩
 obtain ⟨c0,c1,c2,c3⟩:=qr q0;have HRA:=aa hra;have HRD:=aa hrd;have lk:=e_ w1 (w.heap.size+1+1+1) cW 4 0 0 (eE 204) hra.hm rfl;have kk:=dA hra.hp 0 _ rfl;clear hra hrd hw1 q0 q1 q2 q3 HL HP HC;go_wp2_with fail
 refine wp_loop_rounds 5 ?_;rw [rounds_succ];go_wp2_with fail
 refine (gn _ _ B _ 4 250 4 (a :: b :: c2' :: d :: r) _ 0 ⟨#[]⟩ w1 (by omega) (by omega) (by omega) (by omega) (by simp) (uh HRD)).mono ?_;rintro e w2 ⟨hof,⟨hn,_⟩ | ⟨c,r',hc,rfl,hrd⟩⟩
 ·cases hn
 obtain ⟨rfl,rfl⟩:=List.cons.inj hc;have hra:=(uh HRA).off hof (by omega) (by omega) (by omega) (by omega) (by omega) (by omega) (by omega) (by omega);have hs0:=hof.size;clear HRA HRD hc lk kk c0 c1 c2 c3 hb1;have lk:=e_ w2 (w.heap.size+1+1+1) cW 4 0 0 (eE 204) hra.hm rfl;have kk:=dA hra.hp 1 _ rfl;have HRA:=aa hra;have HRD:=aa hrd;clear hra hrd hof;go_wp2_with fail
 rw [rounds_succ];go_wp2_with fail
 refine (gn _ _ B _ 4 250 4 (b :: c2' :: d :: r) _ 0 ⟨#[]⟩ w2 (by omega) (by omega) (by omega) (by omega) (by simp) (uh HRD)).mono ?_;rintro e w3 ⟨hof,⟨hn,_⟩ | ⟨c,r',hc,rfl,hrd⟩⟩
 ·cases hn
 obtain ⟨rfl,rfl⟩:=List.cons.inj hc;have hra:=(uh HRA).off hof (by omega) (by omega) (by omega) (by omega) (by omega) (by omega) (by omega) (by omega);have hs1:=hof.size;clear HRA HRD hc lk kk;have lk:=e_ w3 (w.heap.size+1+1+1) cW 4 2 2 (eE 206) hra.hm rfl;have kk:=dA hra.hp 2 _ rfl;have HRA:=aa hra;have HRD:=aa hrd;clear hra hrd hof;go_wp2_with fail
 rw [rounds_succ];go_wp2_with fail
 have C:=aa (ni _ _ B _ 4 250 4 (c2' :: d :: r) _ 0 ⟨#[]⟩ w3 (by omega) (by omega) (by omega) (by omega) (by omega) (by simp) (uh HRD));rw [show ax (List.take 2 (c2' :: d :: r))=256*c2'.toNat+d.toNat by simp [ax],show List.drop 2 (c2' :: d :: r)=r from rfl,hnn,hg,if_neg (by decide)] at C;refine (uh C).mono ?_;rintro e w4 ⟨rfl,hnr,hrd⟩;have hra:=(uh HRA).off (hnr.off (N:=w.heap.size+1+1+1+1) (by omega)) (by omega) (by omega) (by omega) (by omega) (by omega) (by omega) (by omega) (by omega);have hs4:=hnr.size;clear HRA HRD C hnr lk kk;have lk:=e_ w4 (w.heap.size+1+1+1) cW 4 3 3 (eE 207) hra.hm rfl;have kk:=dA hra.hp 3 _ rfl;have HRA:=aa hra;have HRD:=aa hrd;clear hra hrd;go_wp2_with fail
 rw [rounds_succ];go_wp2_with fail
 obtain ⟨g1,g2,g3⟩:4≤n∧n≤254∧n - 4≤r.length:=by
  have:=of_decide_eq_false hg
  omega
 have hrd:=uh HRD;rw [show ((n:Nat):Int) - 4=((n - 4:Nat):Int) by omega] at hrd;refine (sN _ _ B _ 4 250 4 r _ (n - 4) ⟨#[]⟩ w4 (by omega) (by omega) (by omega) g3 hrd).mono ?_;rintro e w5 ⟨rfl,hnr,hrd2⟩;have hra:=(uh HRA).off (hnr.off (N:=w.heap.size+1+1+1+1) (by omega)) (by omega) (by omega) (by omega) (by omega) (by omega) (by omega) (by omega) (by omega);obtain ⟨v',s,hR,hv,ho⟩:=hrd2;obtain ⟨off',cap',hvf,hcap',hl'⟩:=hv;subst hvf;obtain ⟨sa,sc,hsf⟩:=af ho;subst hsf;have hE:=hra.he;unfold dc at hE;have hfin:=hra.below;obtain ⟨c0,c1,c2,c3,c4,c5,c6,c7,_⟩:=j_ hR;obtain ⟨e0,e1,e2,e3,e4,e5,e6,e7,ef⟩:=j_ hE;have f0:=ef 0;have f1:=ef 1;have f2:=ef 2;have f3:=ef 3;have f4:=ef 4;have f5:=ef 5;have f6:=ef 6;have f7:=ef 7;have HO:=aa ho;have FIN:=aa (ie hE);unfold lO at FIN;clear HRA HRD hrd hnr hra hR hl' ho ef hE lk kk hg;go_wp2_with fail
 rw [rounds_succ];go_wp2
 refine bodyPost_ret (v:=.tuple #[.agg #[.slice (some ⟨Pb,0,none⟩) 4 4,.int .i64 4,.int .i64 250,.int .i64 4,.slice (some ⟨B,off',none⟩) (r.drop (n - 4)).length cap',.slice sa 2 sc,.int .i64 ((n - 4:Nat):Int),.string (co (r.take (n - 4)))],.nilIface]) (by simp [results,results178,asAddr,uh FIN]) rfl ?_;refine ⟨_,_,_,_,_,_,_,_,rfl,?_,go (E:=w.heap.size+1) hfin (Nat.le_succ _) _ _ _ _ _ _ _ _⟩;refine qq (aY (uh HO) fun g hg _=>ju w5 (w.heap.size+1) _ _ _ _ _ _ _ _ g ?_) (by omega);clear FIN;omega
end Go.Proofs.YtjebigodbnefiaaGreatDoor
