/- Acts FsmI MtE RepMath VOn VOn2 AnsOf RepI WkB RepFin ReadAs SpecOpt MtP MtJ EndNi -/
import Derived.Test.YtjdgiimfpkideaaGreatDoorFld
import Derived.Test.YtjdgiimfpkideaaGreatDoorS09
set_option maxHeartbeats 8000000
set_option maxRecDepth 100000
namespace Go.Proofs.YtjdgiimfpkideaaGreatDoor
open Go.RowKit Go.Proofs.Tryz
def j9:List (List (List UInt8)):=[[[],[105,114,99,32,115,99,114],[],[],[],[],[],[],[],[]],
 [[],[],[],[116,108,115],[],[],[],[],[],[116,108,100]],
 [[116,108,115],[],[105,114,99,32,115,99,114],[],[],[],[],[],[],[]],
 [[],[116,108,102],[],[],[],[],[105,114,99,32,115,116,114],[105,114,99,32,115,116,114],[105,114,99,32,115,116,114],[116,108,100,32,105,114,99,32,115,116,114]],
 [[],[],[],[],[115,116,114],[115,116,114],[115,99,114],[115,99,114],[115,99,114],[]],
 [[],[],[],[],[116,108,102],[116,108,102],[116,108,102],[116,108,102],[116,108,102],[]],
 [[],[],[115,116,97],[105,114,99,32,115,99,114,32,115,99,97],[],[],[115,99,97],[115,99,97,32,116,108,117],[115,99,97],[116,108,100,32,115,99,114,32,115,99,97]],
 [[],[],[115,116,97],[105,114,99,32,115,99,114,32,115,99,110],[],[],[115,99,110],[115,99,110],[115,99,110],[116,108,100,32,115,99,114,32,115,99,110]],
 [[],[],[115,116,97],[115,116,97],[],[],[105,114,99],[115,99,114],[105,114,99,32,116,108,117],[116,108,100,32,115,99,114]],
 [[],[],[115,116,97],[115,116,97],[],[],[105,114,99,32,115,99,114],[115,99,114],[105,114,99,32,115,99,114],[116,108,100,32,115,99,114]],
 [[],[],[115,116,97],[115,116,97],[115,116,97],[115,116,97],[115,116,97],[115,116,97],[115,116,97],[116,108,100,32,122,114,99,32,115,116,97]],
 [[],[],[],[],[116,108,102],[116,108,102],[],[],[],[116,108,100,32,115,99,114]],
 [[],[],[115,99,106],[115,99,106],[115,99,106],[115,99,106],[115,99,106],[115,99,106],[115,99,106],[115,99,106]],
 [[],[],[],[],[],[],[],[],[],[]],
 [[],[],[116,108,102],[116,108,102],[116,108,102],[116,108,102],[116,108,102],[116,108,102],[116,108,102],[116,108,100,32,105,114,99,32,115,116,114]],
 [[],[],[],[],[],[],[],[],[],[115,101,114]]]
def iy:List (List Int):=[[2,6,-1,-1,-1,-1,-1,-1,-1,-1],
 [-1,-1,0,1,0,1,1,1,1,1],
 [1,1,6,3,5,5,6,7,8,9],
 [0,0,2,2,4,4,4,4,4,4],
 [-1,-1,-1,-1,4,5,6,6,8,-1],
 [-1,-1,-1,-1,2,3,3,3,3,-1],
 [-1,-1,2,8,4,5,8,9,8,8],
 [-1,-1,2,6,4,5,6,7,6,6],
 [-1,-1,2,3,4,5,7,6,9,6],
 [-1,-1,2,3,4,5,6,6,8,6],
 [-1,-1,2,3,4,5,6,6,6,5],
 [-1,-1,2,3,2,3,6,6,8,6],
 [-1,-1,2,3,4,5,6,7,8,9],
 [-1,-1,2,3,4,5,6,6,8,9],
 [-1,-1,2,3,2,3,3,3,3,5],
 [-1,-1,2,3,4,5,6,7,8,9]]
def cX (i:Nat):Array Value:=((j9.getD i []).map fun l=>Value.string ⟨l.toArray⟩).toArray
def iM:Array Value:=(j9.flatten.map fun l=>Value.string ⟨l.toArray⟩).toArray
def dE (i s:Nat):ByteArray:=⟨((j9.getD i []).getD s []).toArray⟩
theorem o7:((List.range 16).all fun i=>(List.range 10).all fun s=>match iM[i*10+s]? with | some (.string t)=>decide (t=dE i s) | _=>false)=true:=by kernel_rfl
theorem rJ {i s:Nat} (hi:i<16) (hs:s<10):iM[i*10+s]?=some (.string (dE i s)):=by
 have h:=List.all_eq_true.1 (List.all_eq_true.1 o7 i (List.mem_range.2 hi)) s (List.mem_range.2 hs);split at h
 ·next t e=>rw [e,of_decide_eq_true h]
 ·cases h
attribute [local irreducible] cX iM
theorem o8 (i s:Nat) (hi:i<16) (hs:s<10) (w:World):Calls prog 135 #[.int .i64 i,.int .i64 s] w fun e w'=>e=.returned (.string (dE i s))∧w'=w.alloc (.cells iM 199):=by
 have hc:(w.alloc (.cells iM 199)).cell? ⟨w.heap.size,i*10+s,none⟩=some (.string (dE i s)):=by
  rw [cr (zF w _)];exact rJ hi hs
 have d1:(i:Int)<16:=by omega
 have d2:(s:Int)<10:=by omega
 go_enter func135,ntmps135
 go_upto_region 1 with fail
 apply wp_region_lit
 refine wpList_buildTo rfl 198 _ rfl (some 6) rfl (cX 0) (by as_aux_lemma=>kernel_rfl) ?_;refine wpList_buildTo rfl 198 _ rfl (some 7) rfl (cX 1) (by as_aux_lemma=>kernel_rfl) ?_;refine wpList_buildTo rfl 198 _ rfl (some 8) rfl (cX 2) (by as_aux_lemma=>kernel_rfl) ?_;refine wpList_buildTo rfl 198 _ rfl (some 9) rfl (cX 3) (by as_aux_lemma=>kernel_rfl) ?_;refine wpList_buildTo rfl 198 _ rfl (some 10) rfl (cX 4) (by as_aux_lemma=>kernel_rfl) ?_;refine wpList_buildTo rfl 198 _ rfl (some 11) rfl (cX 5) (by as_aux_lemma=>kernel_rfl) ?_;refine wpList_buildTo rfl 198 _ rfl (some 12) rfl (cX 6) (by as_aux_lemma=>kernel_rfl) ?_;refine wpList_buildTo rfl 198 _ rfl (some 13) rfl (cX 7) (by as_aux_lemma=>kernel_rfl) ?_;refine wpList_buildTo rfl 198 _ rfl (some 14) rfl (cX 8) (by as_aux_lemma=>kernel_rfl) ?_;refine wpList_buildTo rfl 198 _ rfl (some 15) rfl (cX 9) (by as_aux_lemma=>kernel_rfl) ?_;refine wpList_buildTo rfl 198 _ rfl (some 16) rfl (cX 10) (by as_aux_lemma=>kernel_rfl) ?_;refine wpList_buildTo rfl 198 _ rfl (some 17) rfl (cX 11) (by as_aux_lemma=>kernel_rfl) ?_;refine wpList_buildTo rfl 198 _ rfl (some 18) rfl (cX 12) (by as_aux_lemma=>kernel_rfl) ?_;refine wpList_buildTo rfl 198 _ rfl (some 19) rfl (cX 14) (by as_aux_lemma=>kernel_rfl) ?_;refine wpList_buildTo rfl 198 _ rfl (some 20) rfl (cX 15) (by as_aux_lemma=>kernel_rfl) ?_;refine wpList_buildTo rfl 199 _ rfl (some 21) rfl iM (by as_aux_lemma=>kernel_rfl) ?_;refine Great.wpList_allocTo rfl (some 5) rfl (.pointer (some ⟨w.heap.size,0,none⟩)) (.cells (Array.replicate 160 (.string ⟨#[]⟩)) 199) (by as_aux_lemma=>kernel_rfl) ?_;refine wpList_store_rowTo rfl 199 _ _ rfl rfl w.heap.size iM (by as_aux_lemma=>kernel_rfl) (by as_aux_lemma=>kernel_rfl) 199 _ (zF w _) (by as_aux_lemma=>kernel_rfl) (by as_aux_lemma=>kernel_rfl) (by as_aux_lemma=>kernel_rfl) ?_;rw [World.setRow_alloc_new];refine wpList_frame (a':=⟨#[.int .i64 i,.int .i64 s,undef,undef,.string ⟨#[]⟩,.pointer (some ⟨w.heap.size,0,none⟩),.agg (cX 0),.agg (cX 1),.agg (cX 2),.agg (cX 3),.agg (cX 4),.agg (cX 5),.agg (cX 6),.agg (cX 7),.agg (cX 8),.agg (cX 9),.agg (cX 10),.agg (cX 11),.agg (cX 12),.agg (cX 14),.agg (cX 15),.agg iM,undef,undef,undef,undef,undef],[]⟩) (by as_aux_lemma=>kernel_rfl) ?_;apply wpList_nil
 go_wp2
 go_ret
 exact ⟨rfl,rfl⟩
end Go.Proofs.YtjdgiimfpkideaaGreatDoor
namespace Go.Proofs.YtjdgiimfpkideaaGreatDoor
open Go.RowKit Go.Proofs.Tryz
def iN (i s:Nat):Int:=(iy.getD i []).getD s 0
def NxT (w:World):Prop:=∀ i s:Nat,i<16→s<10→w.cell? ⟨1,i*10+s,none⟩=some (.int .i64 (iN i s))
theorem NxT.below {w w':World} (h:NxT w) (hb:Below w.heap.size w w'):NxT w':=fun i s hi hs=>(hb.cell (p:=⟨1,i*10+s,none⟩) (World.block_lt_of_cell? _ _ (h i s hi hs))).trans (h i s hi hs)
def SpT (w:World):Prop:=∀ c:Nat,c<256→w.cell? ⟨2,c,none⟩=some (.int .u8 (if Lib.isSp (UInt8.ofNat c) then 1 else 0))
theorem SpT.below {w w':World} (h:SpT w) (hb:Below w.heap.size w w'):SpT w':=fun c hc=>(hb.cell (p:=⟨2,c,none⟩) (World.block_lt_of_cell? _ _ (h c hc))).trans (h c hc)
def cU (t:ByteArray):List ByteArray:=(Lib.fields t.data.toList).map fun l=>⟨l.toArray⟩
theorem mt (s:ByteArray) (w:World) (hs:s.size≤30) (ha:(s.data.toList.all fun b=>decide (b.toNat<128))=true) (hT:SpT w) :
  Calls prog 134 #[.string s] w fun e w'=>e=.returned (.slice (some ⟨w.heap.size,0,none⟩) (cU s).length (cU s).length)∧w'=w.alloc (.cells (a_ (cU s)).toArray 9):=by
 refine (Any.strings_Fields_core Tryz.laysFld (by kernel_rfl) s w (by omega) (fun j b hj=>of_decide_eq_true (List.all_eq_true.1 ha b (List.mem_of_getElem? hj))) hT).mono ?_;rintro e w' ⟨rfl,rfl⟩;refine ⟨by simp [cU],?_⟩;simp only [cU,a_,List.map_map];rfl
def tU (t:ByteArray):ByteArray:=co (((iL.find? fun x=>x.1 == t.data.toList).map fun x=>x.2).getD [])
def oq (s:Nat) (t:ByteArray):ByteArray:=((bR (tU t) 44)[s]?).getD ⟨#[]⟩
def tV (s:Int) (t:ByteArray):Int × List ByteArray × Int :=
 if 8000<t.size then (0,[],2) else if ¬ (0≤s∧s≤9) then (0,[],5) else if tU t=⟨#[]⟩ then (0,[],6) else if (oq s.toNat t).data.toList=[45] then (s,[],8)
 else (((oq s.toNat t).data.toList.getLastD 0).toNat - 48,if 2<(oq s.toNat t).size then bR ((oq s.toNat t).extract 0 ((oq s.toNat t).size - 2)) 32 else [],0)
theorem rK (s:Int) (t:ByteArray):bO s t=tV s t:=by
 unfold bO tV ip oq aW tU;simp only [ByteArray.toList_eq]
theorem places:((List.range 16).all fun i=>(List.range 10).all fun k=>decide (tV (k:Int) (ba.getD i ⟨#[]⟩)=if iN i k=-1 then ((k:Int),[],8) else (iN i k,cU (dE i k),0)) && decide ((dE i k).size≤30∧(cU (dE i k)).length≤30) && ((dE i k).data.toList.all fun b=>decide (b.toNat<128)))=true:=by kernel_rfl
theorem iO {i k:Nat} {t:ByteArray} (ht:ba[i]?=some t) (hk:k<10):(bO (k:Int) t=if iN i k=-1 then ((k:Int),[],8) else (iN i k,cU (dE i k),0))∧((dE i k).size≤30∧(cU (dE i k)).length≤30)∧((dE i k).data.toList.all fun b=>decide (b.toNat<128))=true:=by
 have hi:i<16:=(List.getElem?_eq_some_iff.1 ht).1;have h:=List.all_eq_true.1 (List.all_eq_true.1 places i (List.mem_range.2 hi)) k (List.mem_range.2 hk);rw [Bool.and_eq_true,Bool.and_eq_true] at h;have e:ba.getD i ⟨#[]⟩=t:=by rw [List.getD_eq_getElem?_getD,ht];rfl
 rw [e] at h;rw [rK];exact ⟨of_decide_eq_true h.1.1,of_decide_eq_true h.1.2,h.2⟩
theorem mu {t:ByteArray} (h:∀ i:Nat,ba[i]?≠some t):aW t=⟨#[]⟩:=by
 unfold aW;rw [List.find?_eq_none.2 fun x hx e=>?_]
 ·rfl
 ·have ht:t=co x.1:=cF (eq_of_beq e).symm;obtain ⟨i,hi⟩:=List.getElem?_of_mem (List.mem_map.2 ⟨x,hx,ht.symm⟩:t ∈ ba);exact h i hi
theorem nl (s:Int) (t:ByteArray) (w:World) (ht:t.size≤maxLen) (hE:EvT w) (hN:NxT w) (hS:SpT w):Calls prog 117 #[.int .i64 s,.string t] w fun e w'=>vD (bO s t) w w' e:=by
 unfold maxLen at ht;have hr0:(w.alloc (.cells #[.int .i64 0,.slice none 0 0,.int .i64 0] 115)).heap[w.heap.size]?=some (.cells #[.int .i64 0,.slice none 0 0,.int .i64 0] 115):=heap_alloc_last w _;have hb0:Below w.heap.size w (w.alloc (.cells #[.int .i64 0,.slice none 0 0,.int .i64 0] 115)):=(zC _ _).alloc (zD _) _;have H0:=aa (zA hr0 hb0);by_cases h1:8000<t.size
 ·have d1:(8000:Int)<(t.size:Int):=by omega
  rw [show bO s t=(0,[],2) from if_pos h1];clear hr0 hb0;go_enter func117,ntmps117
  go_wp2
  refine bodyPost_ret (v:=.agg #[.int .i64 0,.slice none 0 0,.int .i64 2]) (by simp [results,results117,go_sem]) rfl ⟨none,0,rfl,⟨rfl,Or.inl ⟨rfl,rfl⟩⟩,?_⟩;exact (zC _ _).alloc (zD _) _
 have d1:¬ ((8000:Int)<(t.size:Int)):=by omega
 by_cases h2:¬ (0≤s∧s≤9)
 ·rw [show bO s t=(0,[],5) by unfold bO;rw [if_neg h1,if_pos h2]];clear hr0 hb0;by_cases h3:s<0
  ·go_enter func117,ntmps117
   go_wp2
   refine bodyPost_ret (v:=.agg #[.int .i64 0,.slice none 0 0,.int .i64 5]) (by simp [results,results117,go_sem]) rfl ⟨none,0,rfl,⟨rfl,Or.inl ⟨rfl,rfl⟩⟩,?_⟩;exact (zC _ _).alloc (zD _) _
  ·have d2:(10:Int)≤s:=by omega
   go_enter func117,ntmps117
   go_wp2
   refine bodyPost_ret (v:=.agg #[.int .i64 0,.slice none 0 0,.int .i64 5]) (by simp [results,results117,go_sem]) rfl ⟨none,0,rfl,⟨rfl,Or.inl ⟨rfl,rfl⟩⟩,?_⟩;exact (zC _ _).alloc (zD _) _
 have h2':0≤s∧s≤9:=Classical.not_not.1 h2;have h1':=aa h1;have HN3:Hid (aW t=⟨#[]⟩→bO s t=(0,[],6)):=aa fun h3=>by unfold bO;rw [if_neg h1,if_neg h2,if_pos h3]
 obtain ⟨k,rfl⟩:∃ k:Nat,s=(k:Int):=⟨s.toNat,by omega⟩;have hk:k<10:=by omega
 have d2:¬ ((k:Int)<0):=by omega
 have d3:¬ ((10:Int)≤(k:Int)):=by omega
 have d4:(k:Int)<10:=by omega
 have C1:=aa (oZ t _ (hE.below hb0));have HNX:=aa (hN.below hb0);have HSP:=aa (hS.below hb0);clear hE hN hS h1 h2 h2' hr0 hb0 h1';obtain ⟨R,hR⟩:∃ R,bO (k:Int) t=R:=⟨_,rfl⟩;rw [hR] at HN3;rw [hR];have HR:=aa hR;clear hR;go_enter func117,ntmps117
 go_wp2_with fail
 refine (uh C1).mono ?_;rintro e w1 ⟨hw,⟨i,hi,rfl⟩ | ⟨hn,rfl⟩⟩
 ·subst hw;have hi16:i<16:=(List.getElem?_eq_some_iff.1 hi).1;obtain ⟨hF,⟨hz,hzl⟩,hascii⟩:=iO hi hk;have c1:=uh HNX i k hi16 hk;have d5:(i:Int)<16:=by omega
  rw [uh HR] at hF;clear HR;have CA:=aa fun v=>o8 i k hi16 hk v
  have CF:=aa fun v=>mt (dE i k) v hz hascii
  clear hi hz hascii HN3 HNX C1;generalize cU (dE i k)=F at *;generalize dE i k=ta at *;generalize iN i k=nx at *;go_upto_region 9 with fail
  by_cases hx:nx=-1
  ·subst hx;rw [if_pos rfl] at hF;subst hF;clear CA CF HSP;go_wp2
   exact bodyPost_ret (v:=.agg #[.int .i64 k,.slice none 0 0,.int .i64 8]) (by simp [results,results117,go_sem]) rfl ⟨none,0,rfl,⟨rfl,Or.inl ⟨rfl,rfl⟩⟩,(zC _ _).alloc (zD _) _⟩
  ·rw [if_neg hx] at hF;subst hF;have d6:(nx == -1)=false:=by simpa using hx
   have HSP2:Hid (SpT ((w.alloc (.cells #[.int .i64 0,.slice none 0 0,.int .i64 0] 115)).alloc (.cells iM 199))):=aa ((uh HSP).below ((zC _ _).alloc (zD _) _));clear HSP c1
   go_wp2_with (first
    | (go_at_call 135;refine (uh CA _).mono ?_;rintro e w2 ⟨rfl,hw⟩;subst hw)
    | fail)
   refine (uh CF _ (uh HSP2)).mono ?_;rintro e w3 ⟨rfl,hw⟩;have hs1:(w.alloc (.cells #[.int .i64 0,.slice none 0 0,.int .i64 0] 115)).heap.size=w.heap.size+1:=by simp
   have hs2:((w.alloc (.cells #[.int .i64 0,.slice none 0 0,.int .i64 0] 115)).alloc (.cells iM 199)).heap.size=w.heap.size+1+1:=by rw [World.size_alloc,hs1]
   have hr3:w3.heap[w.heap.size]?=some (.cells #[.int .i64 0,.slice none 0 0,.int .i64 0] 115):=by
    rw [hw,zG _ _ _ (by omega),zG _ _ _ (by omega)];exact (uh H0).1
   have hB3:Below w.heap.size w w3:=by
    rw [hw];exact ((uh H0).2.alloc (by omega) _).alloc (by omega) _
   have ho3:w3.ownsRow (w.heap.size+1+1) 9 1 (.slice (some ⟨w.heap.size+1+1,0,none⟩) F.length F.length) F.length (a_ F):=by
    have h:=World.ownsRow_lit (base:=w.heap.size+1+1) ((w.alloc (.cells #[.int .i64 0,.slice none 0 0,.int .i64 0] 115)).alloc (.cells iM 199)) (e:=9) (size:=1) (a_ F).toArray F.length (by omega) (by unfold maxLen;omega) (by simp [mq]);rw [hs2,← hw] at h;exact h
   rw [hs2];have H3:=aa (zA hr3 (zA hB3 ho3));obtain ⟨r0,r1,r2,f0,f1,f2⟩:=ik hr3;clear hr3 hB3 ho3 hw hs1 hs2 HSP2 CF CA H0;go_wp2
   refine bodyPost_ret (v:=.agg #[.int .i64 nx,.slice (some ⟨w.heap.size+1+1,0,none⟩) F.length F.length,.int .i64 0]) (by simp [results,results117,asAddr,nk (iw (uh H3).1 (.int .i64 nx) (.slice (some ⟨w.heap.size+1+1,0,none⟩) F.length F.length) (.int .i64 0))]) rfl ⟨_,_,rfl,?_,eW (uh H3).2.1 (zD _) _ _ _⟩;have:=aY (w':=((w3.setCell ⟨w.heap.size,0,none⟩ (.int .i64 nx)).setCell ⟨w.heap.size,1,none⟩ (.slice (some ⟨w.heap.size+1+1,0,none⟩) F.length F.length)).setCell ⟨w.heap.size,2,none⟩ (.int .i64 0)) (uh H3).2.2 fun g hg _=>by
    rw [Below.heap_setCell _ _ _ _ (by simp;omega),Below.heap_setCell _ _ _ _ (by simp;omega),Below.heap_setCell _ _ _ _ (by simp;omega)]
   exact ⟨this.1,this.2.imp id fun ⟨g,cap,cur,h1,h2,h3⟩=>⟨g,cap,cur,h1,by omega,h3⟩⟩
 ·subst hw;have hF:=uh HN3 (mu hn);subst hF;clear HN3 hn HNX HSP HR;go_wp2
  refine bodyPost_ret (v:=.agg #[.int .i64 0,.slice none 0 0,.int .i64 6]) (by simp [results,results117,go_sem]) rfl ⟨none,0,rfl,⟨rfl,Or.inl ⟨rfl,rfl⟩⟩,?_⟩;exact (zC _ _).alloc (zD _) _
def cV (ca cb:List Value) (cd:Int):List Value:=ca ++ cb ++ [Value.int .i64 cd]
theorem yb {W:World} {B:Nat} {ca cb:List Value} {cd:Int} {T:TypeId} (la:ca.length=30) (lb:cb.length=30) (h:W.heap[B]?=some (.cells (cV ca cb cd).toArray T)):W.rangeAt B 0 ca∧W.rangeAt B 30 cb∧W.cell? ⟨B,60,none⟩=some (.int .i64 cd):=by
 unfold cV at h;refine ⟨?_,?_,?_⟩
 ·have:=aS (X:=[]) (Y:=ca) (Z:=cb ++ [Value.int .i64 cd]) (by rw [List.nil_append,← List.append_assoc];exact h)
  exact this
 ·have:=aS h
  rw [la] at this;exact this
 ·have:=bI (X:=ca ++ cb) (v:=Value.int .i64 cd) (Z:=[]) (by rw [List.append_nil];exact h)
  rw [List.length_append,la,lb] at this;exact this
structure EqM (w:World) (cs ds:List Value) (q:World):Prop where
 a:q.heap[w.heap.size]?=some (.cells cs.toArray 34)
 b:q.heap[w.heap.size+1]?=some (.cells ds.toArray 34)
 l:Below w.heap.size w q
theorem EqM.step {w:World} {cs ds:List Value} {q q':World} (h:EqM w cs ds q) (hb:Below q.heap.size q q'):EqM w cs ds q' :=
 ⟨(hb.block _ (ge.1 h.a).1).trans h.a,(hb.block _ (ge.1 h.b).1).trans h.b,h.l.trans (hb.mono h.l.size)⟩
theorem yo {ca cb da db:List Value} {cd:Int} {w:World} (la:ca.length=30) (lb:cb.length=30) (lc:da.length=30) (ld:db.length=30)
  (CA:∀ W,Below w.heap.size w W→Calls prog 32 #[.agg ca.toArray,.agg da.toArray] W fun r w'=>r=.returned (.bool true)∧Below W.heap.size W w')
  (CB:∀ W,Below w.heap.size w W→Calls prog 32 #[.agg cb.toArray,.agg db.toArray] W fun r w'=>r=.returned (.bool true)∧Below W.heap.size W w') :
  Calls prog 13 #[.agg (cV ca cb cd).toArray,.agg (cV da db cd).toArray] w fun r w'=>r=.returned (.bool true)∧Below w.heap.size w w':=by
 have C1:=aa CA;have C2:=aa CB;obtain ⟨_,hb,hc,hd⟩:=br w (.cells (cV ca cb cd).toArray 34) (.cells (cV da db cd).toArray 34);have HI:Hid (EqM w (cV ca cb cd) (cV da db cd) ((w.alloc (.cells (cV ca cb cd).toArray 34)).alloc (.cells (cV da db cd).toArray 34))):=aa ⟨hb,hc,hd⟩;clear hb hc hd CA CB;have RA:=aa fun q (h:EqM w (cV ca cb cd) (cV da db cd) q)=>zA (yb la lb h.a) (yb lc ld h.b)
 generalize cV ca cb cd=cs at *;generalize cV da db cd=ds at *;go_enter func13,ntmps13
 refine wp_seq_k fun K hK=>?_
 apply wp_region_lit
 refine Great.wpList_allocTo rfl (some 2) rfl (.pointer (some ⟨w.heap.size,0,none⟩)) (.cells cs.toArray 34) (by simp [go_sem]) ?_;refine Great.wpList_allocTo rfl (some 3) rfl (.pointer (some ⟨w.heap.size+1,0,none⟩)) (.cells ds.toArray 34) (by simp [go_sem]) ?_;refine Great.wpList_readTo rfl (some 4) rfl (.bool false) (by simp [go_sem]) ?_;refine hK _ _ ?_;clear hK K;simp only [Act.put,sA,sZ,sS];go_upto_region 1 with fail
 generalize (w.alloc (.cells cs.toArray 34)).alloc (.cells ds.toArray 34)=q at HI ⊢;have HA9:=aa (uh RA q (uh HI))
 go_wp2_with (first
  | (refine wpList_load_mid rfl 32 (.tmp 5) rfl w.heap.size 0 rfl ca _ (uh HA9).1.1 underlying32 rfl (by rw [la];exact aL) ?_)
  | (refine wpList_load_mid rfl 32 (.tmp 7) rfl (w.heap.size+1) 0 rfl da _ (uh HA9).2.1 underlying32 rfl (by rw [lc];exact aL) ?_))
 clear HA9;refine (uh C1 _ (uh HI).l).mono ?_;rintro r w1 ⟨rfl,hb1⟩;have H1:=aa ((uh HI).step hb1);clear hb1 HI C1;have HA9:=aa (uh RA w1 (uh H1))
 go_wp2_with (first
  | (refine wpList_load_mid rfl 32 (.tmp 11) rfl w.heap.size 30 rfl cb _ (uh HA9).1.2.1 underlying32 rfl (by rw [lb];exact aL) ?_)
  | (refine wpList_load_mid rfl 32 (.tmp 13) rfl (w.heap.size+1) 30 rfl db _ (uh HA9).2.2.1 underlying32 rfl (by rw [ld];exact aL) ?_))
 clear HA9;refine (uh C2 _ (uh H1).l).mono ?_;rintro r w2 ⟨rfl,hb2⟩;have H2:=aa ((uh H1).step hb2);clear hb2 H1 C2;obtain ⟨⟨_,_,c60⟩,_,_,d60⟩:=uh RA w2 (uh H2);go_wp2
 go_ret
 exact ⟨rfl,(uh H2).l⟩
theorem uz {ca cb:List Value} {cd:Int} {w:World} {k k1 k2:Int} (la:ca.length=30) (lb:cb.length=30) {P1 P2:World→Prop}
  (CA:∀ W,Below w.heap.size w W→W.heap[w.heap.size]?=some (.cells (cV ca cb cd).toArray 34)→Calls prog 33 #[.agg ca.toArray,.int .i64 k] W fun r w'=>r=.returned (.int .i64 k1)∧w'.heap[w.heap.size]?=some (.cells (cV ca cb cd).toArray 34)∧P1 w')
  (CB:∀ W,P1 W→Calls prog 33 #[.agg cb.toArray,.int .i64 k1] W fun r w'=>r=.returned (.int .i64 k2)∧P2 w') :
  Calls prog 16 #[.agg (cV ca cb cd).toArray,.int .i64 k] w fun r w'=>r=.returned (.int .i64 k2)∧P2 w':=by
 have hb:Below w.heap.size w (w.alloc (.cells (cV ca cb cd).toArray 34)):=(zC _ _).alloc (zD _) _;have hN:=zF w (.cells (cV ca cb cd).toArray 34);have C1:=aa (CA _ hb hN);have C2:=aa CB;have RA:=aa fun (q:World) (h:q.heap[w.heap.size]?=some (.cells (cV ca cb cd).toArray 34))=>yb la lb h
 have HN:=aa hN;clear hb hN CA CB;generalize cV ca cb cd=cs at *;go_enter func16,ntmps16
 refine wp_seq_k fun K hK=>?_
 apply wp_region_lit
 refine Great.wpList_allocTo rfl (some 2) rfl (.pointer (some ⟨w.heap.size,0,none⟩)) (.cells cs.toArray 34) (by simp [go_sem]) ?_;refine Great.wpList_readTo rfl (some 4) rfl (.int .i64 0) (by simp [go_sem]) ?_;refine hK _ _ ?_;clear hK K;simp only [Act.put,sA,sZ,sS];go_upto_region 1 with fail
 generalize w.alloc (.cells cs.toArray 34)=q at C1 HN ⊢;have HA9:=aa (uh RA q (uh HN)).1;go_wp2_with (refine wpList_load_mid rfl 32 (.tmp 5) rfl w.heap.size 0 rfl ca _ (uh HA9) underlying32 rfl (by rw [la];exact aL) ?_)
 clear HA9;refine (uh C1).mono ?_;rintro r w1 ⟨rfl,hN1,hP1⟩;have HA9:=aa (uh RA w1 hN1).2.1;have HP1:=aa hP1;clear hN1 hP1 C1 HN;go_wp2_with (refine wpList_load_mid rfl 32 (.tmp 9) rfl w.heap.size 30 rfl cb _ (uh HA9) underlying32 rfl (by rw [lb];exact aL) ?_)
 clear HA9;refine (uh C2 _ (uh HP1)).mono ?_;rintro r w2 ⟨rfl,hP2⟩;have HP2:=aa hP2;clear hP2 HP1 C2;go_wp2
 go_ret
 exact ⟨rfl,uh HP2⟩
theorem uA {ca cb:List Value} {cd:Int} {w:World} {k k1 k2:Int} (la:ca.length=30) (lb:cb.length=30) (n1:¬ k1<0) (n2:¬ k2<0)
  (CA:∀ W,Below w.heap.size w W→Calls prog 34 #[.agg ca.toArray,.int .i64 k] W fun r w'=>r=.returned (.int .i64 k1)∧Below W.heap.size W w')
  (CB:∀ W,Below w.heap.size w W→Calls prog 34 #[.agg cb.toArray,.int .i64 k1] W fun r w'=>r=.returned (.int .i64 k2)∧Below W.heap.size W w') :
  Calls prog 17 #[.agg (cV ca cb cd).toArray,.int .i64 k] w fun r w'=>r=.returned (.int .i64 k2)∧Below w.heap.size w w':=by
 have hb:Below w.heap.size w (w.alloc (.cells (cV ca cb cd).toArray 34)):=(zC _ _).alloc (zD _) _;have hN:=zF w (.cells (cV ca cb cd).toArray 34);have C1:=aa CA;have C2:=aa CB;have RA:=aa fun (q:World) (h:q.heap[w.heap.size]?=some (.cells (cV ca cb cd).toArray 34))=>yb la lb h
 have HN:=aa (zA hN hb);clear hb hN CA CB;generalize cV ca cb cd=cs at *;go_enter func17,ntmps17
 refine wp_seq_k fun K hK=>?_
 apply wp_region_lit
 refine Great.wpList_allocTo rfl (some 2) rfl (.pointer (some ⟨w.heap.size,0,none⟩)) (.cells cs.toArray 34) (by simp [go_sem]) ?_;refine Great.wpList_readTo rfl (some 4) rfl (.int .i64 0) (by simp [go_sem]) ?_;refine hK _ _ ?_;clear hK K;simp only [Act.put,sA,sZ,sS];go_upto_region 1 with fail
 generalize w.alloc (.cells cs.toArray 34)=q at HN ⊢;have HA9:=aa (uh RA q (uh HN).1).1;go_wp2_with (refine wpList_load_mid rfl 32 (.tmp 5) rfl w.heap.size 0 rfl ca _ (uh HA9) underlying32 rfl (by rw [la];exact aL) ?_)
 clear HA9;refine (uh C1 _ (uh HN).2).mono ?_;rintro r w1 ⟨rfl,hb1⟩;have hN1:=(hb1.block _ (ge.1 (uh HN).1).1).trans (uh HN).1;have HA9:=aa (uh RA w1 hN1).2.1;have HP1:=aa ((uh HN).2.trans (hb1.mono (uh HN).2.size));clear hN1 hb1 C1 HN;go_wp2_with (refine wpList_load_mid rfl 32 (.tmp 11) rfl w.heap.size 30 rfl cb _ (uh HA9) underlying32 rfl (by rw [lb];exact aL) ?_)
 clear HA9;refine (uh C2 _ (uh HP1)).mono ?_;rintro r w2 ⟨rfl,hb2⟩;have HP2:=aa ((uh HP1).trans (hb2.mono (uh HP1).size));clear hb2 HP1 C2;go_wp2
 go_ret
 exact ⟨rfl,uh HP2⟩
def jk (a g:Nat) (p c d:Bool) (k:Int) (n:Nat):Int :=
 if k=1 then gc (al 64 300 n) 3 else if k=2 then gc (((n ||| a:Nat):Int) == (n:Int)) 3 else if k=5 then gc ((n:Int) != 0 && (n:Int) != (g:Int)) 3 else if k=7 then gc p 4 else if k=8 then gc c 4 else gc ((n:Int) == 2 || ((n:Int) == 4 && d)) 3
def nI (m a g:Nat) (k:Int) (n:Nat):ByteArray :=
 if k=1 then ji m else if k=2 then cK (n ||| a) else if k=5 then cK (fv g) else if k=7 then ⟨#[]⟩ else if k=8 then ⟨#[]⟩ else fu 2
def one (m a g:Nat) (p c d:Bool) (o:Op.Opt):Int × Op.Opt :=
 if bN o.kind=some o.data.size then (jk a g p c d o.kind (ax o.data.data.toList),⟨o.kind,if jk a g p c d o.kind (ax o.data.data.toList) == 3 then nI m a g o.kind (ax o.data.data.toList) else o.data⟩) else (4,o)
def cQ (k:Int) (l:List Op.Opt):Bool:=l.any fun x=>x.kind == k
def gB (m a g:Nat) (p c d:Bool) (l:List Op.Opt) (o:Op.Opt):Int × Op.Opt:=if cQ o.kind l=true then (4,o) else one m a g p c d o
def eO (m a g:Nat) (p c d:Bool) (l:List Op.Opt) (i:Nat):Int × Op.Opt:=match l[i]? with
 | some o=>gB m a g p c d (l.take i) o
 | none=>(4,⟨0,⟨#[]⟩⟩)
def dL (m a g:Nat) (p c d:Bool) (l:List Op.Opt) (n:Nat):List (Int × Op.Opt):=(List.range n).map (eO m a g p c d l)
theorem fw (m a g:Nat) (p c d:Bool) (l:List Op.Opt) (n:Nat):dL m a g p c d l (n+1)=dL m a g p c d l n ++ [eO m a g p c d l n]:=by
 unfold dL;rw [List.range_succ,List.map_append];rfl
theorem eq (m a g:Nat) (p c d:Bool) (l:List Op.Opt) (n:Nat):(dL m a g p c d l n).length=n:=by simp [dL]
theorem gC (m a g:Nat) (p c d:Bool) (l:List Op.Opt) (i:Nat) (h:i<l.length):eO m a g p c d l i=gB m a g p c d (l.take i) l[i]:=by
 unfold eO;rw [List.getElem?_eq_getElem h]
def dx (l:List (Int × Op.Opt)):List Value:=l.flatMap fun v=>[.int .i64 v.1,.int .i64 v.2.kind,.string v.2.data]
theorem mJ (l:List (Int × Op.Opt)):(dx l).length=l.length*3:=by
 induction l with
 | nil=>rfl
 | cons f fs ih=>simp [dx] at ih ⊢;omega
theorem jE (l r:List (Int × Op.Opt)):dx (l ++ r)=dx l ++ dx r:=by simp [dx]
theorem mK (l:List (Int × Op.Opt)) (i:Nat) (v:Int × Op.Opt) (h:l[i]?=some v):(dx l)[i*3]?=some (.int .i64 v.1)∧(dx l)[i*3+1]?=some (.int .i64 v.2.kind)∧(dx l)[i*3+2]?=some (.string v.2.data):=by
 induction l generalizing i with
 | nil=>simp at h
 | cons d fs ih =>
  cases i with
  | zero =>
   simp at h;subst h;exact ⟨rfl,rfl,rfl⟩
  | succ i =>
   have:=ih i (by simpa using h)
   have e:dx (d :: fs)=.int .i64 d.1 :: .int .i64 d.2.kind :: .string d.2.data :: dx fs:=rfl;rw [e,show (i+1)*3=i*3+3 by omega];exact this
theorem pN (b:Bool) (x:Int):gc b x=2∨gc b x=x:=by cases b<;>simp [gc]
theorem ly (a g:Nat) (p c d:Bool) (k:Int) (n:Nat):jk a g p c d k n=2∨jk a g p c d k n=3∨jk a g p c d k n=4:=by
 have h:=fun b x=>pN b x
 unfold jk;split
 ·rcases h (al 64 300 n) 3 with h | h<;>simp [h]
 split
 ·rcases h (((n ||| a:Nat):Int) == (n:Int)) 3 with h | h<;>simp [h]
 split
 ·rcases h ((n:Int) != 0 && (n:Int) != (g:Int)) 3 with h | h<;>simp [h]
 split
 ·rcases h p 4 with h | h<;>simp [h]
 split
 ·rcases h c 4 with h | h<;>simp [h]
 ·rcases h ((n:Int) == 2 || ((n:Int) == 4 && d)) 3 with h | h<;>simp [h]
theorem sj (m a g:Nat) (p c d:Bool) (ha:a<4294967296) (hg:g<4294967296) (k:Int) :
  (∃ s f f2 f3 f4 f5 j bt,bN k=some s∧JudR m a g p c d k s f f2 f3 f4 f5 j (jk a g p c d k) bt (nI m a g k))∨(bN k=none∧Instr.findNow (.int .i64) (.int .i64 k) cI.toList 0=some none):=by
 by_cases h1:k=1
 ·subst h1;exact Or.inl ⟨2,_,_,_,_,_,_,fun _=>m,rfl,⟨rfl,bM (by kernel_rfl),fun n v _=>uE m a g p c d n v,fun n v=>wt m v⟩⟩
 by_cases h2:k=2
 ·subst h2;exact Or.inl ⟨4,_,_,_,_,_,_,fun n=>n ||| a,rfl,⟨rfl,bM (by kernel_rfl),fun n v hn=>uF m a g p c d n v ha hn,fun n v=>pL (n ||| a) v⟩⟩
 by_cases h5:k=5
 ·subst h5;exact Or.inl ⟨4,_,_,_,_,_,_,fun _=>fv g,rfl,⟨rfl,bM (by kernel_rfl),fun n v _=>uG m a g p c d n v hg,fun n v=>pL (fv g) v⟩⟩
 by_cases h7:k=7
 ·subst h7;exact Or.inl ⟨0,_,_,_,_,_,_,fun _=>0,rfl,⟨rfl,bM (by kernel_rfl),fun n v _=>uH m a g p c d n v,fun n v=>se 0 v⟩⟩
 by_cases h8:k=8
 ·subst h8;exact Or.inl ⟨0,_,_,_,_,_,_,fun _=>0,rfl,⟨rfl,bM (by kernel_rfl),fun n v _=>uI m a g p c d n v,fun n v=>se 0 v⟩⟩
 by_cases h9:k=9
 ·subst h9;exact Or.inl ⟨1,_,_,_,_,_,_,fun _=>2,rfl,⟨rfl,bM (by kernel_rfl),fun n v _=>uJ m a g p c d n v,fun n v=>wn 2 v⟩⟩
 ·refine Or.inr ⟨by simp [bN,h1,h2,h5,h7,h8,h9],?_⟩;have e1:(k == 1)=false:=beq_eq_false_iff_ne.2 h1;have e2:(k == 2)=false:=beq_eq_false_iff_ne.2 h2;have e5:(k == 5)=false:=beq_eq_false_iff_ne.2 h5;have e7:(k == 7)=false:=beq_eq_false_iff_ne.2 h7;have e8:(k == 8)=false:=beq_eq_false_iff_ne.2 h8;have e9:(k == 9)=false:=beq_eq_false_iff_ne.2 h9;simp [Instr.findNow,cI,Instr.sameNow,e1,e2,e5,e7,e8,e9]
structure VoS (w:World) (cB M A G:Nat) (C ws cur:Array Value) (q:World):Prop where
 c:q.heap[cB]?=some (.cells C 24)
 m:q.heap[M]?=some (.map cI 6)
 a:q.heap[A]?=some (.cells ws 265)
 g:q.heap[G]?=some (.cells cur 264)
 b:Below w.heap.size w q
theorem VoS.step {w:World} {cB M A G:Nat} {C ws cur:Array Value} {q q':World} (h:VoS w cB M A G C ws cur q) (hb:Below q.heap.size q q'):VoS w cB M A G C ws cur q' :=
 ⟨(hb.block _ (ge.1 h.c).1).trans h.c,(hb.block _ (ge.1 h.m).1).trans h.m,(hb.block _ (ge.1 h.a).1).trans h.a,(hb.block _ (ge.1 h.g).1).trans h.g,h.b.trans (hb.mono h.b.size)⟩
theorem VoS.putG {w:World} {cB M A G:Nat} {C ws cur:Array Value} {q:World} (h:VoS w cB M A G C ws cur q) (n1:cB≠G) (n2:M≠G) (n3:A≠G) (n4:w.heap.size≤G) (i0 i1 i2:Nat) (x0 x1 x2:Value) :
  VoS w cB M A G C ws (((cur.setIfInBounds i0 x0).setIfInBounds i1 x1).setIfInBounds i2 x2) (((q.setCell ⟨G,i0,none⟩ x0).setCell ⟨G,i1,none⟩ x1).setCell ⟨G,i2,none⟩ x2):=by
 refine ⟨?_,?_,?_,zH _ _ _ _ _ _ (zH _ _ _ _ _ _ (zH _ _ _ _ _ _ h.g)),((h.b.setCell (p:=⟨G,i0,none⟩) n4 _).setCell (p:=⟨G,i1,none⟩) n4 _).setCell (p:=⟨G,i2,none⟩) n4 _⟩
 ·rw [Below.heap_setCell _ _ _ _ n1,Below.heap_setCell _ _ _ _ n1,Below.heap_setCell _ _ _ _ n1];exact h.c
 ·rw [Below.heap_setCell _ _ _ _ n2,Below.heap_setCell _ _ _ _ n2,Below.heap_setCell _ _ _ _ n2];exact h.m
 ·rw [Below.heap_setCell _ _ _ _ n3,Below.heap_setCell _ _ _ _ n3,Below.heap_setCell _ _ _ _ n3];exact h.a
theorem VoS.putA {w:World} {cB M A G:Nat} {C ws cur:Array Value} {q:World} (h:VoS w cB M A G C ws cur q) (n1:cB≠A) (n2:M≠A) (n3:G≠A) (n4:w.heap.size≤A) (i:Nat) (x:Value) :
  VoS w cB M A G C (ws.setIfInBounds i x) cur (q.setCell ⟨A,i,none⟩ x):=by
 refine ⟨?_,?_,zH _ _ _ _ _ _ h.a,?_,h.b.setCell (p:=⟨A,i,none⟩) n4 _⟩
 ·rw [Below.heap_setCell _ _ _ _ n1];exact h.c
 ·rw [Below.heap_setCell _ _ _ _ n2];exact h.m
 ·rw [Below.heap_setCell _ _ _ _ n3];exact h.g
def Laid (m a g:Nat) (p c d:Bool) (L:List Op.Opt) (i:Nat) (cur:Array Value):Prop:=cur.size=L.length*3∧∀ j,j<i*3→cur[j]?=(dx (dL m a g p c d L i))[j]?
def Was (L:List Op.Opt) (i:Nat) (ws:Array Value):Prop:=ws.size=256∧∀ k:Nat,k<256→ws[k]?=some (.bool (cQ k (L.take i)))
theorem Laid.put {m a g:Nat} {p c d:Bool} {L:List Op.Opt} {i:Nat} {cur:Array Value} (h:Laid m a g p c d L i cur) (hi:i<L.length) (x:Int) (k:Int) (t:ByteArray) (hv:eO m a g p c d L i=(x,⟨k,t⟩)) :
  Laid m a g p c d L (i+1) (((cur.setIfInBounds (i*3) (.int .i64 x)).setIfInBounds (i*3+1) (.int .i64 k)).setIfInBounds (i*3+2) (.string t)):=by
 obtain ⟨h1,h2⟩:=h;refine ⟨by simp [h1],fun j hj=>?_⟩;have hs:=mJ (dL m a g p c d L i);rw [eq] at hs;rw [fw,hv,jE,Array.getElem?_setIfInBounds,Array.getElem?_setIfInBounds,Array.getElem?_setIfInBounds];by_cases j2:i*3+2=j
 ·subst j2;rw [if_pos rfl,if_pos (by simp [h1];omega),List.getElem?_append_right (by omega),hs,show i*3+2 - i*3=2 by omega];rfl
 ·rw [if_neg j2];by_cases j1:i*3+1=j
  ·subst j1;rw [if_pos rfl,if_pos (by simp [h1];omega),List.getElem?_append_right (by omega),hs,show i*3+1 - i*3=1 by omega];rfl
  ·rw [if_neg j1];by_cases j0:i*3=j
   ·subst j0;rw [if_pos rfl,if_pos (by simp [h1];omega),List.getElem?_append_right (by omega),hs,Nat.sub_self];rfl
   ·rw [if_neg j0,List.getElem?_append_left (by omega)];exact h2 j (by omega)
theorem Was.put {L:List Op.Opt} {i:Nat} {ws:Array Value} (h:Was L i ws) (hi:i<L.length) (k:Nat) (hk:k<256) (hL:L[i].kind=(k:Int)):Was L (i+1) (ws.setIfInBounds k (.bool true)):=by
 obtain ⟨h1,h2⟩:=h;refine ⟨by simp [h1],fun j hj=>?_⟩;rw [Array.getElem?_setIfInBounds,List.take_succ_eq_append_getElem hi];unfold cQ;rw [List.any_append];by_cases e:k=j
 ·subst e;rw [if_pos rfl,if_pos (by omega)];simp [hL]
 ·rw [if_neg e,h2 j hj];have:((k:Int) == (j:Int))=false:=beq_eq_false_iff_ne.2 (by omega)
  simp [cQ,hL,this]
theorem sk:Tryz.zeroCells265=(List.replicate 256 (Value.bool false)).toArray:=by kernel_rfl
theorem pO (L:List Op.Opt):Was L 0 Tryz.zeroCells265:=by
 rw [sk];refine ⟨by rw [List.size_toArray,List.length_replicate],fun k hk=>?_⟩;rw [List.getElem?_toArray,List.getElem?_replicate,if_pos hk];rfl
theorem uL (n:Nat) (hn:n≤20):∃ Mk:Array Value,Mk.size=n*3∧∀ W,(Instr.makeSlice 228 (.int .i64 n) (.int .i64 n)).run prog W=.ok (.slice (some ⟨W.heap.size,0,none⟩) n n) (W.alloc (.cells Mk 264)):=by
 have h:(prog.info? 264).map (fun i=>(i.zero,i.size,i.bytes))=some (some (.agg #[.int .i64 0,.int .i64 0,.string ⟨#[]⟩]),3,32):=by kernel_rfl
 obtain ⟨i,hi,hzz⟩:=Option.map_eq_some_iff.1 h;simp only [Prod.mk.injEq] at hzz;refine ⟨madeCells (Value.agg #[.int .i64 0,.int .i64 0,.string ⟨#[]⟩]).cells (n*3),by rw [size_madeCells],fun W=>?_⟩;have:=run_make (P:=prog) W 228 264 i _ underlying228 hi hzz.1 .i64 .i64 (n:Int) (n:Int) (by omega) (by omega) (by rw [hzz.2.2];omega) (by omega)
 rw [hzz.2.1] at this;simpa using this
def sm (base:Nat) (l:List (Int × Op.Opt)) (v:Value) (q:World):Prop:=∃ G cur,v=.slice (some ⟨G,0,none⟩) l.length l.length∧base≤G∧q.heap[G]?=some (.cells cur 264)∧cur.size=l.length*3∧∀ j,j<l.length*3→cur[j]?=(dx l)[j]?
theorem mL (m a g:Nat) (p c d:Bool) (ha:a<4294967296) (hg:g<4294967296) (k:Nat) (dt:ByteArray) (L:List Op.Opt) (i:Nat) (hv:eO m a g p c d L i=gB m a g p c d (L.take i) ⟨(k:Int),dt⟩) :
  ∃ (x0 x1 x2 x3 x4 x5:Value) (bl:Bool),((∃ s f f2 f3 f4 f5:Nat,x0=.int .i64 s∧x1=cY f∧x2=cY f2∧x3=cY f3∧x4=cY f4∧x5=cY f5)∨(x0=.int .i64 0∧x1=.nilFunc∧x2=.nilFunc∧x3=.nilFunc∧x4=.nilFunc∧x5=.nilFunc))∧(∀ (v:World) (M:Nat),v.heap[M]?=some (.map cI 6)→Calls prog 142 #[.map (some M),.agg #[.int .i64 k,.string dt]] v fun e w'=>e=.returned (.tuple #[.agg #[x0,x1,x2,x3,x4,x5],.bool bl])∧Below v.heap.size v w') ∧
   (bl=false→eO m a g p c d L i=(4,⟨(k:Int),dt⟩))∧(cQ k (L.take i)=true→eO m a g p c d L i=(4,⟨(k:Int),dt⟩)) ∧
   (bl=true→cQ k (L.take i)=false→∃ (x:Int) (t:ByteArray),eO m a g p c d L i=(x,⟨(k:Int),t⟩)∧∀ v,Calls prog 209 #[.agg #[x0,x1,x2,x3,x4,x5],cN m a g p c d,.agg #[.int .i64 k,.string dt]] v fun e w'=>e=.returned (.agg #[.int .i64 x,.int .i64 k,.string t])∧Below v.heap.size v w'):=by
 rw [hv];rcases sj m a g p c d ha hg (k:Int) with ⟨s,f,f2,f3,f4,f5,j,bt,hs,hJ⟩ | ⟨hs,hf⟩
 ·refine ⟨_,_,_,_,_,_,((dt.size:Int) == (s:Int)),Or.inl ⟨s,f,f2,f3,f4,f5,rfl,rfl,rfl,rfl,rfl,rfl⟩,fun v M hM=>gh M k dt s f f2 f3 f4 f5 j v hM hJ.fd,?_,?_,?_⟩
  ·intro hb;have hne:=beq_eq_false_iff_ne.1 hb;unfold gB one;split
   ·rfl
   ·rw [if_neg];dsimp only;rw [hs];intro e;cases e;exact hne rfl
  ·intro hw;unfold gB;rw [if_pos hw]
  ·intro hb hw;have he:dt.size=s:=by have:=eq_of_beq hb;omega
   have h4:=i8 hs;refine ⟨_,_,?_,fun v=>uK m a g p c d k dt s f f2 f3 f4 f5 j _ bt _ v hJ (by omega)⟩;unfold gB one;rw [if_neg (by rw [hw];decide),if_pos (by dsimp only;rw [hs,he])]
 ·refine ⟨_,_,_,_,_,_,false,Or.inr ⟨rfl,rfl,rfl,rfl,rfl,rfl⟩,fun v M hM=>gW M k dt v hM hf,?_,?_,fun hb=>by cases hb⟩
  ·intro _;unfold gB one;split
   ·rfl
   ·rw [if_neg];dsimp only;rw [hs];intro e;cases e
  ·intro hw;unfold gB;rw [if_pos hw]
theorem uM (m a g:Nat) (p c d:Bool) (L:List Op.Opt) (ad:Option Addr) (cp:Nat) (w:World) (ha:a<4294967296) (hg:g<4294967296) (hr:Op.right L=true) (hL:HoldsO w (.slice ad L.length cp) L) :
  Calls prog 165 #[cN m a g p c d,.slice ad L.length cp] w fun e w'=>∃ v,e=.returned v∧sm w.heap.size (dL m a g p c d L L.length) v w'∧Below w.heap.size w w':=by
 have hl20:=Op.right_len hr;obtain ⟨n,hn⟩:∃ n,L.length=n:=⟨_,rfl⟩;rw [hn] at hl20;obtain ⟨Mk,hMs,hmk⟩:=uL n hl20;have HL:Hid (∀ i (hi:i<n),∃ gL,ad=some ⟨gL,0,none⟩∧gL<w.heap.size∧w.cell? ⟨gL,i*2,none⟩=some (.int .i64 (L[i]'(by omega)).kind)∧w.cell? ⟨gL,i*2+1,none⟩=some (.string (L[i]'(by omega)).data)):=by
  refine aa fun i hi=>?_
  rcases hL with ⟨_,_,_,e⟩ | ⟨gL,cp',cur,e,h2,h3,h4⟩
  ·rw [e] at hn;simp at hn;omega
  ·cases e;have q:=bW L i (L[i]'(by omega)) (List.getElem?_eq_getElem (by omega));exact ⟨gL,rfl,(ge.1 h2).1,by rw [cr h2];exact (h4 _ (by omega)).trans q.1,by rw [cr h2];exact (h4 _ (by omega)).trans q.2⟩
 have HK:Hid (∀ i (hi:i<n),∃ k:Nat,(L[i]'(by omega)).kind=(k:Int)∧1≤k∧k≤255∧(L[i]'(by omega)).data.size≤20):=by
  refine aa fun i hi=>?_
  have:=of_decide_eq_true (Op.right_all hr (L[i]'(by omega)) (List.getElem_mem _))
  exact ⟨(L[i]'(by omega)).kind.toNat,by omega,by omega,by omega,this.2.2⟩
 have HJ:=aa fun k dt i hv=>mL m a g p c d ha hg k dt L i hv
 rw [hn];clear hL hr ha hg;go_enter func165,ntmps165
 go_wp2_with fail
 refine (dF _).mono ?_;rintro e w2 ⟨rfl,hm2,hb2⟩;have hs0:(w.alloc (.cells #[.int .i64 m,.int .i64 a,.int .i64 g,.bool p,.bool c,.bool d] 24)).heap.size=w.heap.size+1:=by simp
 rw [hs0] at hm2 hb2;rw [hs0];have hc2:=(hb2.block w.heap.size (by omega)).trans (heap_alloc_last w (.cells #[.int .i64 m,.int .i64 a,.int .i64 g,.bool p,.bool c,.bool d] 24));have hB2:=((zC w.heap.size w).alloc (zD _) (.cells #[.int .i64 m,.int .i64 a,.int .i64 g,.bool p,.bool c,.bool d] 24)).trans (hb2.mono (by omega));have hl2:w.heap.size+1<w2.heap.size:=(ge.1 hm2).1;have HS:Hid (VoS w w.heap.size (w.heap.size+1) w2.heap.size (w2.heap.size+1) #[.int .i64 m,.int .i64 a,.int .i64 g,.bool p,.bool c,.bool d] Tryz.zeroCells265 Mk ((w2.alloc (.cells Tryz.zeroCells265 265)).alloc (.cells Mk 264))):=by
  obtain ⟨e1,e2,e3,e4⟩:=br w2 (.cells Tryz.zeroCells265 265) (.cells Mk 264);exact aa ⟨(e4.block _ (by omega)).trans hc2,(e4.block _ hl2).trans hm2,e2,e3,hB2.trans (e4.mono hB2.size)⟩
 clear hm2 hb2 hs0 hc2 hB2;go_upto_region 4 with fail
 refine ab _ (uh HS) ?_;rintro q0 hq0;have hW0:=pO L;have hL0:Laid m a g p c d L 0 Mk:=⟨by rw [hMs,hn],fun j hj=>by omega⟩;generalize Tryz.zeroCells265=Z at *;generalize w2.heap.size=A at *;have HI:=aa (zA hq0 (zA hW0 hL0));clear HS hmk hMs hq0 hW0 hL0;go_wp2_with fail
 go_loopw [18] (fun y wr=>∃ (i:Nat) (ws cur:Array Value),i≤n∧y=.int .i64 i∧VoS w w.heap.size (w.heap.size+1) A (A+1) #[.int .i64 m,.int .i64 a,.int .i64 g,.bool p,.bool c,.bool d] ws cur wr∧Was L i ws∧Laid m a g p c d L i cur) (fun y _=>n - (intOf y).toNat)
 case atStart=>exact ⟨0,Z,Mk,Nat.zero_le _,rfl,uh HI⟩
 case round =>
  obtain ⟨i,ws,cur,hi,rfl,hV,hW,hD⟩:=hrel;clear HI;by_cases hlt:i<n
  ·have d1:(i:Int)<(n:Int):=by omega
   have hltL:i<L.length:=by omega
   obtain ⟨gL,rfl,hgl,k0,k1⟩:=uh HL i hlt;obtain ⟨k,hk,hk1,hk2,hds⟩:=uh HK i hlt;have HWP:=aa (hW.put hltL k (by omega) hk);have HDP:=aa fun x t hv=>hD.put hltL x (k:Int) t hv
   have HVD:=aa (gC m a g p c d L i hltL);have hwk:=hW.2 k (by omega);obtain ⟨y0,hy0⟩:∃ y0,cur[i*3]?=some y0:=⟨_,Array.getElem?_eq_getElem (by rw [hD.1,hn];omega)⟩;obtain ⟨y1,hy1⟩:∃ y1,cur[i*3+1]?=some y1:=⟨_,Array.getElem?_eq_getElem (by rw [hD.1,hn];omega)⟩;obtain ⟨y2,hy2⟩:∃ y2,cur[i*3+2]?=some y2:=⟨_,Array.getElem?_eq_getElem (by rw [hD.1,hn];omega)⟩;replace k0:=(hV.b.cell (p:=⟨gL,i*2,none⟩) hgl).trans k0;replace k1:=(hV.b.cell (p:=⟨gL,i*2+1,none⟩) hgl).trans k1;rw [hk] at k0;generalize hO:L[i]'(by omega)=o at *;obtain ⟨kd,dt⟩:=o;dsimp only at hk k1 hds;subst hk;have HV:=aa hV;have hlA:A+1<wr.heap.size:=(ge.1 hV.g).1;clear hV hW hD HL HK;go_upto_region 7 with fail
   refine ab (fun q=>VoS w w.heap.size (w.heap.size+1) A (A+1) #[.int .i64 m,.int .i64 a,.int .i64 g,.bool p,.bool c,.bool d] ws cur q∧q.heap[wr.heap.size]?=some (.cells #[.int .i64 k,.string dt] 105))
    ⟨(uh HV).step ((zC _ _).alloc (zD _) _),zF wr _⟩ ?_
   rintro q1 ⟨hV1,hO1⟩;generalize wr.heap.size=N1 at *;have hl1:N1<q1.heap.size:=(ge.1 hO1).1;have HV1:=aa (zA hV1 hO1);obtain ⟨c0,c1,_,_⟩:=av hO1;clear hV1 hO1 HV k0 k1;obtain ⟨x0,x1,x2,x3,x4,x5,bl,hSh,hRule,hNo,hWas,hYes⟩:=uh HJ k dt i (uh HVD);have HF:=aa (zA hNo (zA hWas hYes));clear hNo hWas hYes HVD HJ;go_cut [10,11] (fun u v wx=>∃ N2,u=.pointer (some ⟨N2,0,none⟩)∧v=.bool bl∧VoS w w.heap.size (w.heap.size+1) A (A+1) #[.int .i64 m,.int .i64 a,.int .i64 g,.bool p,.bool c,.bool d] ws cur wx∧wx.heap[N1]?=some (.cells #[.int .i64 k,.string dt] 105)∧wx.heap[N2]?=some (.cells #[x0,x1,x2,x3,x4,x5] 191))
   case first =>
    rcases hSh with ⟨s,f,f2,f3,f4,f5,rfl,rfl,rfl,rfl,rfl,rfl⟩ | ⟨rfl,rfl,rfl,rfl,rfl,rfl⟩
    all_goals
     go_wp2_with fail
     refine (hRule _ _ (uh HV1).1.m).mono ?_;rintro e w3 ⟨rfl,hb3⟩;have HV3:=aa (zA ((uh HV1).1.step hb3) ((hb3.block N1 hl1).trans (uh HV1).2));have hl3:N1<w3.heap.size:=Nat.lt_of_lt_of_le hl1 hb3.size;clear hb3 HV1 hl1 hRule c0 c1;go_wp2_with fail
     go_meet;exact ⟨_,rfl,rfl,(uh HV3).1.step ((zC _ _).alloc (zD _) _),(zG _ _ _ hl3).trans (uh HV3).2,zF w3 _⟩
   case rest =>
   obtain ⟨N2,hu10,hu11,hV4,hO4,hR4⟩:=hcut;subst hu10 hu11;clear hSh hRule HV1 c0 c1 hl1;have HV4:=aa (zA hV4 (zA hO4 hR4));obtain ⟨c0,c1,_,_⟩:=av hO4;obtain ⟨r0,r1,r2,r3,r4,r5⟩:=aJ hR4;obtain ⟨b0,b1,b2,b3,b4,b5⟩:=aJ hV4.c;have a0:wc.cell? ⟨A,k,none⟩=some (.bool (cQ k (L.take i))):=by rw [cr hV4.a];exact hwk
   clear hV4 hO4 hR4;have hk3:(k:Int)<256:=by omega
   have hk0:(0:Int)≤(k:Int):=by omega
   generalize hwb:cQ k (L.take i)=wb at *;cases bl
   ·have HVV:=(uh HF).1 rfl;have HD:=aa (uh HDP 4 dt HVV);clear HF HDP HVV;go_wp2_with fail
    refine (iB k dt _ hds).mono ?_;rintro e w5 ⟨rfl,hb5⟩;have h5:=(uh HV4).1.step hb5;have hO5:=(hb5.block N1 (ge.1 (uh HV4).2.1).1).trans (uh HV4).2.1;have g0:w5.cell? ⟨A+1,i*3,none⟩=some y0:=by rw [cr h5.g];exact hy0
    have g1:w5.cell? ⟨A+1,i*3+1,none⟩=some y1:=by rw [cr h5.g];exact hy1
    have g2:w5.cell? ⟨A+1,i*3+2,none⟩=some y2:=by rw [cr h5.g];exact hy2
    have f0:=aX h5.g (i*3);have f1:=aX h5.g (i*3+1);have f2:=aX h5.g (i*3+2);have HV5:=aa (zA h5 hO5);clear h5 hO5 hb5 HV4 c0 c1 r0 r1 r2 r3 r4 r5 b0 b1 b2 b3 b4 b5 a0 hwk hy0 hy1 hy2;go_upto_region 11 with fail
    refine ab (fun q=>VoS w w.heap.size (w.heap.size+1) A (A+1) #[.int .i64 m,.int .i64 a,.int .i64 g,.bool p,.bool c,.bool d] ws (((cur.setIfInBounds (i*3) (.int .i64 4)).setIfInBounds (i*3+1) (.int .i64 k)).setIfInBounds (i*3+2) (.string dt)) q∧q.heap[N1]?=some (.cells #[.int .i64 k,.string dt] 105))
     ⟨(uh HV5).1.putG (by omega) (by omega) (by omega) (by omega) _ _ _ _ _ _,by
      rw [Below.heap_setCell _ _ _ _ (by simp;omega),Below.heap_setCell _ _ _ _ (by simp;omega),Below.heap_setCell _ _ _ _ (by simp;omega)];exact (uh HV5).2⟩ ?_
    rintro q6 ⟨hV6,hO6⟩;obtain ⟨c0,c1,_,_⟩:=av hO6;obtain ⟨y3,hy3⟩:∃ y3,ws[k]?=some y3:=⟨_,Array.getElem?_eq_getElem (by have:=(uh HWP).1;simp at this;omega)⟩;have a0:q6.cell? ⟨A,k,none⟩=some y3:=by rw [cr hV6.a];exact hy3
    have fa:=aX hV6.a k;have HV6:=aa (hV6.putA (by omega) (by omega) (by omega) (by omega) k (.bool true));clear hV6 hO6 HV5 g0 g1 g2 f0 f1 f2 hy3;go_wp2_with fail
    go_roundw
    case rel=>exact ⟨i+1,_,_,by omega,by go_num,uh HV6,uh HWP,uh HD⟩
    case measure=>simp [intOf];omega
   ·cases wb
    ·obtain ⟨x,t',hv,hC⟩:=(uh HF).2.2 rfl rfl;have HD:=aa (uh HDP x t' hv);have HC:=aa hC;clear HF HDP hv hC;go_wp2_with fail
     refine (uh HC _).mono ?_;rintro e w5 ⟨rfl,hb5⟩;have h5:=(uh HV4).1.step hb5;have hO5:=(hb5.block N1 (ge.1 (uh HV4).2.1).1).trans (uh HV4).2.1;have g0:w5.cell? ⟨A+1,i*3,none⟩=some y0:=by rw [cr h5.g];exact hy0
     have g1:w5.cell? ⟨A+1,i*3+1,none⟩=some y1:=by rw [cr h5.g];exact hy1
     have g2:w5.cell? ⟨A+1,i*3+2,none⟩=some y2:=by rw [cr h5.g];exact hy2
     have f0:=aX h5.g (i*3);have f1:=aX h5.g (i*3+1);have f2:=aX h5.g (i*3+2);have HV5:=aa (zA h5 hO5);clear h5 hO5 hb5 HV4 c0 c1 r0 r1 r2 r3 r4 r5 b0 b1 b2 b3 b4 b5 a0 hwk hy0 hy1 hy2;go_upto_region 11 with fail
     refine ab (fun q=>VoS w w.heap.size (w.heap.size+1) A (A+1) #[.int .i64 m,.int .i64 a,.int .i64 g,.bool p,.bool c,.bool d] ws (((cur.setIfInBounds (i*3) (.int .i64 x)).setIfInBounds (i*3+1) (.int .i64 k)).setIfInBounds (i*3+2) (.string t')) q∧q.heap[N1]?=some (.cells #[.int .i64 k,.string dt] 105))
      ⟨(uh HV5).1.putG (by omega) (by omega) (by omega) (by omega) _ _ _ _ _ _,by
       rw [Below.heap_setCell _ _ _ _ (by simp;omega),Below.heap_setCell _ _ _ _ (by simp;omega),Below.heap_setCell _ _ _ _ (by simp;omega)];exact (uh HV5).2⟩ ?_
     rintro q6 ⟨hV6,hO6⟩;obtain ⟨c0,c1,_,_⟩:=av hO6;obtain ⟨y3,hy3⟩:∃ y3,ws[k]?=some y3:=⟨_,Array.getElem?_eq_getElem (by have:=(uh HWP).1;simp at this;omega)⟩;have a0:q6.cell? ⟨A,k,none⟩=some y3:=by rw [cr hV6.a];exact hy3
     have fa:=aX hV6.a k;have HV6:=aa (hV6.putA (by omega) (by omega) (by omega) (by omega) k (.bool true));clear hV6 hO6 HV5 g0 g1 g2 f0 f1 f2 hy3;go_wp2_with fail
     go_roundw
     case rel=>exact ⟨i+1,_,_,by omega,by go_num,uh HV6,uh HWP,uh HD⟩
     case measure=>simp [intOf];omega
    ·have HVV:=(uh HF).2.1 rfl;have HD:=aa (uh HDP 4 dt HVV);clear HF HDP HVV;go_wp2_with fail
     refine (iB k dt _ hds).mono ?_;rintro e w5 ⟨rfl,hb5⟩;have h5:=(uh HV4).1.step hb5;have hO5:=(hb5.block N1 (ge.1 (uh HV4).2.1).1).trans (uh HV4).2.1;have g0:w5.cell? ⟨A+1,i*3,none⟩=some y0:=by rw [cr h5.g];exact hy0
     have g1:w5.cell? ⟨A+1,i*3+1,none⟩=some y1:=by rw [cr h5.g];exact hy1
     have g2:w5.cell? ⟨A+1,i*3+2,none⟩=some y2:=by rw [cr h5.g];exact hy2
     have f0:=aX h5.g (i*3);have f1:=aX h5.g (i*3+1);have f2:=aX h5.g (i*3+2);have HV5:=aa (zA h5 hO5);clear h5 hO5 hb5 HV4 c0 c1 r0 r1 r2 r3 r4 r5 b0 b1 b2 b3 b4 b5 a0 hwk hy0 hy1 hy2;go_upto_region 11 with fail
     refine ab (fun q=>VoS w w.heap.size (w.heap.size+1) A (A+1) #[.int .i64 m,.int .i64 a,.int .i64 g,.bool p,.bool c,.bool d] ws (((cur.setIfInBounds (i*3) (.int .i64 4)).setIfInBounds (i*3+1) (.int .i64 k)).setIfInBounds (i*3+2) (.string dt)) q∧q.heap[N1]?=some (.cells #[.int .i64 k,.string dt] 105))
      ⟨(uh HV5).1.putG (by omega) (by omega) (by omega) (by omega) _ _ _ _ _ _,by
       rw [Below.heap_setCell _ _ _ _ (by simp;omega),Below.heap_setCell _ _ _ _ (by simp;omega),Below.heap_setCell _ _ _ _ (by simp;omega)];exact (uh HV5).2⟩ ?_
     rintro q6 ⟨hV6,hO6⟩;obtain ⟨c0,c1,_,_⟩:=av hO6;obtain ⟨y3,hy3⟩:∃ y3,ws[k]?=some y3:=⟨_,Array.getElem?_eq_getElem (by have:=(uh HWP).1;simp at this;omega)⟩;have a0:q6.cell? ⟨A,k,none⟩=some y3:=by rw [cr hV6.a];exact hy3
     have fa:=aX hV6.a k;have HV6:=aa (hV6.putA (by omega) (by omega) (by omega) (by omega) k (.bool true));clear hV6 hO6 HV5 g0 g1 g2 f0 f1 f2 hy3;go_wp2_with fail
     go_roundw
     case rel=>exact ⟨i+1,_,_,by omega,by go_num,uh HV6,uh HWP,uh HD⟩
     case measure=>simp [intOf];omega
  ·have e:i=n:=by omega
   subst e;have d1:¬ ((i:Int)<(i:Int)):=by omega
   have hlA:=hl2;go_wp2
   go_ret
   exact ⟨_,rfl,⟨A+1,cur,by rw [eq];rfl,by omega,hV.g,by rw [eq,hD.1,hn],fun j hj=>hD.2 j (by rw [eq] at hj;exact hj)⟩,hV.b⟩
def mx (l:List (Int × Op.Opt)):Int:=l.foldl (fun m v=>max m v.1) 2
def fl (x:Int) (l:List (Int × Op.Opt)):List Op.Opt:=(l.filter fun v=>v.1 == x).map fun v=>v.2
theorem sq (l:List (Int × Op.Opt)) (v:Int × Op.Opt):mx (l ++ [v])=max (mx l) v.1:=by unfold mx;rw [List.foldl_append];rfl
theorem iC (x:Int) (l:List (Int × Op.Opt)) (v:Int × Op.Opt):fl x (l ++ [v])=fl x l ++ if v.1 == x then [v.2] else []:=by
  unfold fl;rw [List.filter_append,List.map_append];congr 1
  cases h:(v.1 == x)<;>simp [h]
theorem kl (x:Int) (l:List (Int × Op.Opt)):(fl x l).length≤l.length:=by
  unfold fl;rw [List.length_map];exact List.length_filter_le _ _
theorem uN:(prog.info? 97).map (·.size)=some 2:=by kernel_rfl
theorem dM {W:World} {E:Nat} {x0 x1:Value} (h:W.heap[E]?=some (.cells #[x0,x1] 97)):(loadVar 97 ⟨E,0,none⟩).run prog W=.ok (.agg #[x0,x1]) W :=
  run_loadVar_row (P:=prog) _ _ 97 97 #[x0,x1] (0,0) _ h underlying97 rfl uN
structure AnS (w:World) (x:Int) (v:Value) (q:World):Prop where
  r:q.heap[w.heap.size]?=some (.cells #[.int .i64 0,.slice none 0 0] 97)
  a:q.heap[w.heap.size+1]?=some (.cells #[.int .i64 x,v] 97)
  b:Below w.heap.size w q
theorem AnS.lt {w:World} {x:Int} {v:Value} {q:World} (h:AnS w x v q):w.heap.size+1<q.heap.size:=(ge.1 h.a).1
theorem AnS.step {w:World} {x:Int} {v:Value} {q q':World} {N:Nat} (h:AnS w x v q) (hb:Below N q q') (hN:w.heap.size+1<N):AnS w x v q' :=
  ⟨(hb.block _ (by omega)).trans h.r,(hb.block _ (by omega)).trans h.a,h.b.trans (hb.mono (by omega))⟩
theorem AnS.put0 {w:World} {x:Int} {v:Value} {q:World} (h:AnS w x v q) (y:Int):AnS w y v (q.setCell ⟨w.heap.size+1,0,none⟩ (.int .i64 y)) :=
  ⟨by rw [Below.heap_setCell _ _ _ _ (by simp)];exact h.r,zH _ _ 0 _ _ _ h.a,h.b.setCell (p:=⟨w.heap.size+1,0,none⟩) (Nat.le_succ _) _⟩
theorem AnS.put1 {w:World} {x:Int} {v:Value} {q:World} (h:AnS w x v q) (y:Value):AnS w x y (q.setCell ⟨w.heap.size+1,1,none⟩ y) :=
  ⟨by rw [Below.heap_setCell _ _ _ _ (by simp)];exact h.r,zH _ _ 1 _ _ _ h.a,h.b.setCell (p:=⟨w.heap.size+1,1,none⟩) (Nat.le_succ _) _⟩
theorem oD (V:List (Int × Op.Opt)) (v:Value) (w:World) (hN:V.length≤20) (hv:sm 0 V v w) :
    Calls prog 164 #[v] w fun e w'=>∃ ad cp,e=.returned (.agg #[.int .i64 (mx V),.slice ad (fl (mx V) V).length cp])∧w'.ownsRow w.heap.size 105 2 (.slice ad (fl (mx V) V).length cp) (fl (mx V) V).length (aj (fl (mx V) V))∧Below w.heap.size w w':=by
  obtain ⟨G,cur,rfl,_,hg,hcs,hcu⟩:=hv;have hgl:G<w.heap.size:=(ge.1 hg).1;obtain ⟨n,hn⟩:∃ n,V.length=n:=⟨_,rfl⟩;have HL:Hid (∀ i (hi:i<n) (q:World),Below w.heap.size w q→q.cell? ⟨G,i*3,none⟩=some (.int .i64 (V[i]'(by omega)).1)∧q.cell? ⟨G,i*3+1,none⟩=some (.int .i64 (V[i]'(by omega)).2.kind)∧q.cell? ⟨G,i*3+2,none⟩=some (.string (V[i]'(by omega)).2.data)):=by
    refine aa fun i hi q hb=>?_
    have e:=(hb.block G hgl).trans hg;have h3:=mK V i (V[i]'(by omega)) (List.getElem?_eq_getElem (by omega));exact ⟨by rw [cr e];exact (hcu _ (by omega)).trans h3.1,by rw [cr e];exact (hcu _ (by omega)).trans h3.2.1,by rw [cr e];exact (hcu _ (by omega)).trans h3.2.2⟩
  have HT:Hid (∀ i (hi:i<n),V.take (i+1)=V.take i ++ [V[i]'(by omega)]):=aa fun i hi=>List.take_succ_eq_append_getElem (by omega)
  have HA:Hid (V.take n=V):=aa (by rw [← hn];exact List.take_length);obtain ⟨X,hX⟩:∃ X,mx V=X:=⟨_,rfl⟩;have HX:=aa hX;rw [hn] at hN;rw [hn,hX];clear hX;obtain ⟨hs,q0,q1,hb0⟩:=br w (.cells #[.int .i64 0,.slice none 0 0] 97) (.cells #[.int .i64 2,.slice none 0 0] 97);have HQ:Hid (AnS w 2 (.slice none 0 0) ((w.alloc (.cells #[.int .i64 0,.slice none 0 0] 97)).alloc (.cells #[.int .i64 2,.slice none 0 0] 97))):=aa ⟨q0,q1,hb0⟩;clear hs q0 q1 hb0 hg hcs hcu hgl;go_enter func164,ntmps164
  go_upto_region 2 with fail
  refine ab _ (uh HQ) ?_;clear HQ;rintro q0 hq0;go_wp2_with fail
  go_loopw [11] (fun y wr=>∃ (i:Nat),i≤n∧y=.int .i64 i∧AnS w (mx (V.take i)) (.slice none 0 0) wr) (fun y _=>n - (intOf y).toNat)
  case atStart=>exact ⟨0,Nat.zero_le _,rfl,hq0⟩
  case round =>
    obtain ⟨i,hi,rfl,hS⟩:=hrel;clear hq0;by_cases hlt:i<n
    · have d1:(i:Int)<(n:Int):=by omega
      obtain ⟨k0,k1,k2⟩:=uh HL i hlt wr hS.b;have HM:=aa ((congrArg mx (uh HT i hlt)).trans (sq _ _));generalize V[i]'(by omega)=o at *;obtain ⟨x,kd,dt⟩:=o;dsimp only at k0 k1 k2;go_upto_region 5 with fail
      refine ab (fun q=>AnS w (mx (V.take i)) (.slice none 0 0) q∧q.heap[wr.heap.size]?=some (.cells #[.int .i64 x,.int .i64 kd,.string dt] 264))
        ⟨hS.step ((zC _ _).alloc (zD _) _) hS.lt,zF wr _⟩ ?_
      rintro q1 ⟨hS1,hv1⟩;generalize wr.heap.size=N1 at *;obtain ⟨a0,a1,f0,f1⟩:=av hS1.a;obtain ⟨v0,v1,v2,_,_,_⟩:=jj hv1;have HS1:=aa hS1;clear hS hS1 hv1 k0 k1 k2;generalize hm:mx (V.take i)=y at *;go_wp2_with fail
      all_goals
        go_roundw
        case rel =>
          refine ⟨i+1,by omega,by go_num,?_⟩;rw [uh HM];dsimp only;exact (uh HS1).put0 _
        case measure=>simp [intOf];omega
    · have e:i=n:=by omega
      subst e;have d1:¬ ((i:Int)<(i:Int)):=by omega
      rw [uh HA,uh HX] at hS;go_wp2_with fail
      go_loopw [24] (fun y wq=>∃ (j:Nat) (ad:Option Addr) (cp:Nat),j≤i∧y=.int .i64 j∧AnS w X (.slice ad (fl X (V.take j)).length cp) wq∧wq.ownsRow (w.heap.size+1+1) 105 2 (.slice ad (fl X (V.take j)).length cp) (fl X (V.take j)).length (aj (fl X (V.take j)))) (fun y _=>i - (intOf y).toNat)
      case atStart=>exact ⟨0,none,0,Nat.zero_le _,rfl,hS,⟨rfl,Or.inl ⟨rfl,rfl⟩⟩⟩
      case round =>
        obtain ⟨j,ad,cp,hj,rfl,hQ,ho⟩:=hrel;clear hS;by_cases hlj:j<i
        · have d2:(j:Int)<(i:Int):=by omega
          obtain ⟨k0,k1,k2⟩:=uh HL j hlj wr hQ.b;have HM:=aa ((congrArg (fl X) (uh HT j hlj)).trans (iC X _ _));have hln:(fl X (V.take j)).length≤20:=zE (kl _ _) (by rw [List.length_take];omega);generalize V[j]'(by omega)=o at *;obtain ⟨x,kd,dt⟩:=o;dsimp only at k0 k1 k2;generalize fl X (V.take j)=F at *;have hwl:=hQ.lt;go_upto_region 10 with fail
          refine ab (fun q=>AnS w X (.slice ad F.length cp) q∧q.heap[wr.heap.size]?=some (.cells #[.int .i64 x,.int .i64 kd,.string dt] 264)∧q.ownsRow (w.heap.size+1+1) 105 2 (.slice ad F.length cp) F.length (aj F))
            ⟨hQ.step ((zC _ _).alloc (zD _) _) hQ.lt,zF wr _,ho.alloc _⟩ ?_
          rintro q1 ⟨hS1,hv1,ho1⟩;generalize wr.heap.size=N1 at *;obtain ⟨a0,a1,f0,f1⟩:=av hS1.a;obtain ⟨v0,v1,v2,_,_,_⟩:=jj hv1;have hs1:=hS1.lt;have HS1:=aa (zA hS1 ho1);clear hQ hS1 hv1 k0 k1 k2 ho ho1;cases hx:(x == X)
          · rw [hx] at HM
            go_wp2_with fail
            go_roundw
            case rel =>
              refine ⟨j+1,ad,cp,by omega,by go_num,?_,?_⟩
              · rw [uh HM,if_neg (by decide),List.append_nil]
                exact (uh HS1).1
              · rw [uh HM,if_neg (by decide),List.append_nil]
                exact (uh HS1).2
            case measure=>simp [intOf];omega
          · rw [hx] at HM
            go_wp2_with (first
              | (at_builtin;refine cD rfl _ _ rfl (w.heap.size+1+1) (.slice ad F.length cp) F F.length rfl rfl (uh HS1).2 kd dt rfl (by omega) hs1 ?_;rintro v6 w6 ho6 hg6;obtain ⟨a6,c6,rfl⟩:=af ho6
                 have hb6:Below (w.heap.size+1+1) q1 w6:=((zC _ _).alloc (by omega) _).grown hg6 (by simp;omega) (fun q hq=>(World.ownsRow.lt (uh HS1).2 q hq).1);have hS6:=(uh HS1).1.step hb6 (Nat.lt_succ_self _);obtain ⟨a0,a1,f0,f1⟩:=av hS6.a;have HS6:=aa (zA hS6 ho6);clear hS6 ho6 hg6 hb6))
            go_roundw
            case rel =>
              have hl1:F.length+1=(F ++ [Op.Opt.mk kd dt]).length:=by rw [List.length_append];rfl
              refine ⟨j+1,a6,c6,by omega,by go_num,?_,?_⟩
              · rw [uh HM,if_pos rfl,← hl1]
                exact (uh HS6).1.put1 _
              · rw [uh HM,if_pos rfl,← hl1]
                exact aY (uh HS6).2 fun q hq _=>Below.heap_setCell _ _ _ _ (by simp;omega)
            case measure=>simp [intOf];omega
        · have e:j=i:=by omega
          subst e;have d2:¬ ((j:Int)<(j:Int)):=by omega
          rw [uh HA] at hQ ho;obtain ⟨a0,a1,_,_⟩:=av hQ.a;obtain ⟨r0,r1,f0,f1⟩:=av hQ.r;have HQ:=aa hQ;have HO:=aa ho;clear hQ ho;go_wp2
          refine bodyPost_ret (v:=.agg #[.int .i64 X,.slice ad (fl X V).length cp]) (by simp [results,results164,asAddr,dM (aM (uh HQ).r (.int .i64 X) (.slice ad (fl X V).length cp))]) rfl ⟨ad,cp,rfl,?_,?_⟩
          · refine dy (aY (uh HO) fun q hq _=>?_) (by omega)
            rw [Below.heap_setCell _ _ _ _ (by simp;omega),Below.heap_setCell _ _ _ _ (by simp;omega)]
          · exact ((uh HQ).b.setCell (p:=⟨w.heap.size,0,none⟩) (zD _) _).setCell (p:=⟨w.heap.size,1,none⟩) (zD _) _
def b_ (m a g:Nat) (p c d:Bool) (L:List Op.Opt):List (Int × Op.Opt):=dL m a g p c d L L.length
theorem pP {m a g:Nat} (h:aK m a g=true):a<4294967296∧g<4294967296:=by
 simp only [aK,al,Bool.and_eq_true,decide_eq_true_eq] at h;omega
theorem oE (m a g:Int) (p c d:Bool) (L:List Op.Opt) (v:Value) (w:World) (hm:L.length≤maxLen) (hL:HoldsO w v L) (h:aK m a g=false∨Op.right L=false) :
  Calls prog 149 #[cN m a g p c d,v] w fun e w'=>e=.returned (.agg #[.int .i64 0,.slice none 0 0])∧Below w.heap.size w w':=by
 have C1:=aa fun q=>dm m a g p c d q
 obtain ⟨hs,q0,q1,hb0⟩:=br w (.cells #[.int .i64 m,.int .i64 a,.int .i64 g,.bool p,.bool c,.bool d] 24) (.cells #[.int .i64 0,.slice none 0 0] 97);have HQ:=aa (zA hs (zA q0 (zA q1 hb0)));have C2:=aa fun q (hq:Below w.heap.size w q)=>cq v L q hm (hL.below hq rfl)
 obtain ⟨ad,cp,rfl⟩:=hL.form;generalize L.length=n at *;clear hs q0 q1 hb0 hL;by_cases hc:aK m a g=true
 ·have hr:Op.right L=false:=by
   rcases h with h | h
   ·rw [hc] at h;cases h
   ·exact h
  rw [hc] at C1;rw [hr] at C2;go_enter func149,ntmps149
  go_wp2_with fail
  refine (uh C1 _).mono ?_;rintro e w1 ⟨rfl,hb1⟩;have hB1:=(uh HQ).2.2.2.trans (hb1.mono (by rw [(uh HQ).1];omega));have hr1:=(hb1.block (w.heap.size+1) (by rw [(uh HQ).1];omega)).trans (uh HQ).2.2.1;have H1:=aa (zA hB1 hr1);clear hB1 hr1 hb1 HQ;go_wp2_with fail
  refine (uh C2 _ (uh H1).1).mono ?_;rintro e w2 ⟨rfl,hb2⟩;have hB2:=(uh H1).1.trans (hb2.mono (uh H1).1.size);have hr2:=(hb2.block (w.heap.size+1) (ge.1 (uh H1).2).1).trans (uh H1).2;obtain ⟨c0,c1,f0,f1⟩:=av hr2;have H2:=aa (zA hB2 hr2);clear hB2 hr2 hb2 H1;go_wp2
  refine bodyPost_ret (v:=.agg #[.int .i64 0,.slice none 0 0]) (by simp [results,results149,asAddr,dM (aM (uh H2).2 (.int .i64 0) (.slice none 0 0))]) rfl ⟨rfl,?_⟩;exact ((uh H2).1.setCell (p:=⟨w.heap.size+1,0,none⟩) (Nat.le_succ _) _).setCell (p:=⟨w.heap.size+1,1,none⟩) (Nat.le_succ _) _
 ·rw [Bool.not_eq_true] at hc;rw [hc] at C1;clear C2;go_enter func149,ntmps149
  go_wp2_with fail
  refine (uh C1 _).mono ?_;rintro e w1 ⟨rfl,hb1⟩;have hB2:=(uh HQ).2.2.2.trans (hb1.mono (by rw [(uh HQ).1];omega));have hr2:=(hb1.block (w.heap.size+1) (by rw [(uh HQ).1];omega)).trans (uh HQ).2.2.1;obtain ⟨c0,c1,f0,f1⟩:=av hr2;have H2:=aa (zA hB2 hr2);clear hB2 hr2 hb1 HQ;go_wp2
  refine bodyPost_ret (v:=.agg #[.int .i64 0,.slice none 0 0]) (by simp [results,results149,asAddr,dM (aM (uh H2).2 (.int .i64 0) (.slice none 0 0))]) rfl ⟨rfl,?_⟩;exact ((uh H2).1.setCell (p:=⟨w.heap.size+1,0,none⟩) (Nat.le_succ _) _).setCell (p:=⟨w.heap.size+1,1,none⟩) (Nat.le_succ _) _
theorem mN (m a g:Nat) (p c d:Bool) (L:List Op.Opt) (v:Value) (w:World) (hL:HoldsO w v L) (hc:aK m a g=true) (hr:Op.right L=true) :
  Calls prog 149 #[cN m a g p c d,v] w fun e w'=>∃ ad cp,e=.returned (.agg #[.int .i64 (mx (b_ m a g p c d L)),.slice ad (fl (mx (b_ m a g p c d L)) (b_ m a g p c d L)).length cp])∧w'.ownsRow w.heap.size 105 2 (.slice ad (fl (mx (b_ m a g p c d L)) (b_ m a g p c d L)).length cp) (fl (mx (b_ m a g p c d L)) (b_ m a g p c d L)).length (aj (fl (mx (b_ m a g p c d L)) (b_ m a g p c d L)))∧Below w.heap.size w w':=by
 have hl20:=Op.right_len hr;have hm:L.length≤maxLen:=by unfold maxLen;omega
 obtain ⟨ha,hg⟩:=pP hc;have C1:=aa fun q=>dm m a g p c d q
 obtain ⟨hs,q0,q1,hb0⟩:=br w (.cells #[.int .i64 m,.int .i64 a,.int .i64 g,.bool p,.bool c,.bool d] 24) (.cells #[.int .i64 0,.slice none 0 0] 97);have HQ:=aa (zA hs (zA q0 (zA q1 hb0)));have C2:=aa fun q (hq:Below w.heap.size w q)=>cq v L q hm (hL.below hq rfl)
 obtain ⟨ad,cp,rfl⟩:=hL.form;have C3:=aa fun q (hq:Below w.heap.size w q)=>uM m a g p c d L ad cp q ha hg hr (hL.below hq rfl)
 have hVl:(b_ m a g p c d L).length=L.length:=eq _ _ _ _ _ _ _ _;change Hid (∀ q,Below w.heap.size w q→Calls _ _ _ q fun e w'=>∃ v,e=.returned v∧sm q.heap.size (b_ m a g p c d L) v w'∧Below q.heap.size q w') at C3
 generalize b_ m a g p c d L=V at *;have C4:=aa fun v q hv=>oD V v q (by omega) hv
 clear hVl;rw [hc] at C1;rw [hr] at C2;generalize L.length=n at *;generalize mx V=X at *;generalize fl X V=F at *;clear hs q0 q1 hb0 hL;go_enter func149,ntmps149
 go_wp2_with fail
 refine (uh C1 _).mono ?_;rintro e w1 ⟨rfl,hb1⟩;have hB1:=(uh HQ).2.2.2.trans (hb1.mono (by rw [(uh HQ).1];omega));have hr1:=(hb1.block (w.heap.size+1) (by rw [(uh HQ).1];omega)).trans (uh HQ).2.2.1;have hc1:=(hb1.block w.heap.size (by rw [(uh HQ).1];omega)).trans (uh HQ).2.1;have H1:=aa (zA hB1 (zA hr1 hc1));clear hB1 hr1 hb1 HQ hc1 C1;go_wp2_with fail
 refine (uh C2 _ (uh H1).1).mono ?_;rintro e w2 ⟨rfl,hb2⟩;have hB2:=(uh H1).1.trans (hb2.mono (uh H1).1.size);have hr2:=(hb2.block (w.heap.size+1) (ge.1 (uh H1).2.1).1).trans (uh H1).2.1;have hc2:=(hb2.block w.heap.size (ge.1 (uh H1).2.2).1).trans (uh H1).2.2;obtain ⟨b0,b1,b2,b3,b4,b5⟩:=aJ hc2;have H2:=aa (zA hB2 hr2);clear hB2 hr2 hb2 H1 hc2 C2;go_wp2_with fail
 refine (uh C3 _ (uh H2).1).mono ?_;rintro e w3 ⟨v3,rfl,hv3,hb3⟩;have hB3:=(uh H2).1.trans (hb3.mono (uh H2).1.size);have hr3:=(hb3.block (w.heap.size+1) (ge.1 (uh H2).2).1).trans (uh H2).2;have H3:=aa (zA hB3 hr3);have HV3:Hid (sm 0 V v3 w3):=aa (by obtain ⟨G,cur,e1,e2,e3⟩:=hv3;exact ⟨G,cur,e1,Nat.zero_le _,e3⟩);obtain ⟨G,cur,rfl,_,_⟩:=hv3;clear hB3 hr3 hb3 H2 C3 b0 b1 b2 b3 b4 b5;go_wp2_with fail
 refine (uh C4 _ _ (uh HV3)).mono ?_;rintro e w4 ⟨ad4,cp4,rfl,ho4,hb4⟩;have hB4:=(uh H3).1.trans (hb4.mono (uh H3).1.size);have hl3:w.heap.size+1<w3.heap.size:=(ge.1 (uh H3).2).1;have hr4:=(hb4.block (w.heap.size+1) hl3).trans (uh H3).2;obtain ⟨c0,c1,f0,f1⟩:=av hr4;have H4:=aa (zA hB4 (zA hr4 ho4));clear hB4 hr4 hb4 H3 ho4 C4 HV3;go_wp2
 refine bodyPost_ret (v:=.agg #[.int .i64 X,.slice ad4 F.length cp4]) (by simp [results,results149,asAddr,dM (aM (uh H4).2.1 (.int .i64 X) (.slice ad4 F.length cp4))]) rfl ⟨ad4,cp4,rfl,?_,?_⟩
 ·refine dy (aY (uh H4).2.2 fun q hq _=>?_) (by omega);rw [Below.heap_setCell _ _ _ _ (by simp;omega),Below.heap_setCell _ _ _ _ (by simp;omega)]
 ·exact ((uh H4).1.setCell (p:=⟨w.heap.size+1,0,none⟩) (Nat.le_succ _) _).setCell (p:=⟨w.heap.size+1,1,none⟩) (Nat.le_succ _) _
structure St where
 e:En
 F1:List Op.Opt
 F2:List Op.Opt
 sn:List Op.Pk
 tl:List ByteArray
structure Cx where
 now:Int
 cc:Int
 ci:Int
 cd:ByteArray
 hd:List Op.Opt
 ac:Int
 ao:List Op.Opt
 vh:Value
 va:Value
abbrev lF (c:Cx) (e:En) (v1 v2 vs vt:Value):List Value:=[.int .i64 e.m1,.int .i64 e.a1,.int .i64 e.g1,.bool e.p1,.bool e.c1,.bool e.d1,.int .i64 e.m2,.int .i64 e.a2,.int .i64 e.g2,.bool e.p2,.bool e.c2,.bool e.d2,.int .i64 e.st,.int .i64 e.tr,.int .i64 e.du,.int .i64 e.id,.int .i64 e.fl,v1,v2,.bool e.up,.int .i64 e.i1,.int .i64 e.i2,.bool e.i3,.bool e.i4,.bool e.i5,.int .i64 e.o1,.int .i64 e.o2,.bool e.o3,.bool e.o4,.bool e.o5,.int .i64 c.now,.int .i64 c.cc,.int .i64 c.ci,.string c.cd,c.vh,.int .i64 c.ac,c.va,vs,vt]
def Ap (v v':Value):Prop:=∀ g,v.ownBlock=some g→v'.ownBlock≠some g
theorem Ap.symm {v v':Value} (h:Ap v v'):Ap v' v:=fun g hg e=>h g e hg
theorem Ap.none (v:Value) (n m:Nat):Ap (.slice none n m) v:=fun g hg=>by cases hg
def Tt (T:TypeId):Prop:=T≠105∧T≠85∧T≠9
structure Lay (T:TypeId) (w0 w1:World) (B:Nat) (c:Cx) (s:St) (v1 v2 vs vt:Value) (q:World):Prop where
 row:q.heap[B]?=some (.cells (lF c s.e v1 v2 vs vt).toArray T)
 o1:q.ownsRow w0.heap.size 105 2 v1 s.F1.length (aj s.F1)
 o2:q.ownsRow w0.heap.size 105 2 v2 s.F2.length (aj s.F2)
 os:q.ownsRow w1.heap.size 85 3 vs s.sn.length (ae s.sn)
 ot:q.ownsRow w1.heap.size 9 1 vt s.tl.length (a_ s.tl)
 oh:q.ownsRow w0.heap.size 105 2 c.vh c.hd.length (aj c.hd)
 ha:HoldsO q c.va c.ao
 hB:w0.heap.size≤B
 tt:Tt T
 ap:Ap v1 v2
 aph:Ap v1 c.vh
 lo:Below w0.heap.size w0 w1
 nr:Nr B w1 q
theorem aq {w:World} {base:Nat} {e T:TypeId} {size:Nat} {v:Value} {n:Nat} {xs:List Value} (h:w.ownsRow base e size v n xs) {B:Nat} {cs:Array Value} (hB:w.heap[B]?=some (.cells cs T)) (hT:T≠e):v.ownBlock≠some B:=by
 rcases h.2 with ⟨hv,_⟩ | ⟨g,cap,cur,hv,_,hg,_⟩
 ·rw [hv];simp [Value.ownBlock]
 ·rw [hv];intro e1;have e2:g=B:=by simpa [Value.ownBlock] using e1
  subst e2;rw [hB] at hg;injection hg with hg;injection hg with _ h2 _;exact hT h2
theorem gl {w:World} {b1 b2:Nat} {e1 e2:TypeId} {s1 s2:Nat} {v1 v2:Value} {n1 n2:Nat} {x1 x2:List Value} (h1:w.ownsRow b1 e1 s1 v1 n1 x1) (h2:w.ownsRow b2 e2 s2 v2 n2 x2) (hT:e1≠e2):Ap v1 v2:=by
 intro g hg;rcases h1.2 with ⟨hv,_⟩ | ⟨g',cap,cur,hv,_,hgg,_⟩
 ·rw [hv] at hg;simp [Value.ownBlock] at hg
 ·rw [hv] at hg;have e:g'=g:=by simpa [Value.ownBlock] using hg
  subst e;exact aq h2 hgg hT
theorem ak {w w':World} {base:Nat} {e:TypeId} {size:Nat} {v:Value} {n:Nat} {xs:List Value} (h:w.ownsRow base e size v n xs) (hk:∀ g,v.ownBlock=some g→w'.heap[g]?=w.heap[g]?):w'.ownsRow base e size v n xs:=by
 refine ⟨h.1,h.2.imp id ?_⟩;rintro ⟨g,cap,cur,hv,hb,hg,rest⟩;exact ⟨g,cap,cur,hv,hb,(hk g (by rw [hv];rfl)).trans hg,rest⟩
theorem aP {w w':World} {base:Nat} {e:TypeId} {size:Nat} {v:Value} {n:Nat} {xs:List Value} (h:w.ownsRow base e size v n xs) (hb:Below w.heap.size w w'):w'.ownsRow base e size v n xs :=
 ak h fun g hg=>hb.block g (h.lt g hg).2
theorem aE {w:World} {base base':Nat} {e:TypeId} {size:Nat} {v:Value} {n:Nat} {xs:List Value} (h:w.ownsRow base e size v n xs) (hb:base'≤base):w.ownsRow base' e size v n xs :=
 ⟨h.1,h.2.imp id fun ⟨g,cap,cur,h1,h2,h3⟩=>⟨g,cap,cur,h1,zE hb h2,h3⟩⟩
theorem bS {w:World} {v:Value} {F:List Op.Opt} (h:HoldsO w v F) {B:Nat} {w':World} {T:TypeId} {cs:Array Value} (hB:w.heap[B]?=some (.cells cs T)) (hT:T≠105) (hk:∀ k,k<w.heap.size→k≠B→w'.heap[k]?=w.heap[k]?):HoldsO w' v F:=by
 rcases h with ⟨ad,cp,e,e0⟩ | ⟨g,cp,cur,e,q1,q2⟩
 ·exact Or.inl ⟨ad,cp,e,e0⟩
 ·refine Or.inr ⟨g,cp,cur,e,(hk g (ge.1 q1).1 fun e2=>?_).trans q1,q2⟩;subst e2;rw [hB] at q1;injection q1 with q1;injection q1 with _ h2 _;exact hT h2
section
variable {T:TypeId} {w0 w1:World} {B:Nat} {c:Cx} {s:St} {v1 v2 vs vt:Value} {q q':World}
theorem Lay.lt (h:Lay T w0 w1 B c s v1 v2 vs vt q):B<q.heap.size:=(ge.1 h.row).1
theorem Lay.hh (h:Lay T w0 w1 B c s v1 v2 vs vt q):HoldsO q c.vh c.hd:=HoldsO.own h.oh
theorem Lay.cell (h:Lay T w0 w1 B c s v1 v2 vs vt q) {i:Nat} {v:Value} (hi:(lF c s.e v1 v2 vs vt)[i]?=some v):q.cell? ⟨B,i,none⟩=some v:=by
 rw [cr h.row,List.getElem?_toArray];exact hi
theorem Lay.frz (h:Lay T w0 w1 B c s v1 v2 vs vt q) (i:Nat):q.frozen? ⟨B,i,none⟩=false:=Go.Proofs.YtjdgiimfpkideaaGreatDoor.aX h.row i
theorem Lay.low (h:Lay T w0 w1 B c s v1 v2 vs vt q):Below w0.heap.size w0 q :=
 ⟨h.nr.os.trans h.lo.os,h.nr.tape.trans h.lo.tape,h.nr.output.trans h.lo.output,zE h.lo.size h.nr.size,fun b hb=>(h.nr.block b (Nat.lt_of_lt_of_le hb h.lo.size) fun e=>by have:=h.hB;omega).trans (h.lo.block b hb)⟩
theorem Lay.step (h:Lay T w0 w1 B c s v1 v2 vs vt q) (hb:Below q.heap.size q q'):Lay T w0 w1 B c s v1 v2 vs vt q' :=
 ⟨(hb.block _ h.lt).trans h.row,aP h.o1 hb,aP h.o2 hb,aP h.os hb,aP h.ot hb,aP h.oh hb,h.ha.below hb rfl,h.hB,h.tt,h.ap,h.aph,h.lo,h.nr.of_below hb⟩
theorem Lay.setRaw (h:Lay T w0 w1 B c s v1 v2 vs vt q) (i:Nat) (v:Value) (e':En) (he:(lF c s.e v1 v2 vs vt).set i v=lF c e' v1 v2 vs vt):Lay T w0 w1 B c { s with e:=e' } v1 v2 vs vt (q.setCell ⟨B,i,none⟩ v):=by
 have hr:=zH q B i _ _ v h.row;rw [List.setIfInBounds_toArray,he] at hr;have hk:∀ k,k≠B→(q.setCell ⟨B,i,none⟩ v).heap[k]?=q.heap[k]?:=fun k hk=>heap_setCell_other q _ _ _ hk
 refine ⟨hr,ak h.o1 fun g hg=>hk g fun e=>aq h.o1 h.row h.tt.1 (e ▸ hg),ak h.o2 fun g hg=>hk g fun e=>aq h.o2 h.row h.tt.1 (e ▸ hg),ak h.os fun g hg=>hk g fun e=>aq h.os h.row h.tt.2.1 (e ▸ hg),ak h.ot fun g hg=>hk g fun e=>aq h.ot h.row h.tt.2.2 (e ▸ hg),ak h.oh fun g hg=>hk g fun e=>aq h.oh h.row h.tt.1 (e ▸ hg),bS h.ha h.row h.tt.1 fun k _=>hk k,h.hB,h.tt,h.ap,h.aph,h.lo,h.nr.setCell i v⟩
theorem Lay.ofNr (h:Lay T w0 w1 B c s v1 v2 vs vt q) {e':En} (hr:q'.heap[B]?=some (.cells (lF c e' v1 v2 vs vt).toArray T)) (hn:Nr B q q'):Lay T w0 w1 B c { s with e:=e' } v1 v2 vs vt q':=by
 have hk:∀ k,k<q.heap.size→k≠B→q'.heap[k]?=q.heap[k]?:=hn.block;refine ⟨hr,ak h.o1 fun g hg=>hk g (h.o1.lt g hg).2 fun e=>aq h.o1 h.row h.tt.1 (e ▸ hg),ak h.o2 fun g hg=>hk g (h.o2.lt g hg).2 fun e=>aq h.o2 h.row h.tt.1 (e ▸ hg),ak h.os fun g hg=>hk g (h.os.lt g hg).2 fun e=>aq h.os h.row h.tt.2.1 (e ▸ hg),ak h.ot fun g hg=>hk g (h.ot.lt g hg).2 fun e=>aq h.ot h.row h.tt.2.2 (e ▸ hg),ak h.oh fun g hg=>hk g (h.oh.lt g hg).2 fun e=>aq h.oh h.row h.tt.1 (e ▸ hg),bS h.ha h.row h.tt.1 hk,h.hB,h.tt,h.ap,h.aph,h.lo,h.nr.trans hn⟩
theorem Lay.new1 (h:Lay T w0 w1 B c s v1 v2 vs vt q) (hb:Below q.heap.size q q') (v:Value) (F:List Op.Opt) (ho:q'.ownsRow q.heap.size 105 2 v F.length (aj F)):Lay T w0 w1 B c { s with F1:=F } v v2 vs vt (q'.setCell ⟨B,17,none⟩ v):=by
 have h':=h.step hb;have hr:=zH q' B 17 _ _ v h'.row;rw [List.setIfInBounds_toArray] at hr;have hk:∀ k,k≠B→(q'.setCell ⟨B,17,none⟩ v).heap[k]?=q'.heap[k]?:=fun k hk=>heap_setCell_other q' _ _ _ hk
 have hs:=h.low.size;refine ⟨hr,ak (aE ho hs) fun g hg=>hk g fun e=>?_,ak h'.o2 fun g hg=>hk g fun e=>aq h'.o2 h'.row h.tt.1 (e ▸ hg),ak h'.os fun g hg=>hk g fun e=>aq h'.os h'.row h.tt.2.1 (e ▸ hg),ak h'.ot fun g hg=>hk g fun e=>aq h'.ot h'.row h.tt.2.2 (e ▸ hg),ak h'.oh fun g hg=>hk g fun e=>aq h'.oh h'.row h.tt.1 (e ▸ hg),bS h'.ha h'.row h.tt.1 fun k _=>hk k,h.hB,h.tt,fun g hg e=>?_,fun g hg e=>?_,h.lo,h'.nr.setCell 17 v⟩
 ·exact aq ho h'.row h.tt.1 (e ▸ hg)
 ·have h1:=(ho.lt g hg).1;have h2:=(h.o2.lt g e).2;omega
 ·have h1:=(ho.lt g hg).1;have h2:=(h.oh.lt g e).2;omega
theorem Lay.rebase (h:Lay T w0 w1 B c s v1 v2 (.slice none 0 0) (.slice none 0 0) q) (hs:s.sn=[]) (ht:s.tl=[]):Lay T w0 q B c s v1 v2 (.slice none 0 0) (.slice none 0 0) q :=
 ⟨h.row,h.o1,h.o2,by rw [hs];exact World.ownsRow_nil _ _ _ _,by rw [ht];exact World.ownsRow_nil _ _ _ _,h.oh,h.ha,h.hB,h.tt,h.ap,h.aph,h.low,Nr.refl _ _⟩
theorem Lay.put (h:Lay T w0 w1 B c s v1 v2 vs vt q) (o:Obj) {q2:World} (hg:(q.alloc o).grownBy q2 vs.ownBlock) (v:Value) (P:List Op.Pk) (ho:q2.ownsRow w1.heap.size 85 3 v P.length (ae P)):Lay T w0 w1 B c { s with sn:=P } v1 v2 v vt (q2.setCell ⟨B,37,none⟩ v):=by
 have h':=h.step ((zC q.heap.size q).alloc (zD _) o);have n0:=aq h'.os h'.row h.tt.2.1;have r2:q2.heap[B]?=some (.cells (lF c s.e v1 v2 vs vt).toArray T):=(hg.block B h'.lt (fun e=>n0 e.symm)).trans h'.row;have hr:=zH q2 B 37 _ _ v r2;rw [List.setIfInBounds_toArray] at hr;have hk:∀ k,k≠B→(q2.setCell ⟨B,37,none⟩ v).heap[k]?=q2.heap[k]?:=fun k hk=>heap_setCell_other q2 _ _ _ hk
 have k1:∀ {bs:Nat} {e:TypeId} {size:Nat} {u:Value} {n:Nat} {xs:List Value},(q.alloc o).ownsRow bs e size u n xs→T≠e→85≠e→(q2.setCell ⟨B,37,none⟩ v).ownsRow bs e size u n xs:=by
  intro bs e size u n xs hu ht hp;have a2:=gl hu h'.os (fun e=>hp e.symm);have h3:=World.ownsRow.kept hu hg (by cases hv:u.ownBlock with | none=>exact Or.inl rfl | some g=>exact Or.inr fun e=>a2 g hv e.symm);exact ak h3 fun g hg=>hk g fun e=>aq h3 r2 ht (e ▸ hg)
 have k2:∀ {u:Value} {F:List Op.Opt},HoldsO (q.alloc o) u F→HoldsO (q2.setCell ⟨B,37,none⟩ v) u F:=by
  intro u F hu;have h3:HoldsO q2 u F:=by
   rcases hu with ⟨ad,cp,e,e0⟩ | ⟨g,cp,cur,e,q1,r1⟩
   ·exact Or.inl ⟨ad,cp,e,e0⟩
   ·exact Or.inr ⟨g,cp,cur,e,(hg.block g (ge.1 q1).1 fun e2=>aq h'.os q1 (by decide) e2.symm).trans q1,r1⟩
  exact bS h3 r2 h.tt.1 fun k _=>hk k
 refine ⟨hr,k1 h'.o1 h.tt.1 (by decide),k1 h'.o2 h.tt.1 (by decide),ak ho fun g hg=>hk g fun e=>aq ho r2 h.tt.2.1 (e ▸ hg),k1 h'.ot h.tt.2.2 (by decide),k1 h'.oh h.tt.1 (by decide),k2 h'.ha,h.hB,h.tt,h.ap,h.aph,h.lo,?_⟩;refine Nr.setCell ?_ 37 v;have hl:=h'.nr;exact ⟨hg.os.trans hl.os,hg.tape.trans hl.tape,hg.output.trans hl.output,zE hl.size hg.size,fun b hb hn=>(hg.block b (Nat.lt_of_lt_of_le hb hl.size) fun e=>by have:=(h'.os.lt b e.symm).1;omega).trans (hl.block b hb hn)⟩
theorem Lay.say (h:Lay T w0 w1 B c s v1 v2 vs vt q) (o:Obj) {q2:World} (hg:(q.alloc o).grownBy q2 vt.ownBlock) (v:Value) (P:List ByteArray) (ho:q2.ownsRow w1.heap.size 9 1 v P.length (a_ P)):Lay T w0 w1 B c { s with tl:=P } v1 v2 vs v (q2.setCell ⟨B,38,none⟩ v):=by
 have h':=h.step ((zC q.heap.size q).alloc (zD _) o);have n0:=aq h'.ot h'.row h.tt.2.2;have r2:q2.heap[B]?=some (.cells (lF c s.e v1 v2 vs vt).toArray T):=(hg.block B h'.lt (fun e=>n0 e.symm)).trans h'.row;have hr:=zH q2 B 38 _ _ v r2;rw [List.setIfInBounds_toArray] at hr;have hk:∀ k,k≠B→(q2.setCell ⟨B,38,none⟩ v).heap[k]?=q2.heap[k]?:=fun k hk=>heap_setCell_other q2 _ _ _ hk
 have k1:∀ {bs:Nat} {e:TypeId} {size:Nat} {u:Value} {n:Nat} {xs:List Value},(q.alloc o).ownsRow bs e size u n xs→T≠e→9≠e→(q2.setCell ⟨B,38,none⟩ v).ownsRow bs e size u n xs:=by
  intro bs e size u n xs hu ht hp;have a2:=gl hu h'.ot (fun e=>hp e.symm);have h3:=World.ownsRow.kept hu hg (by cases hv:u.ownBlock with | none=>exact Or.inl rfl | some g=>exact Or.inr fun e=>a2 g hv e.symm);exact ak h3 fun g hg=>hk g fun e=>aq h3 r2 ht (e ▸ hg)
 have k2:∀ {u:Value} {F:List Op.Opt},HoldsO (q.alloc o) u F→HoldsO (q2.setCell ⟨B,38,none⟩ v) u F:=by
  intro u F hu;have h3:HoldsO q2 u F:=by
   rcases hu with ⟨ad,cp,e,e0⟩ | ⟨g,cp,cur,e,q1,r1⟩
   ·exact Or.inl ⟨ad,cp,e,e0⟩
   ·exact Or.inr ⟨g,cp,cur,e,(hg.block g (ge.1 q1).1 fun e2=>aq h'.ot q1 (by decide) e2.symm).trans q1,r1⟩
  exact bS h3 r2 h.tt.1 fun k _=>hk k
 refine ⟨hr,k1 h'.o1 h.tt.1 (by decide),k1 h'.o2 h.tt.1 (by decide),k1 h'.os h.tt.2.1 (by decide),ak ho fun g hg=>hk g fun e=>aq ho r2 h.tt.2.2 (e ▸ hg),k1 h'.oh h.tt.1 (by decide),k2 h'.ha,h.hB,h.tt,h.ap,h.aph,h.lo,?_⟩;refine Nr.setCell ?_ 38 v;have hl:=h'.nr;exact ⟨hg.os.trans hl.os,hg.tape.trans hl.tape,hg.output.trans hl.output,zE hl.size hg.size,fun b hb hn=>(hg.block b (Nat.lt_of_lt_of_le hb hl.size) fun e=>by have:=(h'.ot.lt b e.symm).1;omega).trans (hl.block b hb hn)⟩
end
end Go.Proofs.YtjdgiimfpkideaaGreatDoor
namespace Go.Proofs.YtjdgiimfpkideaaGreatDoor
open Go.Proofs.Tryz
theorem xp (l:List (Int × Op.Opt)) (b:Int):b≤l.foldl (fun m v=>max m v.1) b∧(∀ v ∈ l,v.1≤l.foldl (fun m v=>max m v.1) b)∧(l.foldl (fun m v=>max m v.1) b=b∨∃ v ∈ l,l.foldl (fun m v=>max m v.1) b=v.1):=by
 induction l generalizing b with
 | nil=>simp
 | cons x l ih =>
  rw [List.foldl_cons];obtain ⟨h1,h2,h3⟩:=ih (max b x.1);refine ⟨by omega,fun v hv=>?_,?_⟩
  ·rcases List.mem_cons.1 hv with rfl | hv
   ·omega
   ·exact h2 v hv
  ·rcases h3 with h3 | ⟨v,hv,h3⟩
   ·rw [h3];by_cases hb:x.1≤b
    ·left;omega
    ·right;exact ⟨x,by simp,by omega⟩
   ·right;exact ⟨v,by simp [hv],h3⟩
theorem mV {x:Int} {l:List (Int × Op.Opt)} (h:fl x l=[]):∀ v ∈ l,v.1≠x:=by
 intro v hv e;have:v.2 ∈ fl x l:=by
  unfold fl;exact List.mem_map.2 ⟨v,List.mem_filter.2 ⟨hv,by simp [e]⟩,rfl⟩
 rw [h] at this;cases this
theorem nQ {x:Int} {l:List (Int × Op.Opt)} (h:fl x l≠[]):∃ v ∈ l,v.1=x:=by
 obtain ⟨o,ho⟩:=List.exists_mem_of_ne_nil _ h;unfold fl at ho;obtain ⟨v,hv,_⟩:=List.mem_map.1 ho;obtain ⟨h1,h2⟩:=List.mem_filter.1 hv;exact ⟨v,h1,by simpa using h2⟩
theorem qp (m a g:Nat) (p c d:Bool) (o:Op.Opt):((one m a g p c d o).1=2∧(one m a g p c d o).2=o)∨(one m a g p c d o).1=3∨(one m a g p c d o).1=4:=by
 unfold one;split
 ·rcases ly a g p c d o.kind (ax o.data.data.toList) with h | h | h
  ·left
   rw [h];exact ⟨rfl,rfl⟩
  ·right;left;exact h
  ·right;right;exact h
 ·right;right;rfl
theorem ib (m a g:Nat) (p c d:Bool) (L:List Op.Opt) (i:Nat) (hi:i<L.length):((eO m a g p c d L i).1=2∧(eO m a g p c d L i).2=L[i])∨(eO m a g p c d L i).1=3∨(eO m a g p c d L i).1=4:=by
 rw [gC m a g p c d L i hi];unfold gB;split
 ·right;right;rfl
 ·exact qp m a g p c d _
theorem nR {m a g:Nat} {p c d:Bool} {L:List Op.Opt} {n:Nat} {v:Int × Op.Opt} (h:v ∈ dL m a g p c d L n):∃ i,i<n∧v=eO m a g p c d L i:=by
 unfold dL at h;obtain ⟨i,hi,e⟩:=List.mem_map.1 h;exact ⟨i,by simpa using hi,e.symm⟩
theorem sK (m a g:Nat) (p c d:Bool) (L:List Op.Opt) (n i:Nat) (hi:i<n):eO m a g p c d L i ∈ dL m a g p c d L n:=by
 unfold dL;exact List.mem_map.2 ⟨i,by simpa using hi,rfl⟩
theorem sL (m a g:Nat) (p c d:Bool) (L:List Op.Opt) :
  (fl 4 (dL m a g p c d L L.length)≠[]→mx (dL m a g p c d L L.length)=4)∧(fl 4 (dL m a g p c d L L.length)=[]→fl 3 (dL m a g p c d L L.length)≠[]→mx (dL m a g p c d L L.length)=3) ∧
   (fl 4 (dL m a g p c d L L.length)=[]→fl 3 (dL m a g p c d L L.length)=[]→mx (dL m a g p c d L L.length)=2∧fl 2 (dL m a g p c d L L.length)=L):=by
 have hc:∀ v ∈ dL m a g p c d L L.length,v.1=2∨v.1=3∨v.1=4:=by
  intro v hv;obtain ⟨i,hi,rfl⟩:=nR hv;rcases ib m a g p c d L i hi with h | h | h
  ·exact Or.inl h.1
  ·exact Or.inr (Or.inl h)
  ·exact Or.inr (Or.inr h)
 have hall:∀ n,n≤L.length→(∀ i,i<n→(eO m a g p c d L i).1=2)→fl 2 (dL m a g p c d L n)=L.take n:=by
  intro n;induction n with
  | zero=>intro _ _;rfl
  | succ n ih =>
   intro hn h;rw [fw,iC,ih (by omega) fun i hi=>h i (by omega),List.take_succ_eq_append_getElem (by omega),h n (by omega)];have:=ib m a g p c d L n (by omega)
   rw [h n (by omega)] at this;rcases this with ⟨_,e⟩ | e | e
   ·rw [e];rfl
   ·cases e
   ·cases e
 obtain ⟨h1,h2,h3⟩:=xp (dL m a g p c d L L.length) 2;replace h1:2≤mx (dL m a g p c d L L.length):=h1;replace h2:∀ v ∈ (dL m a g p c d L L.length),v.1≤mx (dL m a g p c d L L.length):=h2;replace h3:mx (dL m a g p c d L L.length)=2∨∃ v ∈ (dL m a g p c d L L.length),mx (dL m a g p c d L L.length)=v.1:=h3;refine ⟨fun h=>?_,fun h4 h=>?_,fun h4 h3'=>?_⟩
 ·obtain ⟨v,hv,e⟩:=nQ h;have:=h2 v hv
  rcases h3 with h3 | ⟨u,hu,h3⟩
  ·omega
  ·have:=hc u hu
   omega
 ·obtain ⟨v,hv,e⟩:=nQ h;have:=h2 v hv
  rcases h3 with h3 | ⟨u,hu,h3⟩
  ·omega
  ·have:=hc u hu
   have:=mV h4 u hu
   omega
 ·have h22:∀ i,i<L.length→(eO m a g p c d L i).1=2:=by
   intro i hi;have hv:=sK m a g p c d L L.length i hi;have:=hc _ hv
   have:=mV h4 _ hv
   have:=mV h3' _ hv
   omega
  refine ⟨?_,by rw [hall L.length (zD _) h22,List.take_length]⟩;rcases h3 with h3 | ⟨u,hu,h3⟩
  ·exact h3
  ·obtain ⟨i,hi,rfl⟩:=nR hu;rw [h3,h22 i hi]
end Go.Proofs.YtjdgiimfpkideaaGreatDoor
namespace Go.Proofs.YtjdgiimfpkideaaGreatDoor
open Go.RowKit Go.Proofs.Tryz
theorem oM (w:World) (o o':Obj):({ w.alloc o with heap:=(w.alloc o).heap.setIfInBounds w.heap.size o' }:World)=w.alloc o':=by
 unfold World.alloc;congr 1
 simp only [Array.push];simp [Array.setIfInBounds]
theorem iD (w:World) (es:Array MapEntry) (c:Nat) (k:Int) (v:Value) (hf:Instr.findNow (.int .i64) (.int .i64 k) es.toList 0=some none) :
  (Instr.mapUpdate 246 (.map (some w.heap.size)) (.int .i64 k) v).run prog (w.alloc (.map es c))=.ok () (w.alloc (.map (es.push { key:=.int .i64 k,val:=v,born:=c }) (c+1))):=by
 have hb:=(MapKept.heap_alloc w (.map es c)).1;unfold Instr.mapUpdate;simp only [Sem.run_bind,run_underlying underlying246,MapKept.run_getObj_map hb,MapKept.run_checkKey underlying248 (d:=.int .i64) (k:=.int .i64 k) (by trivial),MapKept.run_findKey underlying248 hf,Result.andThen];rw [MapKept.run_setObj_map _ hb,oM]
theorem e_ (w:World) (M:Nat) (es:Array MapEntry) (c i:Nat) (k:Int) (v:Value) (hb:w.heap[M]?=some (.map es c)) (hf:Instr.findNow (.int .i64) (.int .i64 k) es.toList 0=some (some (i,v))) :
  (Instr.lookup 246 (.map (some M)) (.int .i64 k) false).run prog w=.ok v w:=by
 unfold Instr.lookup;simp only [Sem.run_bind,Sem.run_pure,run_underlying underlying246,MapKept.run_getObj_map hb,MapKept.run_checkKey underlying248 (d:=.int .i64) (k:=.int .i64 k) (by trivial),MapKept.run_findKey underlying248 hf,Result.andThen];rfl
abbrev eE (f:Nat):Value:=.func (.func f) #[] #[]
def cW:Array MapEntry:=#[{ key:=.int .i64 0,val:=eE 211,born:=0 },{ key:=.int .i64 1,val:=eE 212,born:=1 },{ key:=.int .i64 2,val:=eE 213,born:=2 },{ key:=.int .i64 3,val:=eE 214,born:=3 }]
theorem fC (w:World):Calls prog 204 #[] w fun e w'=>e=.returned (.map (some w.heap.size))∧w'=w.alloc (.map cW 4):=by
 have hmm:=@run_makeMap prog;have h0:=iD w #[] 0 0 (eE 211) rfl;have h1:=iD w #[{ key:=.int .i64 0,val:=eE 211,born:=0 }] 1 1 (eE 212) rfl;have h2:=iD w #[{ key:=.int .i64 0,val:=eE 211,born:=0 },{ key:=.int .i64 1,val:=eE 212,born:=1 }] 2 2 (eE 213) rfl;have h3:=iD w #[{ key:=.int .i64 0,val:=eE 211,born:=0 },{ key:=.int .i64 1,val:=eE 212,born:=1 },{ key:=.int .i64 2,val:=eE 213,born:=2 }] 3 3 (eE 214) rfl;simp only [List.push_toArray,List.cons_append,List.nil_append] at h0 h1 h2 h3;go_enter func204,ntmps204
 go_wp2
 go_ret
 exact ⟨rfl,rfl⟩
def xJ (w w':World) (res:Option (List Op.Opt)) (e:Ending):Prop :=
  (res=none∧e=.returned (.tuple #[.slice none 0 0,.bool false])∧Below w.heap.size w w') ∨
    (∃ L ad cp,res=some L∧e=.returned (.tuple #[.slice ad L.length cp,.bool (Op.right L)])∧w'.ownsRow w.heap.size 105 2 (.slice ad L.length cp) L.length (aj L)∧Below w.heap.size w w')
def xK:Value→Nat
  | .string t=>t.size
  | _=>0
theorem qN {k n:UInt8} {r:List UInt8} {out:List Op.Opt} (h:¬ (n.toNat<2∨r.length+2<n.toNat)) :
    (Op.rd (k :: n :: r)).map (out ++ ·)=(Op.rd (r.drop (n.toNat - 2))).map ((out ++ [⟨(k.toNat:Int),co (r.take (n.toNat - 2))⟩]) ++ ·):=by
  rw [Op.rd_step h];cases Op.rd (r.drop (n.toNat - 2)) with
  | none=>rfl
  | some L=>simp
theorem qO (t:ByteArray) (w:World) (h8:t.size≤8000) :
    Calls prog 108 #[.string t] w fun e w'=>xJ w w' (Op.rd t.data.toList) e:=by
  obtain ⟨i0,hi0,hz0,hz1,hz2⟩:=kW;obtain ⟨RES,hRES⟩:∃ R,Op.rd t.data.toList=R:=⟨_,rfl⟩;rw [hRES];have HRES:=aa hRES;clear hRES;go_enter func108,ntmps108
  go_wp2_with fail
  go_loopw [0,4] (fun x y wr=>∃ (u:ByteArray) (out:List Op.Opt),x=.string u∧u.size≤8000∧out.length*2+u.size≤8000∧(∃ a c,y=.slice a out.length c)∧wr.ownsRow w.heap.size 105 2 y out.length (aj out)∧(Op.rd u.data.toList).map (out ++ ·)=RES∧Below w.heap.size w wr) (fun x _ _=>xK x)
  case atStart =>
    refine ⟨t,[],rfl,h8,by simpa using h8,⟨_,_,rfl⟩,World.ownsRow_lit w #[] 0 (by omega) (Nat.zero_le _) rfl,?_,(zC _ _).alloc (zD _) _⟩;rw [← uh HRES];cases Op.rd t.data.toList with
    | none=>rfl
    | some L=>rfl
  case round =>
    obtain ⟨u,out,rfl,hu8,hsum,⟨ya,yc,rfl⟩,hown,hacc,hb⟩:=hrel;have hbs:=hb.size;have HOW:=aa hown;clear hown HRES;by_cases h0:u.size=0
    · have hnil:u.data.toList=[]:=List.eq_nil_of_length_eq_zero (by rw [bC];exact h0)
      rw [hnil,Op.rd_nil] at hacc;have hacc':RES=some out:=by rw [← hacc];simp
      have d1:¬ ((0:Int)<(u.size:Int)):=by omega
      have C:=aa (cz _ out wr (by unfold maxLen;omega) (HoldsO.own (uh HOW)));clear hacc hnil;go_wp2_with (first | (go_at_call 125;refine (uh C).mono ?_;rintro e w4 ⟨rfl,hb4⟩))
      go_ret2
      exact Or.inr ⟨out,_,_,hacc',rfl,aY (uh HOW) fun p _ hp=>hb4.block p hp,hb.trans (hb4.mono hbs)⟩
    · have d1:(0:Int)<(u.size:Int):=by omega
      by_cases h1:u.size<2
      · have d2:decide ((u.size:Int)<2)=true:=decide_eq_true (by omega)
        have hres:RES=none:=by
          obtain ⟨c,hc⟩:∃ c,u.data.toList=[c]:=by
            have hl:=bC u;rcases hq:u.data.toList with _ | ⟨c,_ | ⟨d,r⟩⟩
            · rw [hq] at hl;simp at hl;omega
            · exact ⟨c,rfl⟩
            · rw [hq] at hl;simp at hl;omega
          rw [hc,Op.rd_one] at hacc;rw [← hacc];rfl
        clear hacc;go_wp2
        go_ret2
        exact Or.inl ⟨hres,rfl,hb⟩
      · have d2:decide ((u.size:Int)<2)=false:=decide_eq_false (by omega)
        have d2':(1:Int)<(u.size:Int):=by omega
        have htwo:=Go.Proofs.YtjdgiimfpkideaaGreatDoor.u6 (t:=u) (by omega);have hrl:(u.data.toList.drop 2).length=u.size - 2:=by rw [List.length_drop,bC]
        have HX:=aa fun m n=>ob u m n
        have HE:=aa fun n=>s6 u n
        obtain ⟨k,hk⟩:∃ c,u[0]=c:=⟨_,rfl⟩;obtain ⟨n,hn⟩:∃ c,u[1]=c:=⟨_,rfl⟩;rw [hk,hn] at htwo;have hdd:∀ m,2≤m→u.data.toList.drop m=(u.data.toList.drop 2).drop (m - 2):=fun m hm=>by rw [List.drop_drop];congr 1;omega
        have HDD:=aa hdd;rw [htwo] at hacc;generalize hr:u.data.toList.drop 2=r at *;have wu:=yZ;have wi:=xI;by_cases c1:n.toNat<2
        · have e1:decide ((n.toNat:Int)<2)=true:=decide_eq_true (by omega)
          have hres:RES=none:=by rw [← hacc,Op.rd_bad (Or.inl c1)];rfl
          clear hacc htwo HDD hdd HX HE hr;go_wp2
          go_ret2
          exact Or.inl ⟨hres,rfl,hb⟩
        · have e1:decide ((n.toNat:Int)<2)=false:=decide_eq_false (by omega)
          have hnlt:=n.toNat_lt;by_cases c2:r.length+2<n.toNat
          · have e2:(u.size:Int)<(n.toNat:Int):=by omega
            have hres:RES=none:=by rw [← hacc,Op.rd_bad (Or.inr c2)];rfl
            clear hacc htwo HDD hdd HX HE hr;go_wp2
            go_ret2
            exact Or.inl ⟨hres,rfl,hb⟩
          · have e2:¬ ((u.size:Int)<(n.toNat:Int)):=by omega
            have e3:(2:Int)≤(n.toNat:Int):=by omega
            have e4:(n.toNat:Int)≤(u.size:Int):=by omega
            rw [qN (by omega)] at hacc;have HAC:=aa hacc;have hx:=uh HX 2 n.toNat;have he:=uh HE n.toNat;rw [uh HDD n.toNat (by omega)] at he;rw [hr] at hx;have HL2:Hid ((r.drop (n.toNat - 2)).length+n.toNat=u.size):=aa (by rw [List.length_drop];omega);clear hacc htwo HDD hdd HX HE hr;have i0':(0:Int)<(u.size:Int):=by omega
            generalize co (r.take (n.toNat - 2))=T at *;obtain ⟨L2,hL2⟩:∃ L,r.drop (n.toNat - 2)=L:=⟨_,rfl⟩;rw [hL2] at HAC HL2 he;have lw:w.heap.size≤wr.heap.size:=hbs;have hol1:out.length≤4000:=by omega
            clear hL2;go_wp2_with fail
            go_region_held3 (fun _=>True) (trivial)
              ((refine step_append_lies _ (by rfl) _ _ _ (by rfl) w.heap.size 105 i0 _ 2 24 underlying28 hi0 hz0 hz1 hz2 rfl (by omega) (.slice ya out.length yc) out.length (aj out) (by rfl) (((uh HOW).alloc _).drew)
                  ⟨wr.heap.size,0,none⟩ 1 1 [.int .i64 k.toNat,.string T] (by rfl) (by rfl) (World.news_of_block (cs:=#[.int .i64 k.toNat,.string T]) (t:=105) (fr:=(0,0)) (zF wr _)) (by simp [Value.oneCell'])
                  (by omega) (by unfold maxLen;omega) (by omega) (by simp;omega) (wr.heap.size+1) (by simp) ?_;intro gg cap3 w3 hown3 hgrow hat hlt))
            all_goals
              have hbw3:Below w.heap.size w w3:=((hb.alloc lw _).drew).grown hgrow (by simp;omega) (fun p hp=>(World.ownsRow.lt (uh HOW) p hp).1);have hoc:aj out ++ [.int .i64 k.toNat,.string T]=aj (out ++ [⟨(k.toNat:Int),T⟩]):=by rw [bV];rfl
              rw [hoc] at hown3;have HO3:=aa hown3;clear hown3 hgrow hat hoc HOW;go_wp2
              go_roundw
              case rel =>
                refine ⟨co L2,out ++ [⟨(k.toNat:Int),T⟩],rfl,?_,?_,⟨some ⟨gg,0,none⟩,cap3,by simp⟩,by simpa using uh HO3,by rw [kN];exact uh HAC,hbw3⟩
                · have:=uh HL2
                  rw [eJ];omega
                · have:=uh HL2
                  rw [eJ];simp;omega
              case measure =>
                have:=uh HL2
                simp [xK,eJ];omega
theorem tc (ad:Option Addr) (n cp:Nat) (hn:n≤cp) (hc:ad=none→cp=0) (z:World):(Instr.slice 60 (.slice ad n cp) (some (.int .i64 0)) none none).run prog z=.ok (.slice ad n cp) z:=by
 have hs:=Tryz.sizeOf85 z;rw [run_slice_l (P:=prog) (w:=z) 60 ad n cp (by rw [fp];exact underlying60) .i64 0 (by omega) (by omega),fp,hs];cases ad with
 | none =>
  have h1:=hc rfl;have h2:n=0:=by omega
  subst h1 h2;simp [Result.andThen,sliced]
 | some a =>
  obtain ⟨b,o,c⟩:=a;cases c<;>simp [Result.andThen,sliced,Addr.add]
theorem qW {base:Nat} {T:TypeId} {W:World} {B:Nat} {X Z:List Value} {v:Value} {L:List Op.Pk} (h:Wr base T W B X Z v L) :
  Calls prog 41 #[.pointer (some ⟨B,X.length,none⟩)] W fun e W'=>e=.returned (.tuple #[])∧∃ v',Wr base T W' B X Z v' L.tail∧Fr B v v' W W':=by
 obtain ⟨v',n,n',ad,cp,m,hv,hn,hm,hs,hL',ho⟩:∃ (v':Value) (n n':Nat) (ad:Option Addr) (cp m:Nat),v=.slice ad n cp∧n≤40∧(if (n:Int)<1 then (n:Int) else 1)=(m:Int)∧(∀ z,(Instr.slice 60 (.slice ad n cp) (some (.int .i64 (m:Int))) none none).run prog z=.ok v' z)∧HoldsK W base v' L.tail∧∀ g,v'.ownBlock=some g→v.ownBlock=some g:=by
  have hle:=h.le;match L,h.hk with
  | [],hk =>
   obtain ⟨a,c,e⟩:=hk.form;refine ⟨v,0,0,a,c,0,e,by omega,by simp,fun z=>?_,hk,fun _ hg=>hg⟩;rw [e];refine tc a 0 c (Nat.zero_le _) (fun ea=>?_) z;rcases hk with ⟨e1,_⟩ | ⟨g,o,cp,cur,e1,_⟩
   ·rw [e1] at e;injection e with _ _ e;exact e.symm
   ·rw [e1,ea] at e;injection e with e;cases e
  | p :: P,hk =>
   obtain ⟨g,o,cp,e,_⟩:=hk.first;obtain ⟨b,hb1,hb2,hs⟩:=kg g o P.length cp;rw [e] at hk;obtain ⟨p',P',e2,_,hk'⟩:=hk.tail hb1 hb2;cases e2;simp only [List.length_cons] at hle;refine ⟨_,P.length+1,0,_,_,1,e,hle,by rw [if_neg (by omega)];rfl,hs,hk',fun g' hg=>?_⟩;rw [e];rcases hb2 with rfl | rfl<;>exact hg
 have hc:=bI h.row;have hf:=aX h.row X.length;subst hv;obtain ⟨a2,c2,e2⟩:=hL'.form;subst e2;have HW:=aa h;have HL:=aa (zA hL' ho);have HT:Hid (L.tail.length≤40):=aa (by have:=h.le;simp;omega);clear h hL' ho;generalize hk:X.length=k at hc hf ⊢;generalize hq:L.tail.length=nt at *;have hn0:n≤9223372036854775807:=by omega
 have hm2:min (1:Int) (n:Int)=(m:Int):=by omega
 have hS:W.drew.cell? ⟨B,k,none⟩=some (.slice ad n cp):=hc;have hF:W.drew.frozen? ⟨B,k,none⟩=false:=hf;go_enter func41,ntmps41
 go_upto_region 0 with fail
 go_region
 go_wp2
 refine zI ?_;refine ⟨rfl,.slice a2 nt c2,?_,?_⟩
 ·rw [← hk];exact ((uh HW).set (uh HL).1 (by rw [hq];exact uh HT)).below (zC _ _).drew
 ·exact (Fr.cells _ _ _ (fun g hg=>Or.inl ((uh HL).2 g hg)) k [_]).trans (Fr.of_below (zC _ _).drew)
theorem eH {W:World} {o:Oper} {a:Act} {K:Act→World→Prop} {Q:Exit→Act→World→Prop} (s x:Operand) (ho:o.op=.call { callee:=.builtin .append,args:=#[s,x],argTypes:=#[60,60] })
  {base:Nat} {v sv:Value} {P F:List Op.Pk} (hs:a.eval s=v) (hx:a.eval x=sv) (hv:HoldsK W base v P) (hsv:HoldsP W sv F) (hP:P.length≤1000000) (hF:F.length≤1000000) (hbase:base≤W.heap.size)
  (h:∀ v' w',HoldsK w' base v' (P ++ F)→W.grownBy w' v.ownBlock→(∀ g,v'.ownBlock=some g→v.ownBlock=some g∨W.heap.size≤g)→K (a.put o.dst v') w'):o.wp prog a W K Q:=by
 obtain ⟨v',w',hr,h2,h3,h4⟩:=eX (W:=W) o.type hv hsv hP hF hbase;unfold Oper.wp execOp;simp only [ho,resolve,invoke,builtin,Sem.run_bind,Sem.run_pure,Result.andThen_ok,List.map_toArray,List.map_cons,List.map_nil,hs,hx,hr];exact h v' w' h2 h3 h4
structure Py (base:Nat) (T:TypeId) (W:World) (B A k:Nat) (X Z:List Value) (v:Value) (L:List Op.Pk) (p:Op.Pk) (y:World):Prop where
 w:Wr base T y B X Z v L
 fr:Fr B v v W y
 pa:y.heap[A]?=some (.cells #[.int .i64 p.code,.int .i64 p.id,.string p.data] 85)
 ek:X.length=k
structure Pz (base:Nat) (T:TypeId) (W:World) (B k:Nat) (X Z:List Value) (v v':Value) (L:List Op.Pk) (y:World):Prop where
 row:y.heap[B]?=some (.cells (X ++ [v] ++ Z).toArray T)
 hk:HoldsK y base v' L
 fr:Fr B v v' W y
 ek:X.length=k
 bs:base≤y.heap.size
 nT:T≠85
section
variable {base:Nat} {T:TypeId} {W:World} {B A k:Nat} {X Z:List Value} {v v':Value} {L:List Op.Pk} {p:Op.Pk} {y y':World}
theorem Py.cx (h:Py base T W B A k X Z v L p y):y.cell? ⟨B,k,none⟩=some v:=by rw [← h.ek];exact bI h.w.row
theorem Py.px (h:Py base T W B A k X Z v L p y):y.cell? ⟨A,0,none⟩=some (.int .i64 p.code)∧y.cell? ⟨A,1,none⟩=some (.int .i64 p.id)∧y.cell? ⟨A,2,none⟩=some (.string p.data) :=
 ⟨by rw [cr h.pa];rfl,by rw [cr h.pa];rfl,by rw [cr h.pa];rfl⟩
theorem Py.new (h:Py base T W B A k X Z v L p y) (r:Op.Pk):Py base T W B A k X Z v L p (y.alloc (.cells #[.int .i64 r.code,.int .i64 r.id,.string r.data] 85))∧HoldsP (y.alloc (.cells #[.int .i64 r.code,.int .i64 r.id,.string r.data] 85)) (.slice (some ⟨y.heap.size,0,none⟩) 1 1) [r]:=by
 have hb:Below y.heap.size y (y.alloc (.cells #[.int .i64 r.code,.int .i64 r.id,.string r.data] 85)):=(zC _ _).alloc (zD _) _;refine ⟨⟨h.w.below hb,h.fr.trans (Fr.of_below hb),(hb.block A (ge.1 h.pa).1).trans h.pa,h.ek⟩,Or.inr ⟨_,1,_,rfl,zF _ _,zD 3,fun j hj=>?_⟩⟩;have:j=0∨j=1∨j=2:=by simp at hj;omega
 rcases this with rfl | rfl | rfl<;>rfl
theorem Py.app (h:Py base T W B A k X Z v L p y) {L':List Op.Pk} (h1:HoldsK y' base v' L') (h2:y.grownBy y' v.ownBlock) (h3:∀ g,v'.ownBlock=some g→v.ownBlock=some g∨y.heap.size≤g):Pz base T W B k X Z v v' L' y' :=
 ⟨(h2.block B h.w.lt (fun e=>(h.w.ownB B e.symm).1 rfl)).trans h.w.row,h1,h.fr.trans (Fr.grown h2 h3),h.ek,zE h.w.bs h2.size,h.w.nT⟩
theorem Pz.cx (h:Pz base T W B k X Z v v' L y):y.cell? ⟨B,k,none⟩=some v:=by rw [← h.ek];exact bI h.row
theorem Pz.fx (h:Pz base T W B k X Z v v' L y):y.frozen? ⟨B,k,none⟩=false:=aX h.row k
theorem Pz.fin (h:Pz base T W B k X Z v v' L y) (le:L.length≤40):Wr base T (y.setCell ⟨B,X.length,none⟩ v') B X Z v' L∧Fr B v v' W (y.setCell ⟨B,X.length,none⟩ v'):=by
 refine ⟨⟨cH [v] [v'] X Z y h.row rfl,h.hk.keep fun g cur hg _ h2=>heap_setCell_other _ _ _ _ (fun (e:g=B)=>?_),le,zE h.bs (((zC 0 y).setCell (p:=⟨B,X.length,none⟩) (Nat.zero_le _) _).size),h.nT⟩,h.fr.trans (Fr.cells v' v' y (fun _ hg=>Or.inl hg) X.length [v'])⟩;rw [e,h.row] at h2;injection h2 with h2;injection h2 with _ h2;exact h.nT h2
end
theorem xN {base:Nat} {T:TypeId} {W:World} {B:Nat} {X Z:List Value} {v:Value} {L:List Op.Pk} (h:Wr base T W B X Z v L) (p:Op.Pk) :
  Calls prog 81 #[.pointer (some ⟨B,X.length,none⟩),.agg #[.int .i64 p.code,.int .i64 p.id,.string p.data]] W fun e W'=>e=.returned (.tuple #[])∧∃ v',Wr base T W' B X Z v' (if L.length<40 then L ++ [p] else L)∧Fr B v v' W W':=by
 obtain ⟨ad,cp,hv⟩:=h.hk.form;subst hv;have hb1:Below W.heap.size W (W.alloc (.cells #[.int .i64 p.code,.int .i64 p.id,.string p.data] 85)):=(zC _ _).alloc (zD _) _;have hP:=zF W (.cells #[.int .i64 p.code,.int .i64 p.id,.string p.data] 85);have h1:=h.below hb1;have hc:=bI h1.row;have HW:=aa (zA h1 (zA hb1 hP));have hl:L.length≤40:=h.le;clear h h1 hb1 hP;generalize hk:X.length=k at hc ⊢;generalize hn:L.length=n at *;by_cases h40:n<40
 ·rw [if_pos h40];go_enter func81,ntmps81
  go_upto_region 2 with fail
  have hL9:(L ++ [p]).length≤40:=by rw [List.length_append,hn];exact h40
  have hl9:L.length≤1000000:=by omega
  obtain ⟨A,eA⟩:∃ A,W.heap.size=A:=⟨_,rfl⟩;have HY:Hid (Py base T W B A k X Z (.slice ad n cp) L p (W.alloc (.cells #[.int .i64 p.code,.int .i64 p.id,.string p.data] 85)).drew):=aa (by
   obtain ⟨h1,h2,h3⟩:=uh HW;rw [eA] at h3;exact ⟨h1.below (zC _ _).drew,(Fr.of_below h2).trans (Fr.of_below (zC _ _).drew),h3,hk⟩)
  rw [eA];refine wp_region_held_drew (S:=fun _=>True) (by kernel_rfl) trivial (fun hHeld=>?_);clear HW hc;generalize (W.alloc (.cells #[.int .i64 p.code,.int .i64 p.id,.string p.data] 85)).drew=yy at HY ⊢;refine tq 0 1 2 3 ?_;refine r4 4 5 (fun K hK=>?_) (fun K hK=>?_)
  ·have cx:=(uh HY).cx;go_simp;refine ro hK trivial fun _=>?_
   clear hK K;clear cx;refine r3 5 fun K hK=>?_
   obtain ⟨x0,x1,x2⟩:=(uh HY).px;go_simp;refine ro hK trivial fun _=>?_
   clear hK K;clear x0 x1 x2;refine r3 6 fun K hK=>?_
   have H6:=aa ((uh HY).new p);go_simp;refine ro hK trivial fun _=>?_
   clear hK K;generalize yy.heap.size=N6 at H6 ⊢;generalize yy.alloc (.cells #[.int .i64 p.code,.int .i64 p.id,.string p.data] 85)=y6 at H6 ⊢;clear HY;have H6a:=aa (uh H6).1;refine r3 7 fun K hK=>?_
   refine eH _ _ rfl rfl rfl (uh H6).1.w.hk (uh H6).2 hl9 (by simp) (uh H6).1.w.bs ?_;intro v7 y7 g1 g2 g3;obtain ⟨a7,c7,e7⟩:=g1.form;obtain ⟨n7,e9⟩:∃ n7,(L ++ [p]).length=n7:=⟨_,rfl⟩;rw [e9] at e7;clear e9;subst e7;have H7:=aa ((uh H6).1.app g1 g2 g3);clear g1 g2 g3 H6;refine ro hK trivial fun _=>?_
   clear hK K;refine tt 8 9 ?_;refine r3 10 fun K hK=>?_
   have cx:=(uh H7).cx;have fx:=(uh H7).fx;go_simp;refine ro hK trivial fun _=>?_
   clear hK K;refine dn ?_ _;go_wp2
   refine zI ?_;rw [← hk];exact ⟨rfl,_,(uh H7).fin hL9⟩
  ·obtain ⟨x0,x1,x2⟩:=(uh HY).px;go_simp;refine ro hK trivial fun _=>?_
   clear hK K;clear x0 x1 x2;refine r4 4 6 (fun K hK=>?_) (fun K hK=>?_)
   ·have cx:=(uh HY).cx;go_simp;refine ro hK trivial fun _=>?_
    clear hK K;clear cx;refine r3 6 fun K hK=>?_
    have H6:=aa ((uh HY).new p);go_simp;refine ro hK trivial fun _=>?_
    clear hK K;generalize yy.heap.size=N6 at H6 ⊢;generalize yy.alloc (.cells #[.int .i64 p.code,.int .i64 p.id,.string p.data] 85)=y6 at H6 ⊢;clear HY;have H6a:=aa (uh H6).1;refine r3 7 fun K hK=>?_
    refine eH _ _ rfl rfl rfl (uh H6).1.w.hk (uh H6).2 hl9 (by simp) (uh H6).1.w.bs ?_;intro v7 y7 g1 g2 g3;obtain ⟨a7,c7,e7⟩:=g1.form;obtain ⟨n7,e9⟩:∃ n7,(L ++ [p]).length=n7:=⟨_,rfl⟩;rw [e9] at e7;clear e9;subst e7;have H7:=aa ((uh H6).1.app g1 g2 g3);clear g1 g2 g3 H6;refine ro hK trivial fun _=>?_
    clear hK K;refine tt 8 9 ?_;refine r3 10 fun K hK=>?_
    have cx:=(uh H7).cx;have fx:=(uh H7).fx;go_simp;refine ro hK trivial fun _=>?_
    clear hK K;refine dn ?_ _;go_wp2
    refine zI ?_;rw [← hk];exact ⟨rfl,_,(uh H7).fin hL9⟩
   ·have H6:=aa ((uh HY).new p);go_simp;refine ro hK trivial fun _=>?_
    clear hK K;generalize yy.heap.size=N6 at H6 ⊢;generalize yy.alloc (.cells #[.int .i64 p.code,.int .i64 p.id,.string p.data] 85)=y6 at H6 ⊢;clear HY;have H6a:=aa (uh H6).1;refine r3 4 fun K hK=>?_
    have cx:=(uh H6a).cx;go_simp;refine ro hK trivial fun _=>?_
    clear hK K;clear cx;refine r3 7 fun K hK=>?_
    refine eH _ _ rfl rfl rfl (uh H6).1.w.hk (uh H6).2 hl9 (by simp) (uh H6).1.w.bs ?_;intro v7 y7 g1 g2 g3;obtain ⟨a7,c7,e7⟩:=g1.form;obtain ⟨n7,e9⟩:∃ n7,(L ++ [p]).length=n7:=⟨_,rfl⟩;rw [e9] at e7;clear e9;subst e7;have H7:=aa ((uh H6).1.app g1 g2 g3);clear g1 g2 g3 H6;refine ro hK trivial fun _=>?_
    clear hK K;refine tt 8 9 ?_;refine r3 10 fun K hK=>?_
    have cx:=(uh H7).cx;have fx:=(uh H7).fx;go_simp;refine ro hK trivial fun _=>?_
    clear hK K;refine dn ?_ _;go_wp2
    refine zI ?_;rw [← hk];exact ⟨rfl,_,(uh H7).fin hL9⟩
 ·rw [if_neg h40];go_enter func81,ntmps81
  go_wp2
  refine zI ?_;exact ⟨rfl,_,(uh HW).1,Fr.of_below (uh HW).2.1⟩
def yg (B k cnt:Nat) (W:World) (e:Ending) (W':World):Prop:=∃ C1 C2,e=.returned (.func (.func 88) #[] #[.pointer (some ⟨C1,0,none⟩),.pointer (some ⟨C2,0,none⟩)])∧W'.heap[C1]?=some (.cells #[.int .i64 (cnt:Int)] 3)∧W'.heap[C2]?=some (.cells #[.pointer (some ⟨B,k,none⟩)] 111)∧Below W.heap.size W W'∧W.heap.size≤C1∧W.heap.size≤C2
theorem ri (B k cnt:Nat) (W:World):Calls prog 64 #[.pointer (some ⟨B,k,none⟩),.int .i64 (cnt:Int)] W fun e W'=>yg B k cnt W e W':=by
 have h1:=zF W (.cells #[.pointer (some ⟨B,k,none⟩)] 111);have h2:=zF (W.alloc (.cells #[.pointer (some ⟨B,k,none⟩)] 111)) (.cells #[.int .i64 (cnt:Int)] 3);have hb1:Below W.heap.size W (W.alloc (.cells #[.pointer (some ⟨B,k,none⟩)] 111)):=(zC _ _).alloc (zD _) _;have hb2:Below W.heap.size W ((W.alloc (.cells #[.pointer (some ⟨B,k,none⟩)] 111)).alloc (.cells #[.int .i64 (cnt:Int)] 3)):=hb1.alloc (by simp) _;rw [World.size_alloc] at h2;have H:=aa (zA ((zG _ (.cells #[.int .i64 (cnt:Int)] 3) _ (by simp)).trans h1) (zA h2 hb2));clear h1 h2 hb1 hb2;go_enter func64,ntmps64
 go_wp2
 go_ret
 exact ⟨_,_,rfl,(uh H).2.1,(uh H).1,(uh H).2.2,Nat.le_succ _,zD _⟩
theorem l5 {B k:Nat} {ad:Option Addr} {q cp:Nat} {W:World} (hc:W.cell? ⟨B,k,none⟩=some (.slice ad q cp)):Calls prog 47 #[.pointer (some ⟨B,k,none⟩)] W fun e W'=>yg B k q W e W':=by
 have C:=aa (ri B k q W);go_enter func47,ntmps47
 go_wp2_with fail
 refine (uh C).mono ?_;rintro e W' ⟨C1,C2,rfl,h⟩;have H:=aa h;clear h C;go_wp2_with fail
 go_ret
 exact ⟨C1,C2,rfl,uh H⟩
theorem jC (m a g:Int) (p c d:Bool) (w:World):Calls prog 38 #[.agg #[.int .i64 m,.int .i64 a,.int .i64 g,.bool p,.bool c,.bool d]] w fun r w'=>r=.returned (.agg (aA (eP m a g p c d) (.slice none 0 0) (.slice none 0 0)))∧Below w.heap.size w w':=by
 have C:=aa fun v=>dm m a g p c d v
 obtain ⟨_,hA,hR,hb⟩:=br w (.cells #[.int .i64 m,.int .i64 a,.int .i64 g,.bool p,.bool c,.bool d] 24) (.cells #[.int .i64 0,.int .i64 0,.int .i64 0,.bool false,.bool false,.bool false,.int .i64 0,.int .i64 0,.int .i64 0,.bool false,.bool false,.bool false,.int .i64 0,.int .i64 0,.int .i64 0,.int .i64 0,.int .i64 0,.slice none 0 0,.slice none 0 0,.bool false,.int .i64 0,.int .i64 0,.bool false,.bool false,.bool false,.int .i64 0,.int .i64 0,.bool false,.bool false,.bool false] 32);have H0:=aa (zA hA (zA hR hb));clear hA hR hb;unfold eP;cases hq:aK m a g
 ·rw [if_neg (by decide)];rw [hq] at C;show Calls prog 38 #[.agg #[.int .i64 m,.int .i64 a,.int .i64 g,.bool p,.bool c,.bool d]] w fun r w'=>r=.returned (.agg #[.int .i64 0,.int .i64 0,.int .i64 0,.bool false,.bool false,.bool false,.int .i64 0,.int .i64 0,.int .i64 0,.bool false,.bool false,.bool false,.int .i64 0,.int .i64 0,.int .i64 0,.int .i64 0,.int .i64 0,.slice none 0 0,.slice none 0 0,.bool false,.int .i64 0,.int .i64 0,.bool false,.bool false,.bool false,.int .i64 0,.int .i64 0,.bool false,.bool false,.bool false])∧Below w.heap.size w w'
  go_enter func38,ntmps38
  go_wp2_with fail
  refine (uh C _).mono ?_;rintro r w1 ⟨rfl,hb1⟩;obtain ⟨hA,hR,hb⟩:=uh H0;have hR1:=(hb1.block (w.heap.size+1) (by simp)).trans hR;have hB1:=hb.trans (hb1.mono hb.size);have H1:=aa (zA hR1 hB1);clear hA hR hb hR1 hB1 hb1 H0 C;go_upto_region 2 with fail
  apply wp_region_lit
  refine wpList_buildTo rfl 32 _ rfl (some 6) rfl #[.int .i64 0,.int .i64 0,.int .i64 0,.bool false,.bool false,.bool false,.int .i64 0,.int .i64 0,.int .i64 0,.bool false,.bool false,.bool false,.int .i64 0,.int .i64 0,.int .i64 0,.int .i64 0,.int .i64 0,.slice none 0 0,.slice none 0 0,.bool false,.int .i64 0,.int .i64 0,.bool false,.bool false,.bool false,.int .i64 0,.int .i64 0,.bool false,.bool false,.bool false] (by as_aux_lemma=>kernel_rfl) ?_;refine wpList_store_rowTo rfl 32 (.tmp 2) (.tmp 6) rfl rfl (w.heap.size+1) #[.int .i64 0,.int .i64 0,.int .i64 0,.bool false,.bool false,.bool false,.int .i64 0,.int .i64 0,.int .i64 0,.bool false,.bool false,.bool false,.int .i64 0,.int .i64 0,.int .i64 0,.int .i64 0,.int .i64 0,.slice none 0 0,.slice none 0 0,.bool false,.int .i64 0,.int .i64 0,.bool false,.bool false,.bool false,.int .i64 0,.int .i64 0,.bool false,.bool false,.bool false] rfl rfl 32 _ (uh H1).1 aL rfl (by kernel_rfl) ?_;apply wpList_nil
  simp only [Act.put,List.setIfInBounds_toArray,List.set_cons_zero,List.set_cons_succ];go_wp2
  exact bodyPost_ret (v:=.agg #[.int .i64 0,.int .i64 0,.int .i64 0,.bool false,.bool false,.bool false,.int .i64 0,.int .i64 0,.int .i64 0,.bool false,.bool false,.bool false,.int .i64 0,.int .i64 0,.int .i64 0,.int .i64 0,.int .i64 0,.slice none 0 0,.slice none 0 0,.bool false,.int .i64 0,.int .i64 0,.bool false,.bool false,.bool false,.int .i64 0,.int .i64 0,.bool false,.bool false,.bool false]) (by simp [results,results38,asAddr,ja (setRow_heap w1 (w.heap.size+1) _ #[.int .i64 0,.int .i64 0,.int .i64 0,.bool false,.bool false,.bool false,.int .i64 0,.int .i64 0,.int .i64 0,.bool false,.bool false,.bool false,.int .i64 0,.int .i64 0,.int .i64 0,.int .i64 0,.int .i64 0,.slice none 0 0,.slice none 0 0,.bool false,.int .i64 0,.int .i64 0,.bool false,.bool false,.bool false,.int .i64 0,.int .i64 0,.bool false,.bool false,.bool false] _ _ (uh H1).1)]) rfl ⟨rfl,am (uh H1).2 (by omega) _⟩
 ·rw [if_pos rfl];rw [hq] at C;show Calls prog 38 #[.agg #[.int .i64 m,.int .i64 a,.int .i64 g,.bool p,.bool c,.bool d]] w fun r w'=>r=.returned (.agg #[.int .i64 m,.int .i64 a,.int .i64 g,.bool p,.bool c,.bool d,.int .i64 m,.int .i64 a,.int .i64 g,.bool p,.bool c,.bool d,.int .i64 0,.int .i64 0,.int .i64 (-1),.int .i64 0,.int .i64 0,.slice none 0 0,.slice none 0 0,.bool false,.int .i64 0,.int .i64 0,.bool false,.bool false,.bool false,.int .i64 0,.int .i64 0,.bool false,.bool false,.bool false])∧Below w.heap.size w w'
  go_enter func38,ntmps38
  go_wp2_with fail
  refine (uh C _).mono ?_;rintro r w1 ⟨rfl,hb1⟩;obtain ⟨hA,hR,hb⟩:=uh H0;have hA1:=(hb1.block w.heap.size (by simp;omega)).trans hA;have hR1:=(hb1.block (w.heap.size+1) (by simp)).trans hR;have hB1:=hb.trans (hb1.mono hb.size);have H1:=aa (zA hA1 (zA hR1 hB1));clear hA hR hb hA1 hR1 hB1 hb1 H0 C;go_upto_region 3 with fail
  apply wp_region_lit
  refine wpList_load_row rfl 24 (.tmp 1) rfl w.heap.size rfl 24 #[.int .i64 m,.int .i64 a,.int .i64 g,.bool p,.bool c,.bool d] (0,0) _ (uh H1).1 underlying24 rfl (by kernel_rfl) ?_;refine wpList_load_row rfl 24 (.tmp 1) rfl w.heap.size rfl 24 #[.int .i64 m,.int .i64 a,.int .i64 g,.bool p,.bool c,.bool d] (0,0) _ (uh H1).1 underlying24 rfl (by kernel_rfl) ?_;refine wpList_buildTo rfl 32 _ rfl (some 9) rfl #[.int .i64 m,.int .i64 a,.int .i64 g,.bool p,.bool c,.bool d,.int .i64 m,.int .i64 a,.int .i64 g,.bool p,.bool c,.bool d,.int .i64 0,.int .i64 0,.int .i64 (-1),.int .i64 0,.int .i64 0,.slice none 0 0,.slice none 0 0,.bool false,.int .i64 0,.int .i64 0,.bool false,.bool false,.bool false,.int .i64 0,.int .i64 0,.bool false,.bool false,.bool false] (by as_aux_lemma=>kernel_rfl) ?_;refine wpList_store_rowTo rfl 32 (.tmp 2) (.tmp 9) rfl rfl (w.heap.size+1) #[.int .i64 m,.int .i64 a,.int .i64 g,.bool p,.bool c,.bool d,.int .i64 m,.int .i64 a,.int .i64 g,.bool p,.bool c,.bool d,.int .i64 0,.int .i64 0,.int .i64 (-1),.int .i64 0,.int .i64 0,.slice none 0 0,.slice none 0 0,.bool false,.int .i64 0,.int .i64 0,.bool false,.bool false,.bool false,.int .i64 0,.int .i64 0,.bool false,.bool false,.bool false] rfl rfl 32 _ (uh H1).2.1 aL rfl (by kernel_rfl) ?_;apply wpList_nil
  simp only [Act.put,List.setIfInBounds_toArray,List.set_cons_zero,List.set_cons_succ];go_wp2
  exact bodyPost_ret (v:=.agg #[.int .i64 m,.int .i64 a,.int .i64 g,.bool p,.bool c,.bool d,.int .i64 m,.int .i64 a,.int .i64 g,.bool p,.bool c,.bool d,.int .i64 0,.int .i64 0,.int .i64 (-1),.int .i64 0,.int .i64 0,.slice none 0 0,.slice none 0 0,.bool false,.int .i64 0,.int .i64 0,.bool false,.bool false,.bool false,.int .i64 0,.int .i64 0,.bool false,.bool false,.bool false]) (by simp [results,results38,asAddr,ja (setRow_heap w1 (w.heap.size+1) _ #[.int .i64 m,.int .i64 a,.int .i64 g,.bool p,.bool c,.bool d,.int .i64 m,.int .i64 a,.int .i64 g,.bool p,.bool c,.bool d,.int .i64 0,.int .i64 0,.int .i64 (-1),.int .i64 0,.int .i64 0,.slice none 0 0,.slice none 0 0,.bool false,.int .i64 0,.int .i64 0,.bool false,.bool false,.bool false,.int .i64 0,.int .i64 0,.bool false,.bool false,.bool false] _ _ (uh H1).2.1)]) rfl ⟨rfl,am (uh H1).2.2 (by omega) _⟩
end Go.Proofs.YtjdgiimfpkideaaGreatDoor
