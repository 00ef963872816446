/- EvN LaidEv FsmS Acts FsmI -/
import Derived.Test.YtjdgiimfpkideaaGreatDoorS06
import Derived.OpenVars
import Derived.Test.YtjdgiimfpkideaaGreatDoorFld
set_option maxHeartbeats 4000000
set_option maxRecDepth 100000
namespace Go.Proofs.YtjdgiimfpkideaaGreatDoor
open Go.RowKit Go.Proofs.Tryz
variable {w w' W:World} {E i:Nat} {x0 x1 x2:Value} {T:TypeId} {t:ByteArray}
def EvT(w:World):Prop:=∀(i:Nat)(t:ByteArray),kF[i]?=some t->w.cell? (0,i)=some (t:V)
theorem EvT.below(h:EvT w)(hb:Below w w w'):EvT w':=fun i t ht=>(hb.cell (p:=(0,i)) (World.block_lt_of_cell? _ _ (h i t ht))).trans (h i t ht)
theorem kR:kF.length=16:=rfl
theorem oZ(t:ByteArray)(w:World)(hT:EvT w):Calls prog 84 #[t] w fun e w'=>w'=w/\((∃i:Nat,kF[i]?=some t/\e=.returned (.tuple #[i,true]))\/((∀i:Nat,kF[i]?≠some t)/\e=.returned (.tuple #[(0:Int),false]))):=by
 have hl:=kR;have HT:Hid (∀(i:Nat)(h:i<kF.length),w.cell? (0,i)=some (.string kF[i])):=aa fun i h=>hT i _ (List.getElem?_eq_getElem h)
 clear hT;generalize kF=L at*;go_enter func84,ntmps84
 go_wp2_with fail
 go_loop [4,5] (fun x y=>∃(i:Nat),i<=16/\y=.int .i64 i/\∀j:Nat,j<i->L[j]?≠some t) (fun x y=>16-(intOf y).toNat)
 case atStart=>exact⟨0,Nat.zero_le _,rfl,fun j h=>absurd h (Nat.not_lt_zero _)⟩
 case round =>
  obtain⟨i,hi,rfl,hf⟩:=hrel;have HF:=aa hf;clear hf;by_cases hlt:i<16
  .have d1:(i:Int)<16:=by omega
   have d0:(0:Int)<=(i:Int):=by omega
   have k1:=uh HT i (by omega);obtain⟨x,hx⟩ := ex (L[i]'(by omega));rw[hx]at k1;have HX:Hid (L[i]?=some x):=aa (by rw[List.getElem?_eq_getElem (by omega),hx]);clear hx HT;cases hq:(x.toList==t.toList)
   .go_wp2_with fail
    go_round
    case rel =>
     refine⟨i+1,by omega,by go_num,fun j hj e=>?_⟩;by_cases hji:j<i
     .exact uh HF j hji e
     .have:j=i:=by omega
      subst this;rw[uh HX]at e;rw[Option.some.inj e,beq_self_eq_true]at hq;cases hq
    case measure=>simp[intOf];omega
   .have hxt:x=t:=by
     have:=eq_of_beq hq
     rw[ByteArray.toList_eq,ByteArray.toList_eq]at this;exact ByteArray.ext (Array.toList_inj.1 this)
    go_wp2
    exact bodyPost_ret (v:=.tuple #[i,true]) (by simp[results,results84,go_sem]) rfl ⟨rfl,Or.inl ⟨i,by rw[uh HX,hxt],rfl⟩⟩
  .have e:i=16:=by omega
   subst e;clear HT;go_wp2
   refine bodyPost_ret (v:=.tuple #[(0:Int),false]) (by simp[results,results84,go_sem]) rfl ⟨rfl,Or.inr ⟨fun j hj=>?_,rfl⟩⟩;by_cases hj16:j<16
   .exact uh HF j hj16 hj
   .rw [List.getElem?_eq_none (by omega)]at hj;cases hj
section
open Go.ChangeShapes Go.WideShapes Go.ChangeAt Go.RowKit
theorem own:ownKnob prog.godebug=none:=by kernel_rfl
theorem evG: prog.globalNamed "loop.example/g00351/impl.eventNames" = some 0 := by kernel_rfl
theorem o6:(prog.globals[0]?).map (·.type)=some 152:=by kernel_rfl
theorem oo:prog.cellsOf 9=1:=by kernel_rfl
theorem tQ:(Rows.laid_loop_example_g00351_impl_eventNames:DataW Unit)=.agg (iL.map fun x=>.lit (.string x.1)):=by kernel_rfl
theorem tR(h : Lib.VarReads prog W "loop.example/g00351/impl.eventNames" Rows.laid_loop_example_g00351_impl_eventNames): EvT W := by
 rw[tQ]at h;obtain⟨g,t,cs,fuel,p,hg,hty,hvar,hd⟩:=h;obtain rfl:=Option.some.inj (evG.symm.trans hg);obtain rfl:=Option.some.inj (o6.symm.trans hty);intro i x hx;have hi:i<16:=(List.getElem?_eq_some_iff.1 hx).1;obtain⟨fuel',d,q,hdi,he⟩:=Lib.array_elem underlying152 hd i hi;unfold kF at hx;rw[List.getElem?_map]at hx hdi;obtain⟨r,hr,rfl⟩:=Option.map_eq_some_iff.1 hx;rw[hr]at hdi;obtain rfl:=Option.some.inj hdi;rw[oo,Nat.mul_one]at he;obtain⟨s,hc,hz,hw⟩:=DataW.trod_string underlying9 he;rw[World.var?_cell hg hvar i,<- Array.getElem?_toList];have e0:cs.toList[i]?=some (.string s):=by
  have:=congrArg (·[0]?) hc
  simpa[List.getElem?_take,List.getElem?_drop]using this
 rw[e0];simp at hz;rw[hz.1];rfl
end
def ip(s:Nat)(t:ByteArray):ByteArray:=((bR (aW t) 44)[s]?).getD ⟨#[]⟩
def bO(s:Int)(t:ByteArray):Int × List ByteArray × Int :=
 if 8000<t.size then(0,[],2)else if ¬(0<=s/\s<=9)then(0,[],5)else if aW t=⟨#[]⟩then(0,[],6)else if(ip s.toNat t).toList=[45]then(s,[],8)
 else(((ip s.toNat t).data.toList.getLastD 0).toNat-48,if 2<(ip s.toNat t).size then bR ((ip s.toNat t).extract 0 ((ip s.toNat t).size-2)) 32 else[],0)
theorem kS:(prog.info? 115).map (·.size)=some 3:=by kernel_rfl
theorem nk(h:W.heap[E]?=some (.cells #[x0,x1,x2] 115)):(loadVar 115 (E,0)).run prog W=.ok (.agg #[x0,x1,x2]) W :=
 run_loadVar_row (P:=prog) _ _ 115 115 #[x0,x1,x2] (0,0) _ h underlying115 rfl kS
theorem Ax{z0 z1 z2:Value}(h:W.heap[E]?=some (.cells #[z0,z1,z2] T))(x0 x1 x2:Value):(((W.setCell (E,0) x0).setCell (E,1) x1).setCell (E,2) x2).heap[E]?=some (.cells #[x0,x1,x2] T) :=
 zH _ _ 2 _ _ x2 (zH _ _ 1 _ _ x1 (zH _ _ 0 _ _ x0 h))
theorem eW{n:Nat}(h:Below n w W)(hE:n<=E)(x0 x1 x2:Value):Below n w (((W.setCell (E,0) x0).setCell (E,1) x1).setCell (E,2) x2) :=
 ((h.setCell (p:=(E,0)) hE _).setCell (p:=(E,1)) hE _).setCell (p:=(E,2)) hE _
theorem ik{B:Nat}(h:w.heap[B]?=some (.cells #[x0,x1,x2] T)):w.cell? (B,0)=some x0/\w.cell? (B,1)=some x1/\w.cell? (B,2)=some x2/\w.frozen? (B,0)=false/\w.frozen? (B,1)=false/\w.frozen? (B,2)=false :=
 ⟨cv h,cv h,cv h,aX h _,aX h _,aX h _⟩
theorem rH(x:Int)(w:World):Calls prog 48 #[x,(0:Int),(9:Int)] w fun e w'=>e=.returned (.bool (decide (0<=x)&&decide (x<=9)))/\w'=w:=by
 by_cases h1:0<=x
 .have d1:decide ((0:Int)<=x)=true:=decide_eq_true h1;rw[d1,Bool.true_and];go_enter func48,ntmps48
  go_wp2
  go_ret
  exact⟨rfl,rfl⟩
 .have d1:decide ((0:Int)<=x)=false:=decide_eq_false h1;rw[d1,Bool.false_and];go_enter func48,ntmps48
  go_wp2
  go_ret
  exact⟨rfl,rfl⟩
def vD(r:Int × List ByteArray × Int)(w w':World)(e:Ending):Prop :=
 ∃ad cp,e=.returned (.agg #[.int .i64 r.1,.slice ad r.2.1.length cp,.int .i64 r.2.2])/\w'.ownsRow w.heap.size 9 1 (.slice ad r.2.1.length cp) r.2.1.length (a_ r.2.1)/\Below w.heap.size w w'
theorem mr(h:t≠⟨#[]⟩):t.toList.isEmpty=false:=by
 cases h2:t.toList with
 | nil=>exact absurd (cF h2) h
 | cons x l=>rfl
theorem rI(s:Int)(t:ByteArray)(w:World)(ht:t.size<=maxLen):Calls prog 71 #[s,t] w fun e w'=>vD (bO s t) w w' e:=by
 unfold maxLen at ht;have hr0:(w.alloc (.cells #[(0:Int),(),(0:Int)] 115)).heap[w.heap.size]?=some (.cells #[(0:Int),(),(0:Int)] 115):=heap_alloc_last w _;have hb0:Below w w (w.alloc (.cells #[(0:Int),(),(0:Int)] 115)):=(zC _ _).alloc (zD _) _;have H0:=aa (zA hr0 hb0);clear hr0 hb0;by_cases h1:8000<t.size
 .have d1:(8000:Int)<(t.size:Int):=by omega
  rw[show bO s t=(0,[],2)from if_pos h1];go_enter func71,ntmps71
  go_wp2
  refine bodyPost_ret (v:=.agg #[(0:Int),(),(2:Int)]) (by simp[results,results71,go_sem]) rfl ⟨none,0,rfl,⟨rfl,Or.inl ⟨rfl,rfl⟩⟩,?_⟩;exact(zC _ _).alloc (zD _) _
 have d1:¬((8000:Int)<(t.size:Int)):=by omega
 have C1:=aa fun v=>rH s v
 by_cases h2:¬(0<=s/\s<=9)
 .rw [show(decide (0<=s)&&decide (s<=9))=false by rw[<- Bool.not_eq_true,zK,decide_eq_true_eq,decide_eq_true_eq];exact h2]at C1;rw[show bO s t=(0,[],5)by unfold bO;rw[if_neg h1,if_pos h2]];go_enter func71,ntmps71
  go_wp2_with (first|(go_at_call 48;refine(uh C1 _).mono ?_;rintro e w1⟨rfl,rfl⟩))
  refine bodyPost_ret (v:=.agg #[(0:Int),(),(5:Int)]) (by simp[results,results71,go_sem]) rfl ⟨none,0,rfl,⟨rfl,Or.inl ⟨rfl,rfl⟩⟩,?_⟩;exact(zC _ _).alloc (zD _) _
 have h2':0<=s/\s<=9:=Classical.not_not.1 h2;rw[show(decide (0<=s)&&decide (s<=9))=true by simp[h2']]at C1;have C2:=aa fun v=>rF t v
 by_cases h3:aW t=⟨#[]⟩
 .rw [h3]at C2;rw[show bO s t=(0,[],6)by unfold bO;rw[if_neg h1,if_neg h2,if_pos h3]];go_enter func71,ntmps71
  go_wp2_with (first
   | (go_at_call 48;refine(uh C1 _).mono ?_;rintro e w1⟨rfl,rfl⟩)
   | (go_at_call 97;refine(uh C2 _).mono ?_;rintro e w1⟨rfl,rfl⟩))
  refine bodyPost_ret (v:=.agg #[(0:Int),(),(6:Int)]) (by simp[results,results71,go_sem]) rfl ⟨none,0,rfl,⟨rfl,Or.inl ⟨rfl,rfl⟩⟩,?_⟩;exact(zC _ _).alloc (zD _) _
 have hok:kQ (aW t).data.toList=true:=(oY t).resolve_left h3;obtain⟨k,rfl⟩:∃k:Nat,s=(k:Int):=⟨s.toNat,by omega⟩;have hk:k<10:=by omega
 have hemp:=mr h3;have HF:Hid (bO (k:Int) t=if(ip k t).toList=[45]then((k:Int),[],8)else(((ip k t).data.toList.getLastD 0).toNat-48,if 2<(ip k t).size then bR ((ip k t).extract 0 ((ip k t).size-2)) 32 else[],0)):=aa (by
  unfold bO;rw[if_neg h1,if_neg h2,if_neg h3];rfl)
 unfold ip at HF;change kQ (aW t).data.toList=true at hok
 generalize aW t=r at*;unfold kQ at hok;rw[zK,zK,zK,oW]at hok;obtain⟨⟨⟨hl10,hall⟩,_⟩,hr200⟩:=hok;replace hl10:=of_decide_eq_true hl10;replace hr200:=of_decide_eq_true hr200;have hrs:r.size<=100000:=by
  have:r.data.toList.length=r.size:=by rw[Array.length_toList];rfl
  omega
 have C3:=aa fun v=>jG r 44 v hrs
 obtain⟨x,hx⟩:∃x,(bR r 44)[k]?=some x:=⟨_,List.getElem?_eq_getElem (by omega)⟩;rw[hx,Option.getD_some]at HF;have hxo:yj x=true:=List.all_eq_true.1 hall x (List.mem_of_getElem? hx);generalize bR r 44=L at*;obtain⟨R,hR⟩:∃R,(if x.toList=[45]then((k:Int),([]:List ByteArray),(8:Int))else((x.data.toList.getLastD 0).toNat-48,if 2<x.size then bR (x.extract 0 (x.size-2)) 32 else[],0))=R:=⟨_,rfl⟩;rw[uh HF,hR];have HR:=aa hR;clear hR HF hall h1 h2 h3 hr200 hrs;have hk9:(k:Int)<10:=by omega
 have hk0:(0:Int)<=(k:Int):=by omega
 go_enter func71,ntmps71
 go_wp2_with (first
  | (go_at_call 48;refine cq (uh C1 _) ?_)
  | (go_at_call 97;refine cq (uh C2 _) ?_)
  | fail)
 refine(uh C3 _).mono ?_;rintro e w2⟨ad,cp,rfl,ho2,hb2⟩;have hr2:=(hb2.block w (ge.1 H0.out.1).1).trans H0.out.1;have hB2:=H0.out.2.trans (hb2.mono H0.out.2.size);have hc2 : ∃gL,ad=some ⟨gL,0,none⟩/\w2.cell? ⟨gL,k,none⟩=some (.string x):=by
  rcases HoldsT.own ho2 with⟨_,_,_,e⟩|⟨gL,cp',cur,e,q1,q2,q3⟩
  .rw [e]at hl10;cases hl10
  .cases e;exact⟨gL,rfl,by rw[cr q1,q3 k (by omega)];exact iK _ _ _ hx⟩
 obtain⟨gL,rfl,k0⟩:=hc2;obtain⟨r0,r1,r2,f0,f1,f2⟩:=ik hr2;have H2:=aa (zA hr2 hB2);rw[hl10];clear ho2 hb2 hr2 hB2 H0 C1 C2 C3 hx hemp;go_upto_region 9 with fail
 by_cases h45:x.toList=[45]
 .have e45:(x.toList==[45])=true:=by rw[h45];rfl
  have hR:=uh HR;rw[if_pos h45]at hR;subst hR;clear HR h45;go_wp2
  refine bodyPost_ret (v:=.agg #[k,(),(8:Int)]) (by simp[results,results71,asAddr,nk (Ax H2.out.1 k () (8:Int))]) rfl ⟨none,0,rfl,⟨rfl,Or.inl ⟨rfl,rfl⟩⟩,eW H2.out.2 (zD _) _ _ _⟩
 .have e45:(x.toList==[45])=false:=zL h45;have hR:=uh HR;rw[if_neg h45]at hR;unfold yj at hxo;rw[zK,zK,<- ByteArray.toList_eq,e45,Bool.or_false,zK]at hxo;obtain⟨⟨hx1,hx30⟩,hc1,hc2⟩:=hxo;replace hx1:=of_decide_eq_true hx1;replace hx30:=of_decide_eq_true hx30;replace hc1:=of_decide_eq_true hc1;replace hc2:=of_decide_eq_true hc2;rw[ByteArray.toList_eq]at hc1 hc2;have hlast:x.data.toList.getLastD 0=x[x.size-1]:=by
   rw[List.getLastD_eq_getLast?,List.getLast?_eq_getElem?,List.getElem?_eq_getElem (by rw[Array.length_toList];show x.data.size-1<x.data.size;have:x.size=x.data.size:=rfl;omega)];rfl
  rw[hlast]at hR hc1 hc2;have d1':(1:Int)<=(x.size:Int):=by omega
  have HRR:=aa hR;clear hR HR hlast h45;go_upto_region 12 with fail
  have hlw:w.heap.size<w2.heap.size:=(ge.1 H2.out.1).1
  refine bb (fun q=>q.heap[w.heap.size]?=some (.cells #[(0:Int),(),(0:Int)] 115)/\q.heap[w2.heap.size]?=some (.cells #[.int .i64 ((x[x.size-1].toNat:Int)-48),(),(0:Int)] 115)/\Below w w q)
   ⟨(zG _ _ _ hlw).trans H2.out.1,zF w2 _,H2.out.2.alloc H2.out.2.size _⟩ ?_
  rintro q⟨hq1,hq2,hq3⟩;generalize w2.heap.size=N at*;clear H2 k0 r0 r1 r2 f0 f1 f2 hc1 hc2;generalize (x[x.size-1].toNat:Int)-48=st at*;have hlN:N<q.heap.size:=(ge.1 hq2).1;by_cases h2s:2<x.size
  .have d2:(2:Int)<(x.size:Int):=by omega
   have hR:=uh HRR;rw[if_pos h2s]at hR;have C4:=aa fun v=>jG (x.extract 0 (x.size-2)) 32 v (by rw[ByteArray.size_extract];omega)
   obtain⟨A,hA⟩ := ex (bR (x.extract 0 (x.size-2)) 32);rw[hA]at hR C4;subst hR;clear hA;obtain⟨m0,m1,m2,g0,g1,g2⟩:=ik hq2;have HQ:=aa (zA hq1 (zA hq2 hq3));clear hq1 hq2 hq3 HRR;go_wp2_with fail
   refine(uh C4 _).mono ?_;rintro e w5⟨ad5,cp5,rfl,ho5,hb5⟩;have hr5:=(hb5.block w (by omega)).trans HQ.out.1;have hn5:=(hb5.block N hlN).trans HQ.out.2.1;have hB5:=HQ.out.2.2.trans (hb5.mono HQ.out.2.2.size);have hs5:=hb5.size;clear m0 m1 m2 g0 g1 g2;obtain⟨m0,m1,m2,g0,g1,g2⟩:=ik hn5;have H5:=aa (zA hr5 (zA hn5 (zA hB5 ho5)));clear hr5 hn5 hB5 ho5 hb5 HQ C4;go_upto_region 14 with fail
   refine bb (fun q'=>q'.heap[w.heap.size]?=some (.cells #[(0:Int),(),(0:Int)] 115)/\q'.heap[N]?=some (.cells #[st,(ad5,A.length,cp5),(0:Int)] 115)/\Below w w q'/\q'.ownsRow q 9 1 (ad5,A.length,cp5) A.length (a_ A))
    ⟨by rw[zJ _ _ _ _ (by simp;omega)];exact H5.out.1,zH _ _ 1 _ _ _ H5.out.2.1,H5.out.2.2.1.setCell (p:=(N,1)) (by simp;omega) _,aY H5.out.2.2.2 fun g hg _=>zJ _ _ _ _ (by simp;omega)⟩ ?_
   rintro q6⟨e1,e2,e3,e4⟩;clear m0 m1 m2 g0 g1 g2;obtain⟨m0,m1,m2,_,_,_⟩:=ik e2;obtain⟨r0,r1,r2,f0,f1,f2⟩:=ik e1;have H6:=aa (zA e1 (zA e3 e4));clear e1 e2 e3 e4 H5;go_wp2
   refine bodyPost_ret (v:=.agg #[st,(ad5,A.length,cp5),(0:Int)]) (by simp[results,results71,asAddr,nk (Ax H6.out.1 st (ad5,A.length,cp5) (0:Int))]) rfl ⟨ad5,cp5,rfl,?_,eW H6.out.2.1 (zD _) _ _ _⟩;have:=aY (w':=((q6.setCell (w,0) st).setCell (w,1) (ad5,A.length,cp5)).setCell (w,2) (0:Int)) H6.out.2.2 fun g hg _=>by
    rw[zJ _ _ _ _ (by simp;omega),zJ _ _ _ _ (by simp;omega),zJ _ _ _ _ (by simp;omega)]
   exact⟨this.1,this.2.imp id fun⟨g,cap,cur,h1,h2,h3⟩=>⟨g,cap,cur,h1,by omega,h3⟩⟩
  .have d2:¬((2:Int)<(x.size:Int)):=by omega
   have hR:=uh HRR;rw[if_neg h2s]at hR;subst hR;obtain⟨m0,m1,m2,_,_,_⟩:=ik hq2;obtain⟨r0,r1,r2,f0,f1,f2⟩:=ik hq1;have H6:=aa (zA hq1 hq3);clear hq1 hq2 hq3 HRR;go_wp2
   exact bodyPost_ret (v:=.agg #[st,(),(0:Int)]) (by simp[results,results71,asAddr,nk (Ax H6.out.1 st () (0:Int))]) rfl ⟨none,0,rfl,⟨rfl,Or.inl ⟨rfl,rfl⟩⟩,eW H6.out.2 (zD _) _ _ _⟩
section
def j9:List (List (List UInt8)):=[[[],[105,114,99,32,115,99,114],[],[],[],[],[],[],[],[]],
 [[],[],[],[116,108,115],[],[],[],[],[],[116,108,100]],
 [[116,108,115],[],[105,114,99,32,115,99,114],[],[],[],[],[],[],[]],
 [[],[116,108,102],[],[],[],[],[105,114,99,32,115,116,114],[105,114,99,32,115,116,114],[105,114,99,32,115,116,114],[116,108,100,32,105,114,99,32,115,116,114]],
 [[],[],[],[],[115,116,114],[115,116,114],[115,99,114],[115,99,114],[115,99,114],[]],
 [[],[],[],[],[116,108,102],[116,108,102],[116,108,102],[116,108,102],[116,108,102],[]],
 [[],[],[115,116,97],[105,114,99,32,115,99,114,32,115,99,97],[],[],[115,99,97],[115,99,97,32,116,108,117],[115,99,97],[116,108,100,32,115,99,114,32,115,99,97]],
 [[],[],[115,116,97],[105,114,99,32,115,99,114,32,115,99,110],[],[],[115,99,110],[115,99,110],[115,99,110],[116,108,100,32,115,99,114,32,115,99,110]],
 [[],[],[115,116,97],[115,116,97],[],[],[105,114,99],[115,99,114],[105,114,99,32,116,108,117],[116,108,100,32,115,99,114]],
 [[],[],[115,116,97],[115,116,97],[],[],[105,114,99,32,115,99,114],[115,99,114],[105,114,99,32,115,99,114],[116,108,100,32,115,99,114]],
 [[],[],[115,116,97],[115,116,97],[115,116,97],[115,116,97],[115,116,97],[115,116,97],[115,116,97],[116,108,100,32,122,114,99,32,115,116,97]],
 [[],[],[],[],[116,108,102],[116,108,102],[],[],[],[116,108,100,32,115,99,114]],
 [[],[],[115,99,106],[115,99,106],[115,99,106],[115,99,106],[115,99,106],[115,99,106],[115,99,106],[115,99,106]],
 [[],[],[],[],[],[],[],[],[],[]],
 [[],[],[116,108,102],[116,108,102],[116,108,102],[116,108,102],[116,108,102],[116,108,102],[116,108,102],[116,108,100,32,105,114,99,32,115,116,114]],
 [[],[],[],[],[],[],[],[],[],[115,101,114]]]
def iy:List (List Int):=[[2,6,-1,-1,-1,-1,-1,-1,-1,-1],
 [-1,-1,0,1,0,1,1,1,1,1],
 [1,1,6,3,5,5,6,7,8,9],
 [0,0,2,2,4,4,4,4,4,4],
 [-1,-1,-1,-1,4,5,6,6,8,-1],
 [-1,-1,-1,-1,2,3,3,3,3,-1],
 [-1,-1,2,8,4,5,8,9,8,8],
 [-1,-1,2,6,4,5,6,7,6,6],
 [-1,-1,2,3,4,5,7,6,9,6],
 [-1,-1,2,3,4,5,6,6,8,6],
 [-1,-1,2,3,4,5,6,6,6,5],
 [-1,-1,2,3,2,3,6,6,8,6],
 [-1,-1,2,3,4,5,6,7,8,9],
 [-1,-1,2,3,4,5,6,6,8,9],
 [-1,-1,2,3,2,3,3,3,3,5],
 [-1,-1,2,3,4,5,6,7,8,9]]
def cX(i:Nat):Array Value:=((j9.getD i []).map fun l=>Value.string ⟨l.toArray⟩).toArray
def iM:Array Value:=(j9.flatten.map fun l=>Value.string ⟨l.toArray⟩).toArray
def dE(i s:Nat):ByteArray:=⟨((j9.getD i []).getD s []).toArray⟩
theorem o7:((List.range 16).all fun i=>(List.range 10).all fun s=>match iM[i*10+s]? with|some (.string t)=>decide (t=dE i s)|_=>false)=true:=by kernel_rfl
theorem rJ{s:Nat}(hi:i<16)(hs:s<10):iM[i*10+s]?=some (.string (dE i s)):=by
 have h:=List.all_eq_true.1 (List.all_eq_true.1 o7 i (List.mem_range.2 hi)) s (List.mem_range.2 hs);split at h
 .next t e=>rw[e,of_decide_eq_true h]
 .cases h
attribute [local irreducible] cX iM
theorem o8(i s:Nat)(hi:i<16)(hs:s<10)(w:World):Calls prog 135 #[i,s] w fun e w'=>e=.returned (.string (dE i s))/\w'=w.alloc (.cells iM 199):=by
 have hc:(w.alloc (.cells iM 199)).cell? ⟨w.heap.size,i*10+s,none⟩=some (.string (dE i s)):=by
  rw[cr (zF w _)];exact rJ hi hs
 have d1:(i:Int)<16:=by omega
 have d2:(s:Int)<10:=by omega
 go_enter func135,ntmps135
 go_upto_region 1 with fail
 apply wp_region_lit
 refine wpList_buildTo rfl 198 _ rfl (some 6) rfl (cX 0) (by as_aux_lemma=>kernel_rfl) ?_;refine wpList_buildTo rfl 198 _ rfl (some 7) rfl (cX 1) (by as_aux_lemma=>kernel_rfl) ?_;refine wpList_buildTo rfl 198 _ rfl (some 8) rfl (cX 2) (by as_aux_lemma=>kernel_rfl) ?_;refine wpList_buildTo rfl 198 _ rfl (some 9) rfl (cX 3) (by as_aux_lemma=>kernel_rfl) ?_;refine wpList_buildTo rfl 198 _ rfl (some 10) rfl (cX 4) (by as_aux_lemma=>kernel_rfl) ?_;refine wpList_buildTo rfl 198 _ rfl (some 11) rfl (cX 5) (by as_aux_lemma=>kernel_rfl) ?_;refine wpList_buildTo rfl 198 _ rfl (some 12) rfl (cX 6) (by as_aux_lemma=>kernel_rfl) ?_;refine wpList_buildTo rfl 198 _ rfl (some 13) rfl (cX 7) (by as_aux_lemma=>kernel_rfl) ?_;refine wpList_buildTo rfl 198 _ rfl (some 14) rfl (cX 8) (by as_aux_lemma=>kernel_rfl) ?_;refine wpList_buildTo rfl 198 _ rfl (some 15) rfl (cX 9) (by as_aux_lemma=>kernel_rfl) ?_;refine wpList_buildTo rfl 198 _ rfl (some 16) rfl (cX 10) (by as_aux_lemma=>kernel_rfl) ?_;refine wpList_buildTo rfl 198 _ rfl (some 17) rfl (cX 11) (by as_aux_lemma=>kernel_rfl) ?_;refine wpList_buildTo rfl 198 _ rfl (some 18) rfl (cX 12) (by as_aux_lemma=>kernel_rfl) ?_;refine wpList_buildTo rfl 198 _ rfl (some 19) rfl (cX 14) (by as_aux_lemma=>kernel_rfl) ?_;refine wpList_buildTo rfl 198 _ rfl (some 20) rfl (cX 15) (by as_aux_lemma=>kernel_rfl) ?_;refine wpList_buildTo rfl 199 _ rfl (some 21) rfl iM (by as_aux_lemma=>kernel_rfl) ?_;refine Great.wpList_allocTo rfl (some 5) rfl (w,0) (.cells (Array.replicate 160 (.string ⟨#[]⟩)) 199) (by as_aux_lemma=>kernel_rfl) ?_;refine wpList_store_rowTo rfl 199 _ _ rfl rfl w iM (by as_aux_lemma=>kernel_rfl) (by as_aux_lemma=>kernel_rfl) 199 _ (zF w _) (by as_aux_lemma=>kernel_rfl) (by as_aux_lemma=>kernel_rfl) (by as_aux_lemma=>kernel_rfl) ?_;rw[World.setRow_alloc_new];refine wpList_frame (a':=⟨#[i,s,undef,undef,.string ⟨#[]⟩,(w,0),.agg (cX 0),.agg (cX 1),.agg (cX 2),.agg (cX 3),.agg (cX 4),.agg (cX 5),.agg (cX 6),.agg (cX 7),.agg (cX 8),.agg (cX 9),.agg (cX 10),.agg (cX 11),.agg (cX 12),.agg (cX 14),.agg (cX 15),.agg iM,undef,undef,undef,undef,undef],[]⟩) (by as_aux_lemma=>kernel_rfl) ?_;apply wpList_nil
 go_wp2
 go_ret
 exact⟨rfl,rfl⟩
end
def iN(i s:Nat):Int:=(iy.getD i []).getD s 0
def NxT(w:World):Prop:=∀i s:Nat,i<16->s<10->w.cell? ⟨1,i*10+s,none⟩=some (.int .i64 (iN i s))
theorem NxT.below(h:NxT w)(hb:Below w w w'):NxT w':=fun i s hi hs=>(hb.cell (p:=⟨1,i*10+s,none⟩) (World.block_lt_of_cell? _ _ (h i s hi hs))).trans (h i s hi hs)
def SpT(w:World):Prop:=∀c:Nat,c<256->w.cell? (2,c)=some (.int .u8 (if Lib.isSp (UInt8.ofNat c)then 1 else 0))
theorem SpT.below(h:SpT w)(hb:Below w w w'):SpT w':=fun c hc=>(hb.cell (p:=(2,c)) (World.block_lt_of_cell? _ _ (h c hc))).trans (h c hc)
def cU(t:ByteArray):List ByteArray:=(Lib.fields t.data.toList).map fun l=>⟨l.toArray⟩
theorem B2(s:ByteArray)(w:World)(hs:s.size<=30)(ha:(s.data.toList.all fun b=>decide (b.toNat<128))=true)(hT:SpT w):Calls prog 134 #[s] w fun e w'=>e=.returned (.slice (some (w,0)) (cU s).length (cU s).length)/\w'=w.alloc (.cells (a_ (cU s)).toArray 9):=by
 refine(Any.strings_Fields_core Tryz.laysFld (by kernel_rfl) s w (by omega) (fun j b hj=>of_decide_eq_true (List.all_eq_true.1 ha b (List.mem_of_getElem? hj))) hT).mono ?_;rintro e w'⟨rfl,rfl⟩;refine⟨by simp[cU],?_⟩;simp only[cU,a_,List.map_map];rfl
def tU(t:ByteArray):ByteArray:=co (((iL.find? fun x=>x.1==t.data.toList).map fun x=>x.2).getD [])
def oq(s:Nat)(t:ByteArray):ByteArray:=((bR (tU t) 44)[s]?).getD ⟨#[]⟩
def tV(s:Int)(t:ByteArray):Int × List ByteArray × Int :=
 if 8000<t.size then(0,[],2)else if ¬(0<=s/\s<=9)then(0,[],5)else if tU t=⟨#[]⟩then(0,[],6)else if(oq s.toNat t).data.toList=[45]then(s,[],8)
 else(((oq s.toNat t).data.toList.getLastD 0).toNat-48,if 2<(oq s.toNat t).size then bR ((oq s.toNat t).extract 0 ((oq s.toNat t).size-2)) 32 else[],0)
theorem rK(s:Int)(t:ByteArray):bO s t=tV s t:=by
 unfold bO tV ip oq aW tU;simp only[ByteArray.toList_eq]
theorem places:((List.range 16).all fun i=>(List.range 10).all fun k=>decide (tV (k:Int) (kF.getD i ⟨#[]⟩)=if iN i k=-1 then((k:Int),[],8)else(iN i k,cU (dE i k),0))&&decide ((dE i k).size<=30/\(cU (dE i k)).length<=30)&&((dE i k).data.toList.all fun b=>decide (b.toNat<128)))=true:=by kernel_rfl
theorem iO{k:Nat}(ht:kF[i]?=some t)(hk:k<10):(bO (k:Int) t=if iN i k=-1 then((k:Int),[],8)else(iN i k,cU (dE i k),0))/\((dE i k).size<=30/\(cU (dE i k)).length<=30)/\((dE i k).data.toList.all fun b=>decide (b.toNat<128))=true:=by
 have hi:i<16:=(List.getElem?_eq_some_iff.1 ht).1;have h:=List.all_eq_true.1 (List.all_eq_true.1 places i (List.mem_range.2 hi)) k (List.mem_range.2 hk);rw[zK,zK]at h;have e:kF.getD i ⟨#[]⟩=t:=by rw[List.getD_eq_getElem?_getD,ht];rfl
 rw[e]at h;rw[rK];exact⟨of_decide_eq_true h.1.1,of_decide_eq_true h.1.2,h.2⟩
theorem mu(h:∀i:Nat,kF[i]?≠some t):aW t=⟨#[]⟩:=by
 unfold aW;rw[List.find?_eq_none.2 fun x hx e=>?_]
 .rfl
 .have ht:t=co x.1:=cF (eq_of_beq e).symm;obtain⟨i,hi⟩:=List.getElem?_of_mem (List.mem_map.2 ⟨x,hx,ht.symm⟩:t∈kF);exact h i hi
theorem nl(s:Int)(t:ByteArray)(w:World)(ht:t.size<=maxLen)(hE:EvT w)(hN:NxT w)(hS:SpT w):Calls prog 117 #[s,t] w fun e w'=>vD (bO s t) w w' e:=by
 unfold maxLen at ht;have hr0:(w.alloc (.cells #[(0:Int),(),(0:Int)] 115)).heap[w.heap.size]?=some (.cells #[(0:Int),(),(0:Int)] 115):=heap_alloc_last w _;have hb0:Below w w (w.alloc (.cells #[(0:Int),(),(0:Int)] 115)):=(zC _ _).alloc (zD _) _;have H0:=aa (zA hr0 hb0);by_cases h1:8000<t.size
 .have d1:(8000:Int)<(t.size:Int):=by omega
  rw[show bO s t=(0,[],2)from if_pos h1];clear hr0 hb0;go_enter func117,ntmps117
  go_wp2
  refine bodyPost_ret (v:=.agg #[(0:Int),(),(2:Int)]) (by simp[results,results117,go_sem]) rfl ⟨none,0,rfl,⟨rfl,Or.inl ⟨rfl,rfl⟩⟩,?_⟩;exact(zC _ _).alloc (zD _) _
 have d1:¬((8000:Int)<(t.size:Int)):=by omega
 by_cases h2:¬(0<=s/\s<=9)
 .rw [show bO s t=(0,[],5)by unfold bO;rw[if_neg h1,if_pos h2]];clear hr0 hb0;by_cases h3:s<0
  .go_enter func117,ntmps117
   go_wp2
   refine bodyPost_ret (v:=.agg #[(0:Int),(),(5:Int)]) (by simp[results,results117,go_sem]) rfl ⟨none,0,rfl,⟨rfl,Or.inl ⟨rfl,rfl⟩⟩,?_⟩;exact(zC _ _).alloc (zD _) _
  .have d2:(10:Int)<=s:=by omega
   go_enter func117,ntmps117
   go_wp2
   refine bodyPost_ret (v:=.agg #[(0:Int),(),(5:Int)]) (by simp[results,results117,go_sem]) rfl ⟨none,0,rfl,⟨rfl,Or.inl ⟨rfl,rfl⟩⟩,?_⟩;exact(zC _ _).alloc (zD _) _
 have h2':0<=s/\s<=9:=Classical.not_not.1 h2;have h1':=aa h1;have HN3:Hid (aW t=⟨#[]⟩->bO s t=(0,[],6)):=aa fun h3=>by unfold bO;rw[if_neg h1,if_neg h2,if_pos h3]
 obtain⟨k,rfl⟩:∃k:Nat,s=(k:Int):=⟨s.toNat,by omega⟩;have hk:k<10:=by omega
 have d2:¬((k:Int)<0):=by omega
 have d3:¬((10:Int)<=(k:Int)):=by omega
 have d4:(k:Int)<10:=by omega
 have C1:=aa (oZ t _ (hE.below hb0));have HNX:=aa (hN.below hb0);have HSP:=aa (hS.below hb0);clear hE hN hS h1 h2 h2' hr0 hb0 h1';obtain⟨R,hR⟩ := ex (bO (k:Int) t);rw[hR]at HN3;rw[hR];have HR:=aa hR;clear hR;go_enter func117,ntmps117
 go_wp2_with fail
 refine C1.out.mono ?_;rintro e w1⟨hw,⟨i,hi,rfl⟩ |⟨hn,rfl⟩⟩
 .subst hw;have hi16:i<16:=(List.getElem?_eq_some_iff.1 hi).1;obtain⟨hF,⟨hz,hzl⟩,hascii⟩:=iO hi hk;have c1:=uh HNX i k hi16 hk;have d5:(i:Int)<16:=by omega
  rw[uh HR]at hF;clear HR;have CA:=aa fun v=>o8 i k hi16 hk v
  have CF:=aa fun v=>B2 (dE i k) v hz hascii
  clear hi hz hascii HN3 HNX C1;generalize cU (dE i k)=F at*;generalize dE i k=ta at*;generalize iN i k=nx at*;go_upto_region 9 with fail
  by_cases hx:nx=-1
  .subst hx;rw[if_pos rfl]at hF;subst hF;clear CA CF HSP;go_wp2
   exact bodyPost_ret (v:=.agg #[k,(),(8:Int)]) (by simp[results,results117,go_sem]) rfl ⟨none,0,rfl,⟨rfl,Or.inl ⟨rfl,rfl⟩⟩,(zC _ _).alloc (zD _) _⟩
  .rw [if_neg hx]at hF;subst hF;have d6:(nx == -1)=false:=by simpa using hx
   have HSP2:Hid (SpT ((w.alloc (.cells #[(0:Int),(),(0:Int)] 115)).alloc (.cells iM 199))):=aa (HSP.out.below ((zC _ _).alloc (zD _) _));clear HSP c1
   go_wp2_with (first
    | (go_at_call 135;refine(uh CA _).mono ?_;rintro e w2⟨rfl,hw⟩;subst hw)
    | fail)
   refine(uh CF _ HSP2.out).mono ?_;rintro e w3⟨rfl,hw⟩;have hs1:(w.alloc (.cells #[(0:Int),(),(0:Int)] 115)).heap.size=w.heap.size+1:=by simp
   have hs2:((w.alloc (.cells #[(0:Int),(),(0:Int)] 115)).alloc (.cells iM 199)).heap.size=w.heap.size+1+1:=by rw[World.size_alloc,hs1]
   have hr3:w3.heap[w.heap.size]?=some (.cells #[(0:Int),(),(0:Int)] 115):=by
    rw[hw,zG _ _ _ (by omega),zG _ _ _ (by omega)];exact H0.out.1
   have hB3:Below w w w3:=by
    rw[hw];exact(H0.out.2.alloc (by omega) _).alloc (by omega) _
   have ho3:w3.ownsRow (w.heap.size+1+1) 9 1 (.slice (some ⟨w.heap.size+1+1,0,none⟩) F.length F.length) F.length (a_ F):=by
    have h:=World.ownsRow_lit (base:=w.heap.size+1+1) ((w.alloc (.cells #[(0:Int),(),(0:Int)] 115)).alloc (.cells iM 199)) (e:=9) (size:=1) (a_ F).toArray F.length (by omega) (by unfold maxLen;omega) (by simp[mq]);rw[hs2,<- hw]at h;exact h
   rw[hs2];have H3:=aa (zA hr3 (zA hB3 ho3));obtain⟨r0,r1,r2,f0,f1,f2⟩:=ik hr3;clear hr3 hB3 ho3 hw hs1 hs2 HSP2 CF CA H0;go_wp2
   refine bodyPost_ret (v:=.agg #[nx,.slice (some ⟨w.heap.size+1+1,0,none⟩) F.length F.length,(0:Int)]) (by simp[results,results117,asAddr,nk (Ax H3.out.1 nx (.slice (some ⟨w.heap.size+1+1,0,none⟩) F.length F.length) (0:Int))]) rfl ⟨_,_,rfl,?_,eW H3.out.2.1 (zD _) _ _ _⟩;have:=aY (w':=((w3.setCell (w,0) nx).setCell (w,1) (.slice (some ⟨w.heap.size+1+1,0,none⟩) F.length F.length)).setCell (w,2) (0:Int)) H3.out.2.2 fun g hg _=>by
    rw[zJ _ _ _ _ (by simp;omega),zJ _ _ _ _ (by simp;omega),zJ _ _ _ _ (by simp;omega)]
   exact⟨this.1,this.2.imp id fun⟨g,cap,cur,h1,h2,h3⟩=>⟨g,cap,cur,h1,by omega,h3⟩⟩
 .subst hw;have hF:=uh HN3 (mu hn);subst hF;clear HN3 hn HNX HSP HR;go_wp2
  refine bodyPost_ret (v:=.agg #[(0:Int),(),(6:Int)]) (by simp[results,results117,go_sem]) rfl ⟨none,0,rfl,⟨rfl,Or.inl ⟨rfl,rfl⟩⟩,?_⟩;exact(zC _ _).alloc (zD _) _
end Go.Proofs.YtjdgiimfpkideaaGreatDoor
