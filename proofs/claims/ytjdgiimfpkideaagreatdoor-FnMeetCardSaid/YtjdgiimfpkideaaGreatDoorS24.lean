/- WkG WkH OptRd EndSz LwD MtH -/
import Derived.Test.YtjdgiimfpkideaaGreatDoorS22
import Derived.Test.YtjdgiimfpkideaaGreatDoorS20
import Derived.Shelf.RegionOpen
import Derived.OwnWalkIn
import Derived.LoopNIn
import Derived.LoopIn
set_option maxHeartbeats 8000000
set_option maxRecDepth 100000
namespace Go.Proofs.YtjdgiimfpkideaaGreatDoor
open Go.RowKit Go.Proofs.Tryz
variable {o:EO} {a E X B base n lo hi b:Nat} {w w' W q q':World} {v x0 x1:Value} {cs:Array Value} {T:TypeId} {e:En} {F1 F2:List Op.Opt} {t:ByteArray} {cl:List Value}
def bY(now:Int):Cx:=⟨now,0,0,⟨#[]⟩,[],0,[],(),.slice none 0 0⟩
abbrev jF(e:En)(v1 v2:Value)(now:Int):List Value:=lF (bY now) e v1 v2 () ()
theorem gH{P:Program}{o:Oper}{a:Act}{K:Act->World->Prop}{Q:Exit->Act->World->Prop}(hrun:(execOp a.eval o).run P w=.ok (.value v) w')(h:K (a.put o.dst v) w'):Oper.wp P o a w K Q:=by
 unfold Oper.wp;rw[hrun,Oper.upon_value];exact h
theorem Bi(h:W.heap[E]?=some (.cells cs T)):W.rangeAt E 0 cs.toList:=by
 intro j u hu;rw[cr h,Nat.zero_add,<- Array.getElem?_toList];exact hu
theorem Lay.start(hT:Tt T){z:World}{v1 v2:Value}{n1 n2:Nat}(e1:F1.length=n1)(e2:F2.length=n2)(now:Int)(o1:z.ownsRow w 105 2 v1 n1 (aj F1))(o2:z.ownsRow w 105 2 v2 n2 (aj F2))(ap:Ap v1 v2)(lo:Below w w z):Lay T w (z.alloc (.cells (jF e v1 v2 now).toArray T)) z (bY now) ⟨e,F1,F2,[],[]⟩ v1 v2 () () (z.alloc (.cells (jF e v1 v2 now).toArray T)):=by
 subst e1 e2;have hb:Below z z (z.alloc (.cells (jF e v1 v2 now).toArray T)):=(zC _ _).alloc (zD _) _;exact⟨zF z _,aP o1 hb,aP o2 hb,World.ownsRow_nil _ _ _ _,World.ownsRow_nil _ _ _ _,World.ownsRow_nil _ _ _ _,eY _ _ _,lo.size,hT,ap,(Ap.none _ _ _).symm,lo.trans (hb.mono lo.size),Nr.refl _ _⟩
theorem xh(now:Int)(w:World):Calls prog 70 #[now] w fun e w'=>e=.returned (.bool (bh 0 1000000000 now))/\w'=w:=by
 have C:=aa (dl now 0 1000000000 w);go_enter func70,ntmps70
 go_wp2_with fail
 refine cq C.out ?_;go_wp2
 go_ret
 exact⟨rfl,rfl⟩
def uW(T:TypeId)(w:World)(e:En)(F1 F2:List Op.Opt)(now:Int)(ok:Bool)(r:Ending)(w':World):Prop :=
 ∃B v1 v2,r=.returned (.tuple #[(B,0),ok])/\Lay T w w' B (bY now) ⟨e,F1,F2,[],[]⟩ v1 v2 () () w'
theorem mU(e:En)(x1 x2:Option Addr)(y1 y2:Nat)(F1 F2:List Op.Opt)(now:Int)(w:World)(l1:F1.length<=1048576)(l2:F2.length<=1048576)(h1:HoldsO w (x1,F1.length,y1) F1)(h2:HoldsO w (x2,F2.length,y2) F2):Calls prog 51 #[.agg (aA e (x1,F1.length,y1) (x2,F2.length,y2)),now] w fun r w'=>uW 99 w e F1 F2 now (dJ e F1 F2&&bh 0 1000000000 now) r w':=by
 have CC:=aa fun W (hb:Below w w W)=>FR e x1 x2 y1 y2 F1 F2 W l1 l2 (h1.below hb rfl) (h2.below hb rfl)
 have CR:=aa fun W (hb:Below w w W)=>kv e x1 x2 y1 y2 F1 F2 W (by unfold maxLen;omega) (by unfold maxLen;omega) (h1.below hb rfl) (h2.below hb rfl)
 have CT:=aa fun W=>xh now W
 clear h1 h2;have hA:=zF w (.cells (aA e (x1,F1.length,y1) (x2,F2.length,y2)) 32);have hbA:Below w w (w.alloc (.cells (aA e (x1,F1.length,y1) (x2,F2.length,y2)) 32)):=(zC _ _).alloc (zD _) _;have H0:=aa (zA hA hbA);clear hA hbA;generalize dJ e F1 F2=ok1 at*;generalize bh 0 1000000000 now=ok2 at*;obtain⟨n1,e1⟩:∃n,F1.length=n:=⟨_,rfl⟩;obtain⟨n2,e2⟩:∃n,F2.length=n:=⟨_,rfl⟩;rw[e1]at CC CR H0|-;rw[e2]at CC CR H0|-;go_enter func51,ntmps51
 go_upto_region 1 with fail
 refine bb (fun z=>z.heap[w.heap.size]?=some (.cells (aA e (x1,n1,y1) (x2,n2,y2)) 32)/\Below w w z) ?_ ?_
 .exact uh H0
 clear H0;rintro z⟨za,zl⟩;have HZ:=aa (zA za (zl.trans ((zC _ _).drew.mono zl.size)));refine wp_region_held_drew (S:=fun z=>z.heap[w.heap.size]?=some (.cells (aA e (x1,n1,y1) (x2,n2,y2)) 32)) (by kernel_rfl) ?_ (fun hHeld=>?_)
 .exact za
 clear za zl;refine t4 0 (.agg (aA e (x1,n1,y1) (x2,n2,y2))) rfl (yieldsIf_load_mid (by rfl) 32 (.tmp 2) rfl w 0 rfl (aA e (x1,n1,y1) (x2,n2,y2)).toList _ (fun z hz=>Bi hz) underlying32 rfl aL) ?_;try simp only[Act.put,sA,sZ,sS,gA,gZ]
 refine t2 2 ?_;refine t4 5 (.agg (aA e (x1,n1,y1) (x2,n2,y2))) rfl (yieldsIf_load_mid (by rfl) 32 (.tmp 2) rfl w 0 rfl (aA e (x1,n1,y1) (x2,n2,y2)).toList _ (fun z hz=>Bi hz) underlying32 rfl aL) ?_;try simp only[Act.put,sA,sZ,sS,gA,gZ,gS]
 refine r3 1 fun K hK=>?_
 go_simp;refine(uh CC _ HZ.out.2).mono ?_;rintro r z1⟨w1,w2,rfl,ho1,ho2,hap,hb1⟩;have ha1:=(hb1.block w (ge.1 HZ.out.1).1).trans HZ.out.1;have hl1:=HZ.out.2.trans (hb1.mono HZ.out.2.size);have hs1:=HZ.out.2.size;obtain⟨a1,p1,q1⟩:=af ho1;obtain⟨a2,p2,q2⟩:=af ho2;subst q1 q2;have HC:=aa (zA (aE ho1 hs1) (zA (aE ho2 hs1) (zA hap (zA ha1 hl1))));clear ho1 ho2 hap hb1 hl1 hs1 HZ;go_wp2_with fail
 refine ro hK ?_ fun _=>?_
 .exact ha1
 clear hK K;clear ha1;refine t4 3 (.agg (jF e (a1,n1,p1) (a2,n2,p2) now).toArray) rfl (Or.inl ⟨by rfl,fun _ _=>by kernel_rfl⟩) ?_;try simp only[Act.put,sA,sZ,sS,gA,gZ,gS]
 cases ok1
 .refine r4 4 6 (fun K hK=>?_) (fun K hK=>?_)
  .rw [if_pos (by rfl)];refine gH (v:=.pointer (some (z1,0))) (w':=z1.alloc (.cells (jF e (a1,n1,p1) (a2,n2,p2) now).toArray 99)) (by as_aux_lemma=>kernel_rfl) ?_;obtain⟨o1,o2,ap,za,zl⟩:=uh HC;have hL:=Lay.start wV (e:=e) e1 e2 now o1 o2 ap zl;have zb:=(zG z1 (.cells (jF e (a1,n1,p1) (a2,n2,p2) now).toArray 99) w (ge.1 za).1).trans za;obtain⟨B,hB⟩ := ex z1.heap.size;rw[hB]at hL;rw[hB];obtain⟨z2,hz2⟩:∃z',z1.alloc (.cells (jF e (a1,n1,p1) (a2,n2,p2) now).toArray 99)=z':=⟨_,rfl⟩;rw[hz2]at hL zb;rw[hz2];have HL:=aa (zA hL zb);clear hL o1 o2 ap za zl HC hz2 hB;refine ro hK ?_ fun _=>?_
   .exact zb
   clear hK K zb;refine r3 6 fun K hK=>?_
   go_simp;refine(uh CR _ HL.out.1.low).mono ?_;rintro r z3⟨rfl,hb⟩;have HL3:=aa (zA (HL.out.1.step hb) ((hb.block w (ge.1 HL.out.2).1).trans HL.out.2));clear hb HL;have HL:=HL3;clear HL3;go_wp2_with fail
   refine ro hK ?_ fun _=>?_
   .exact HL.out.2
   clear hK K;refine t2 7 ?_;refine t5 8 ?_;refine t5 9 ?_;refine tt 10 11 ?_;refine t2 12 ?_;refine dn ?_ _;go_wp2
   exact bodyPost_ret (v:=.tuple #[(B,0),false]) (by simp[results,results51]) rfl ⟨B,_,_,rfl,HL.out.1.rebase rfl rfl⟩
  .go_simp;refine(uh CR _ HC.out.2.2.2.2).mono ?_;rintro r z2⟨rfl,hb⟩;have HC2:=aa (zA (aP HC.out.1 hb) (zA (aP HC.out.2.1 hb) (zA HC.out.2.2.1 (zA ((hb.block w (ge.1 HC.out.2.2.2.1).1).trans HC.out.2.2.2.1) (HC.out.2.2.2.2.trans (hb.mono HC.out.2.2.2.2.size))))));clear hb HC;have HC:=HC2;clear HC2;go_wp2_with fail
   refine ro hK ?_ fun _=>?_
   .exact HC.out.2.2.2.1
   clear hK K;refine t2 7 ?_;refine t5 8 ?_;refine t5 9 ?_;refine t2 10 ?_;refine r3 4 fun K hK=>?_
   rw[if_pos (by rfl)];refine gH (v:=.pointer (some (z2,0))) (w':=z2.alloc (.cells (jF e (a1,n1,p1) (a2,n2,p2) now).toArray 99)) (by as_aux_lemma=>kernel_rfl) ?_;obtain⟨o1,o2,ap,za,zl⟩:=uh HC;have hL:=Lay.start wV (e:=e) e1 e2 now o1 o2 ap zl;have zb:=(zG z2 (.cells (jF e (a1,n1,p1) (a2,n2,p2) now).toArray 99) w (ge.1 za).1).trans za;obtain⟨B,hB⟩ := ex z2.heap.size;rw[hB]at hL;rw[hB];obtain⟨z3,hz3⟩:∃z',z2.alloc (.cells (jF e (a1,n1,p1) (a2,n2,p2) now).toArray 99)=z':=⟨_,rfl⟩;rw[hz3]at hL zb;rw[hz3];have HL:=aa (zA hL zb);clear hL o1 o2 ap za zl HC hz3 hB;refine ro hK ?_ fun _=>?_
   .exact zb
   clear hK K zb;refine tt 11 12 ?_;refine dn ?_ _;go_wp2
   exact bodyPost_ret (v:=.tuple #[(B,0),false]) (by simp[results,results51]) rfl ⟨B,_,_,rfl,HL.out.1.rebase rfl rfl⟩
 .refine r4 4 6 (fun K hK=>?_) (fun K hK=>?_)
  .rw [if_pos (by rfl)];refine gH (v:=.pointer (some (z1,0))) (w':=z1.alloc (.cells (jF e (a1,n1,p1) (a2,n2,p2) now).toArray 99)) (by as_aux_lemma=>kernel_rfl) ?_;obtain⟨o1,o2,ap,za,zl⟩:=uh HC;have hL:=Lay.start wV (e:=e) e1 e2 now o1 o2 ap zl;have zb:=(zG z1 (.cells (jF e (a1,n1,p1) (a2,n2,p2) now).toArray 99) w (ge.1 za).1).trans za;obtain⟨B,hB⟩ := ex z1.heap.size;rw[hB]at hL;rw[hB];obtain⟨z2,hz2⟩:∃z',z1.alloc (.cells (jF e (a1,n1,p1) (a2,n2,p2) now).toArray 99)=z':=⟨_,rfl⟩;rw[hz2]at hL zb;rw[hz2];have HL:=aa (zA hL zb);clear hL o1 o2 ap za zl HC hz2 hB;refine ro hK ?_ fun _=>?_
   .exact zb
   clear hK K zb;refine r3 6 fun K hK=>?_
   go_simp;refine(uh CR _ HL.out.1.low).mono ?_;rintro r z3⟨rfl,hb⟩;have HL3:=aa (zA (HL.out.1.step hb) ((hb.block w (ge.1 HL.out.2).1).trans HL.out.2));clear hb HL;have HL:=HL3;clear HL3;go_wp2_with fail
   refine ro hK ?_ fun _=>?_
   .exact HL.out.2
   clear hK K;refine tt 7 8 ?_;refine r3 9 fun K hK=>?_
   go_simp;refine cq (uh CT _) ?_;go_wp2_with fail
   refine ro hK ?_ fun _=>?_
   .exact HL.out.2
   clear hK K;refine tt 10 11 ?_;refine t2 12 ?_;refine dn ?_ _;go_wp2
   exact bodyPost_ret (v:=.tuple #[(B,0),ok2]) (by simp[results,results51]) rfl ⟨B,_,_,rfl,HL.out.1.rebase rfl rfl⟩
  .go_simp;refine(uh CR _ HC.out.2.2.2.2).mono ?_;rintro r z2⟨rfl,hb⟩;have HC2:=aa (zA (aP HC.out.1 hb) (zA (aP HC.out.2.1 hb) (zA HC.out.2.2.1 (zA ((hb.block w (ge.1 HC.out.2.2.2.1).1).trans HC.out.2.2.2.1) (HC.out.2.2.2.2.trans (hb.mono HC.out.2.2.2.2.size))))));clear hb HC;have HC:=HC2;clear HC2;go_wp2_with fail
   refine ro hK ?_ fun _=>?_
   .exact HC.out.2.2.2.1
   clear hK K;refine tt 7 8 ?_;refine r4 4 9 (fun K hK=>?_) (fun K hK=>?_)
   .rw [if_pos (by rfl)];refine gH (v:=.pointer (some (z2,0))) (w':=z2.alloc (.cells (jF e (a1,n1,p1) (a2,n2,p2) now).toArray 99)) (by as_aux_lemma=>kernel_rfl) ?_;obtain⟨o1,o2,ap,za,zl⟩:=uh HC;have hL:=Lay.start wV (e:=e) e1 e2 now o1 o2 ap zl;have zb:=(zG z2 (.cells (jF e (a1,n1,p1) (a2,n2,p2) now).toArray 99) w (ge.1 za).1).trans za;obtain⟨B,hB⟩ := ex z2.heap.size;rw[hB]at hL;rw[hB];obtain⟨z3,hz3⟩:∃z',z2.alloc (.cells (jF e (a1,n1,p1) (a2,n2,p2) now).toArray 99)=z':=⟨_,rfl⟩;rw[hz3]at hL zb;rw[hz3];have HL:=aa (zA hL zb);clear hL o1 o2 ap za zl HC hz3 hB;refine ro hK ?_ fun _=>?_
    .exact zb
    clear hK K zb;refine r3 9 fun K hK=>?_
    go_simp;refine cq (uh CT _) ?_;go_wp2_with fail
    refine ro hK ?_ fun _=>?_
    .exact HL.out.2
    clear hK K;refine tt 10 11 ?_;refine t2 12 ?_;refine dn ?_ _;go_wp2
    exact bodyPost_ret (v:=.tuple #[(B,0),ok2]) (by simp[results,results51]) rfl ⟨B,_,_,rfl,HL.out.1.rebase rfl rfl⟩
   .go_simp;refine cq (uh CT _) ?_;go_wp2_with fail
    refine ro hK ?_ fun _=>?_
    .exact HC.out.2.2.2.1
    clear hK K;refine t2 10 ?_;refine r3 4 fun K hK=>?_
    rw[if_pos (by rfl)];refine gH (v:=.pointer (some (z2,0))) (w':=z2.alloc (.cells (jF e (a1,n1,p1) (a2,n2,p2) now).toArray 99)) (by as_aux_lemma=>kernel_rfl) ?_;obtain⟨o1,o2,ap,za,zl⟩:=uh HC;have hL:=Lay.start wV (e:=e) e1 e2 now o1 o2 ap zl;have zb:=(zG z2 (.cells (jF e (a1,n1,p1) (a2,n2,p2) now).toArray 99) w (ge.1 za).1).trans za;obtain⟨B,hB⟩ := ex z2.heap.size;rw[hB]at hL;rw[hB];obtain⟨z3,hz3⟩:∃z',z2.alloc (.cells (jF e (a1,n1,p1) (a2,n2,p2) now).toArray 99)=z':=⟨_,rfl⟩;rw[hz3]at hL zb;rw[hz3];have HL:=aa (zA hL zb);clear hL o1 o2 ap za zl HC hz3 hB;refine ro hK ?_ fun _=>?_
    .exact zb
    clear hK K zb;refine tt 11 12 ?_;refine dn ?_ _;go_wp2
    exact bodyPost_ret (v:=.tuple #[(B,0),ok2]) (by simp[results,results51]) rfl ⟨B,_,_,rfl,HL.out.1.rebase rfl rfl⟩
def nP:List ByteArray:=[mO,mP,mQ,bP,bQ,bL]
theorem sH:((List.range 6).all fun i=>(List.range 10).all fun k=>(cU (dE i k)).all fun a=>nP.any fun b=>a.data.toList==b.data.toList)=true:=by kernel_rfl
theorem dh{i:Nat}(hi:i<6)(ht:kF[i]?=some t){st:Int}(h0:0<=st)(h9:st<=9):(∀a∈(bO st t).2.1,a∈nP)/\(bO st t).2.1.length<=30:=by
 obtain⟨k,rfl⟩:∃k:Nat,st=(k:Int):=⟨st.toNat,by omega⟩;have hk:k<10:=by omega
 obtain⟨e,⟨_,hl⟩,_⟩:=iO ht hk;rw[e];split
 .exact ⟨fun a ha=>by simp at ha,by simp⟩
 .refine ⟨fun a ha=>?_,hl⟩;have h:=List.all_eq_true.1 (List.all_eq_true.1 (List.all_eq_true.1 sH i (List.mem_range.2 hi)) k (List.mem_range.2 hk)) a ha;obtain⟨b,hb,e⟩:=List.any_eq_true.1 h;have e2:a=b:=by
   obtain⟨⟨l⟩⟩:=a;obtain⟨⟨m⟩⟩:=b;have:l=m:=by simpa using e
   rw[this]
  exact e2▸hb
theorem jT(c:Cx)(a:ByteArray)(h:a∈nP):nM 99 72 c a:=by
 simp only[nP,List.mem_cons,List.not_mem_nil,or_false]at h;intro w0 w1 B s v1 v2 vs vt q n hL hf hn;rcases h with rfl|rfl|rfl|rfl|rfl|rfl
 .exact wY hL
 .exact xe hL hf hn
 .exact wZ hL hf hn
 .exact w_ hL hf hn
 .exact FM hL hf hn
 .exact FN hL hf hn
theorem Aw{now:Int}(h:(dJ e F1 F2&&bh 0 1000000000 now)=true):Fit 0 (bY now) ⟨e,F1,F2,[],[]⟩/\(0<=e.st/\e.st<=9)/\-1<=e.du:=by
 simp only[dJ,bh,zK,decide_eq_true_eq]at h;obtain⟨⟨h1,h2,h3,h4,h5,h6,h7,h8,h9,_⟩,h10⟩:=h;have hdu:-1<=e.du:=by
  split at h9
  .simp only[zK,decide_eq_true_eq]at h9;omega
  .have:e.du=-1:=by simpa using h9
   omega
 exact⟨⟨h1,h2,h5,h4,h6,h10,h7,h8,zD _,zD _,rfl,rfl,Nat.zero_le _,hdu⟩,h3,hdu⟩
def dq(e:En)(F1 F2:List Op.Opt)(now:Int):EO :=
 if(dJ e F1 F2&&bh 0 1000000000 now)=true then
  if e.du<0\/now<e.du then bA 8
  else if 0<e.tr then bj (bY now) ⟨e,F1,F2,[],[]⟩ ⟨#[84,79,43]⟩else bj (bY now) ⟨e,F1,F2,[],[]⟩ ⟨#[84,79,45]⟩
 else bA 1
theorem EvA.up(h:EvA W o (.returned (.agg cs)) q)(hb:Below w w W)(hX:W.heap[X]?=some (.cells k_ 74))(hXw:w.heap.size<=X):cs.size=33/\cs.all (·.oneCell')=true/\q.heap[X]?=some (.cells k_ 74)/\EvA w o (.returned (.agg cs)) (q.setRow X cs):=by
 obtain⟨v1,v2,vs,vt,e,o1,o2,os,ot,ap,lo⟩:=h;have e':cs=aC o.e v1 v2 vs vt o.cd:=by injection e with e;injection e
 subst e';have hX':q.heap[X]?=some (.cells k_ 74):=(lo.block X (ge.1 hX).1).trans hX;obtain⟨a1,p1,e1⟩:=af o1;obtain⟨a2,p2,e2⟩:=af o2;obtain⟨a3,p3,e3⟩:=af os;obtain⟨a4,p4,e4⟩:=af ot;refine⟨rfl,?_,hX',v1,v2,vs,vt,rfl,aE (az o1 hX' (by decide)) hb.size,aE (az o2 hX' (by decide)) hb.size,aE (az os hX' (by decide)) hb.size,aE (az ot hX' (by decide)) hb.size,ap,?_⟩
 .rw [e1,e2,e3,e4];exact aG _ _ _ _ _ _ _ _ _ _ _ _ _ _
 .exact am (hb.trans (lo.mono hb.size)) hXw _
theorem EvA.out{r:Ending}(h:EvA W o r q)(hb:Below w w W)(hX:W.heap[X]?=some (.cells k_ 74))(hXw:w.heap.size<=X):∃cs:Array Value,r=.returned (.agg cs)/\cs.size=33/\cs.all (·.oneCell')=true/\q.heap[X]?=some (.cells k_ 74)/\EvA w o (.returned (.agg cs)) (q.setRow X cs):=by
 obtain⟨v1,v2,vs,vt,rfl,h'⟩:=h;exact⟨_,rfl,EvA.up ⟨v1,v2,vs,vt,rfl,h'⟩ hb hX hXw⟩
theorem qk(e:En)(x1 x2:Option Addr)(y1 y2:Nat)(F1 F2:List Op.Opt)(now:Int)(w:World)(l1:F1.length<=1048576)(l2:F2.length<=1048576)(h1:HoldsO w (x1,F1.length,y1) F1)(h2:HoldsO w (x2,F2.length,y2) F2):Calls prog 55 #[.agg (aA e (x1,F1.length,y1) (x2,F2.length,y2)),now] w fun r w'=>EvA w (dq e F1 F2 now) r w':=by
 have CB:=aa fun W (hb:Below w w W)=>mU e x1 x2 y1 y2 F1 F2 now W l1 l2 (h1.below hb rfl) (h2.below hb rfl)
 clear h1 h2;have HF:=aa (Aw (e:=e) (F1:=F1) (F2:=F2) (now:=now));obtain⟨_,hA,hX,hb⟩:=br w (.cells (aA e (x1,F1.length,y1) (x2,F2.length,y2)) 32) (.cells k_ 74);obtain⟨A,eA⟩ := ex w.heap.size;have hXw:w.heap.size<=A+1:=by omega
 rw[eA]at hA hX;have H0:=aa (zA hA (zA hX hb));clear hA hX hb;unfold dq;generalize (dJ e F1 F2&&bh 0 1000000000 now)=ok at*;obtain⟨n1,e1⟩:∃n,F1.length=n:=⟨_,rfl⟩;obtain⟨n2,e2⟩:∃n,F2.length=n:=⟨_,rfl⟩;rw[e1]at CB H0|-;rw[e2]at CB H0|-;go_enter func55,ntmps55
 go_upto_region 1 with fail
 refine bb (fun z=>z.heap[A]?=some (.cells (aA e (x1,n1,y1) (x2,n2,y2)) 32)/\z.heap[A+1]?=some (.cells k_ 74)/\Below w w z) ?_ ?_
 .exact uh H0
 clear H0;rintro z hz;have HZ:=aa hz;clear hz
 go_wp2_with (first
  | (refine wpList_load_row rfl 32 (.tmp 2) rfl A rfl 32 (aA e (x1,n1,y1) (x2,n2,y2)) (0,0) _ HZ.out.1 underlying32 rfl aL ?_))
 refine(uh CB _ HZ.out.2.2).mono ?_;rintro r z1⟨B,v1,v2,rfl,hL⟩;have hl:=hL.low;have hA1:=(hl.block A (ge.1 HZ.out.1).1).trans HZ.out.1;have hX1:=(hl.block (A+1) (ge.1 HZ.out.2.1).1).trans HZ.out.2.1;have H1:=aa (zA hA1 (zA hX1 (HZ.out.2.2.trans (hl.mono HZ.out.2.2.size))));have HL:=aa hL;have c13:z1.cell? (A,13)=some (.int .i64 e.tr):=cv hA1
 have c14:z1.cell? (A,14)=some (.int .i64 e.du):=cv hA1
 clear hL hl hA1 hX1 CB;cases ok
 .go_wp2_with (first
   | (refine wpList_buildTo rfl 74 _ rfl (some 15) rfl (aC ag () () () () 1) (by as_aux_lemma=>kernel_rfl) ?_)
   | (refine wpList_store_rowTo rfl 74 (.tmp 4) (.tmp 15) rfl rfl (A+1) (aC ag () () () () 1) rfl rfl 74 k_ H1.out.2.1 aw rfl (aG _ _ _ _ _ _ _ _ _ _ _ _ _ _) ?_))
  refine bodyPost_ret (v:=.agg (aC ag () () () () 1)) (by simp[results,results55,asAddr,de (setRow_heap z1 (A+1) _ (aC ag () () () () 1) _ _ H1.out.2.1)]) rfl ?_;exact bE (am H1.out.2.2 hXw _) 1
 .replace HF:=aa (uh HF rfl);by_cases hd:e.du<0\/now<e.du
  .by_cases hd0:e.du<0
   .go_wp2_with (first
     | (refine wpList_buildTo rfl 74 _ rfl (some 25) rfl (aC ag () () () () 8) (by as_aux_lemma=>kernel_rfl) ?_)
     | (refine wpList_store_rowTo rfl 74 (.tmp 4) (.tmp 25) rfl rfl (A+1) (aC ag () () () () 8) rfl rfl 74 k_ H1.out.2.1 aw rfl (aG _ _ _ _ _ _ _ _ _ _ _ _ _ _) ?_))
    refine bodyPost_ret (v:=.agg (aC ag () () () () 8)) (by simp[results,results55,asAddr,de (setRow_heap z1 (A+1) _ (aC ag () () () () 8) _ _ H1.out.2.1)]) rfl ?_;exact bE (am H1.out.2.2 hXw _) 8
   .have hd1:now<e.du:=hd.resolve_left hd0
    go_wp2_with (first
     | (refine wpList_buildTo rfl 74 _ rfl (some 25) rfl (aC ag () () () () 8) (by as_aux_lemma=>kernel_rfl) ?_)
     | (refine wpList_store_rowTo rfl 74 (.tmp 4) (.tmp 25) rfl rfl (A+1) (aC ag () () () () 8) rfl rfl 74 k_ H1.out.2.1 aw rfl (aG _ _ _ _ _ _ _ _ _ _ _ _ _ _) ?_))
    refine bodyPost_ret (v:=.agg (aC ag () () () () 8)) (by simp[results,results55,asAddr,de (setRow_heap z1 (A+1) _ (aC ag () () () () 8) _ _ H1.out.2.1)]) rfl ?_;exact bE (am H1.out.2.2 hXw _) 8
  .have hd0:¬(e.du<0):=fun h=>hd (Or.inl h)
   have hd1:¬(now<e.du):=fun h=>hd (Or.inr h)
   by_cases ht:0<e.tr
   .have hE0:=cR z z1 B (bY now) ⟨e,F1,F2,[],[]⟩ v1 v2 z1 HL.out rfl rfl HF.out.1 ⟨#[84,79,43]⟩ (by decide) (fun a ha=>jT _ a ((dh (i:=4) (by decide) rfl HF.out.2.1.1 HF.out.2.1.2).1 a ha)) (dh (i:=4) (by decide) rfl HF.out.2.1.1 HF.out.2.1.2).2;have CE:=aa hE0;clear hE0;go_wp2_with fail
    refine CE.out.mono ?_;rintro r z2 hE;obtain⟨cs,rfl,hsz,hall,hX2,hEv⟩:=hE.out HZ.out.2.2 HZ.out.2.1 hXw;have HE2:=aa (zA hX2 hEv);clear hE hX2 hEv
    go_wp2_with (first
     | (refine wpList_store_rowTo rfl 74 (.tmp 4) (.tmp 30) rfl rfl (A+1) cs rfl rfl 74 k_ HE2.out.1 (by rw[hsz];exact aw) (by rw[hsz];rfl) hall ?_))
    refine bodyPost_ret (v:=.agg cs) (by simp[results,results55,asAddr,de (setRow_heap z2 (A+1) _ cs _ _ HE2.out.1) hsz]) rfl ?_;exact HE2.out.2
   .have hE0:=cR z z1 B (bY now) ⟨e,F1,F2,[],[]⟩ v1 v2 z1 HL.out rfl rfl HF.out.1 ⟨#[84,79,45]⟩ (by decide) (fun a ha=>jT _ a ((dh (i:=5) (by decide) rfl HF.out.2.1.1 HF.out.2.1.2).1 a ha)) (dh (i:=5) (by decide) rfl HF.out.2.1.1 HF.out.2.1.2).2;have CE:=aa hE0;clear hE0;go_wp2_with fail
    refine CE.out.mono ?_;rintro r z2 hE;obtain⟨cs,rfl,hsz,hall,hX2,hEv⟩:=hE.out HZ.out.2.2 HZ.out.2.1 hXw;have HE2:=aa (zA hX2 hEv);clear hE hX2 hEv
    go_wp2_with (first
     | (refine wpList_store_rowTo rfl 74 (.tmp 4) (.tmp 32) rfl rfl (A+1) cs rfl rfl 74 k_ HE2.out.1 (by rw[hsz];exact aw) (by rw[hsz];rfl) hall ?_))
    refine bodyPost_ret (v:=.agg cs) (by simp[results,results55,asAddr,de (setRow_heap z2 (A+1) _ cs _ _ HE2.out.1) hsz]) rfl ?_;exact HE2.out.2
def ar(t:ByteArray):List Op.Opt × Int :=
 if 8000<t.size then([],2)else
 match Op.acc [] t.data.toList with
 | none=>([],3)
 | some L=>(L,0)
theorem jv(h:8000<t.size):ar t=([],2):=by unfold ar;rw[if_pos h]
theorem uv(h:¬8000<t.size)(ha:Op.acc [] t.data.toList=none):ar t=([],3):=by unfold ar;rw[if_neg h,ha]
theorem uw{L:List Op.Opt}(h:¬8000<t.size)(ha:Op.acc [] t.data.toList=some L):ar t=(L,0):=by unfold ar;rw[if_neg h,ha]
theorem dd(t:ByteArray):Op.right (ar t).1=true:=by
 by_cases h:8000<t.size
 .rw [jv h];rfl
 .cases ha:Op.acc [] t.data.toList with
  | none=>rw[uv h ha];rfl
  | some L=>rw[uw h ha];exact Op.acc_right ha
def xw(w w':World)(o:List Op.Opt × Int)(e:Ending):Prop :=
 ∃ad cp,e=.returned (.agg #[.slice ad o.1.length cp,.int .i64 o.2])/\w'.ownsRow w.heap.size 105 2 (.slice ad o.1.length cp) o.1.length (aj o.1)/\Below w.heap.size w w'
theorem lP(w:World)(n:Nat):w.ownsRow n 105 2 () 0 (aj []):=⟨rfl,Or.inl ⟨rfl,rfl⟩⟩
theorem uZ:(prog.info? 180).map (·.size)=some 2:=by kernel_rfl
theorem nW(h:W.heap[E]?=some (.cells #[x0,x1] 180)):(loadVar 180 (E,0)).run prog W=.ok (.agg #[x0,x1]) W :=
 run_loadVar_row (P:=prog) _ _ 180 180 #[x0,x1] (0,0) _ h underlying180 rfl uZ
theorem nX{z0 z1:Value}(h:W.heap[E]?=some (.cells #[z0,z1] T))(x0 x1:Value):((W.setCell (E,0) x0).setCell (E,1) x1).heap[E]?=some (.cells #[x0,x1] T) :=
 zH _ _ 1 _ _ x1 (zH _ _ 0 _ _ x0 h)
theorem qx(h:w.heap[B]?=some (.cells #[x0,x1] T)):w.cell? (B,0)=some x0/\w.cell? (B,1)=some x1/\w.frozen? (B,0)=false/\w.frozen? (B,1)=false :=
 ⟨cv h,cv h,aX h _,aX h _⟩
theorem sP{base':Nat}{xs:List Value}(h:W.ownsRow base 105 2 v n xs)(hE:E<base)(hb:base'<=base)(x0 x1:Value):((W.setCell (E,0) x0).setCell (E,1) x1).ownsRow base' 105 2 v n xs:=by
 have h2:((W.setCell (E,0) x0).setCell (E,1) x1).ownsRow base 105 2 v n xs:=aY h fun g hg _=>by
  have hne:g≠E:=by omega
  rw[zJ _ ⟨E,1,none⟩ _ g hne,zJ _ ⟨E,0,none⟩ _ g hne]
 exact⟨h2.1,h2.2.imp id fun⟨g,cap,cur,h1,q,h3⟩=>⟨g,cap,cur,h1,zE hb q,h3⟩⟩
theorem dS(t:ByteArray)(w:World)(ht:t.size<=maxLen)(hE:Et w):Calls prog 137 #[t] w fun e w'=>xw w w' (ar t) e:=by
 have hlt0:=hE.lt;unfold maxLen at ht;by_cases h8:8000<t.size
 .have d0:(8000:Int)<(t.size:Int):=by omega
  rw[jv h8];go_enter func137,ntmps137
  go_wp2
  refine bodyPost_ret (v:=.agg #[(),(2:Int)]) (by simp[results,results137,go_sem]) rfl ⟨none,0,rfl,lP _ _,(zC _ _).alloc (zD _) _⟩
 .have d0:¬((8000:Int)<(t.size:Int)):=by omega
  have hl8:t.data.toList.length<=8000:=by rw[bC];omega
  obtain⟨cap,W1,hcv,hcap,hl1,hb1,hlt1⟩:=kT t (w.alloc (.cells #[(),(0:Int)] 180));have hW:(w.alloc (.cells #[(),(0:Int)] 180)).heap.size=w.heap.size+1:=by simp
  rw[hW]at hcv hb1 hlt1 hl1;have C1:=aa (oN W1 (w.heap.size+1) _ t.data.toList hl8 hlt1 ⟨0,cap,rfl,hcap,hl1⟩);rw[bC]at C1 hcv;have hO1:W1.heap[w.heap.size]?=some (.cells #[(),(0:Int)] 180):=(hb1.block w (Nat.lt_succ_self _)).trans (zF w _);have hB1:Below w w W1:=((zC _ _).alloc (zD _) _).trans (hb1.mono (Nat.le_succ _));have HX:=aa (zA hO1 hB1);have HN:=aa (uv h8);have HS:=aa fun L=>uw (L:=L) h8
  have hl1':w.heap.size+1<=W1.heap.size:=Nat.le_of_lt hlt1;clear hl1 hb1 hO1 hB1 hcap hW hl8;go_enter func137,ntmps137
  go_wp2_with fail
  refine C1.out.mono ?_;rintro e W2 h;rcases h with⟨hres,rfl,hb2⟩|⟨L,ad,cp,hres,rfl,ho,hb2⟩
  .have hO2:=(hb2.block w (by omega)).trans HX.out.1;have hB2:Below w w W2:=HX.out.2.trans (hb2.mono HX.out.2.size);have HR:Hid (ar t=([],3)):=aa (uh HN hres);have hlt2:w.heap.size<W2.heap.size:=(ge.1 hO2).1;have C2:=aa (my 3 W2 (hE.below hB2 hlt0));have HO2:=aa (zA hO2 hB2);clear HX C1 hcv hb2 HN HS hres hO2 hB2 hE;go_wp2_with fail
   refine C2.out.mono ?_;rintro e w3⟨rfl,hb3⟩;have hO3:=(hb3.block w hlt2).trans HO2.out.1;have hB3:=HO2.out.2.trans (hb3.mono HO2.out.2.size);obtain⟨c0,c1,f0,f1⟩:=qx hO3;have FIN:=aa fun x0 x1=>nW (nX hO3 x0 x1)
   clear C2 HO2 hO3 hb3;go_wp2
   refine bodyPost_ret (v:=.agg #[(),(3:Int)]) (by simp[results,results137,asAddr,uh FIN]) rfl ?_;rw[uh HR];exact⟨none,0,rfl,lP _ _,(hB3.setCell (p:=(w,0)) (zD _) _).setCell (p:=(w,1)) (zD _) _⟩
  .have hO2:=(hb2.block w (by omega)).trans HX.out.1;have hB2:Below w w W2:=HX.out.2.trans (hb2.mono HX.out.2.size);have HR:Hid (ar t=(L,0)):=aa (uh HS L hres);have hlt2:w.heap.size<W2.heap.size:=(ge.1 hO2).1;have C2:=aa (pu W2);have HO2:=aa (zA hO2 hB2);have HOW:=aa ho;clear HX C1 hcv HN HS hres hO2 hB2 hE ho hb2;go_wp2_with fail
   refine C2.out.mono ?_;rintro e w3⟨rfl,hb3⟩;have hO3:=(hb3.block w hlt2).trans HO2.out.1;have hB3:=HO2.out.2.trans (hb3.mono HO2.out.2.size);have HOW3:=aa (aY HOW.out fun p _ hp=>hb3.block p hp);obtain⟨c0,c1,f0,f1⟩:=qx hO3;have FIN:=aa fun x0 x1=>nW (nX hO3 x0 x1)
   clear C2 HO2 hO3 hb3 HOW;go_wp2
   refine bodyPost_ret (v:=.agg #[(ad,L.length,cp),(0:Int)]) (by simp[results,results137,asAddr,uh FIN]) rfl ?_;rw[uh HR];exact⟨ad,cp,rfl,sP HOW3.out (by omega) (by omega) _ _,(hB3.setCell (p:=(w,0)) (zD _) _).setCell (p:=(w,1)) (zD _) _⟩
structure Rg(lo hi:Nat)(w w':World):Prop where
 os:w'.os=w.os
 tape:w'.tape=w.tape
 output:w'.output=w.output
 size:w.heap.size<=w'.heap.size
 block:∀b,b<w.heap.size->¬(lo<=b/\b<hi)->w'.heap[b]?=w.heap[b]?
theorem Rg.below{w0:World}(h:Rg lo hi w w')(hb:Below n w0 w)(hn:n<=lo)(h0:n<=w0.heap.size):Below n w0 w' :=
 ⟨h.os.trans hb.os,h.tape.trans hb.tape,h.output.trans hb.output,zE hb.size h.size,fun b hlt=>(h.block b (Nat.lt_of_lt_of_le hlt (zE h0 hb.size)) (fun e=>by omega)).trans (hb.block b hlt)⟩
def D8(lo hi:Nat)(n:Nat)(v:Value):Prop:=∀g,nb n v=some g->lo<=g/\g<hi
structure Four(lo hi n1 n2 n3 n4:Nat)(v1 v2 vs vt:Value):Prop where
 r1:D8 lo hi n1 v1
 r2:D8 lo hi n2 v2
 r3:D8 lo hi n3 vs
 r4:D8 lo hi n4 vt
 d12:Df (nb n1 v1) (nb n2 v2)
 d31:Df (nb n3 vs) (nb n1 v1)
 d32:Df (nb n3 vs) (nb n2 v2)
 d41:Df (nb n4 vt) (nb n1 v1)
 d42:Df (nb n4 vt) (nb n2 v2)
 d43:Df (nb n4 vt) (nb n3 vs)
def AnD(o:EO)(lo hi:Nat)(cs:Array Value)(q:World):Prop :=
 ∃x1 x2 x5 x7 y1 y2 y5 y7,cs=aC o.e (x1,o.F1.length,y1) (x2,o.F2.length,y2) (x5,o.sn.length,y5) (x7,o.tl.length,y7) o.cd/\HoldsO q (x1,o.F1.length,y1) o.F1/\HoldsO q (x2,o.F2.length,y2) o.F2/\HoldsP q (x5,o.sn.length,y5) o.sn/\HoldsT q (x7,o.tl.length,y7) o.tl /\
  Four lo hi o.F1.length o.F2.length o.sn.length o.tl.length (.slice x1 o.F1.length y1) (.slice x2 o.F2.length y2) (.slice x5 o.sn.length y5) (.slice x7 o.tl.length y7)
def MkD(o:EO)(cs:Array Value)(q:World):Prop :=
 ∃x1 x2 x5 x7 y1 y2 y5 y7,cs=aC o.e (.slice x1 o.F1.length y1) (.slice x2 o.F2.length y2) (.slice x5 o.sn.length y5) (.slice x7 o.tl.length y7) o.cd/\HoldsO q (.slice x1 o.F1.length y1) (jb 1 o.F1.length)/\HoldsO q (.slice x2 o.F2.length y2) (jb (1+2*o.F1.length) o.F2.length)/\HoldsP q (.slice x5 o.sn.length y5) (mpk (1+2*o.F1.length+2*o.F2.length) o.sn.length)/\HoldsT q (.slice x7 o.tl.length y7) (mtl (1+2*o.F1.length+2*o.F2.length+3*o.sn.length) o.tl.length)
structure EoB(o:EO):Prop where
 l1:o.F1.length<=2000
 l2:o.F2.length<=2000
 l3:o.sn.length<=100
 l4:o.tl.length<=100000
theorem fD{g:Nat}(h:nb n v=some g):v.ownBlock=some g:=by
 unfold nb at h;split at h
 .cases h
 .exact h
theorem Df.ap{n':Nat}{v':Value}(h:Ap v v'):Df (nb n v) (nb n' v'):=fun g h1 h2=>h g (fD h1) (fD h2)
theorem AnD.of(h:EvA w o (.returned (.agg cs)) q):AnD o w q cs q/\Below w w q/\cs.size=33/\cs.all (·.oneCell')=true:=by
 obtain⟨v1,v2,vs,vt,e,o1,o2,os,ot,ap,lo⟩:=h;have e':cs=aC o.e v1 v2 vs vt o.cd:=by injection e with e;injection e
 obtain⟨a1,p1,e1⟩:=af o1;obtain⟨a2,p2,e2⟩:=af o2;obtain⟨a3,p3,e3⟩:=af os;obtain⟨a4,p4,e4⟩:=af ot;subst e1 e2 e3 e4 e';refine⟨⟨a1,a2,a3,a4,p1,p2,p3,p4,rfl,HoldsO.own o1,HoldsO.own o2,HoldsP.own os,HoldsT.own ot,?_⟩,lo,rfl,aG _ _ _ _ _ _ _ _ _ _ _ _ _ _⟩;exact⟨fun g hg=>o1.lt g (fD hg),fun g hg=>o2.lt g (fD hg),fun g hg=>os.lt g (fD hg),fun g hg=>ot.lt g (fD hg),Df.ap ap,Df.ap (zV os o1 (by decide)),Df.ap (zV os o2 (by decide)),Df.ap (zV ot o1 (by decide)),Df.ap (zV ot o2 (by decide)),Df.ap (zV ot os (by decide))⟩
theorem AnD.step(h:AnD o lo hi cs q)(hb:Below q q q'):AnD o lo hi cs q':=by
 obtain⟨x1,x2,x5,x7,y1,y2,y5,y7,e,h1,h2,h3,h4,f⟩:=h;exact⟨x1,x2,x5,x7,y1,y2,y5,y7,e,h1.below hb rfl,h2.below hb rfl,h3.below hb rfl,h4.below hb rfl,f⟩
theorem MkD.step(h:MkD o cs q)(hb:Below q q q'):MkD o cs q':=by
 obtain⟨x1,x2,x5,x7,y1,y2,y5,y7,e,h1,h2,h3,h4⟩:=h;exact⟨x1,x2,x5,x7,y1,y2,y5,y7,e,h1.below hb rfl,h2.below hb rfl,h3.below hb rfl,h4.below hb rfl⟩
theorem HoldsO.rg{F:List Op.Opt}(h:HoldsO w v F)(hr:Rg lo hi w w')(hi':D8 a b F.length v)(hd:b<=lo\/hi<=a):HoldsO w' v F:=by
 rcases h with⟨ad,cp,e,e0⟩|⟨g,cp,cur,e,q1,q2⟩
 .exact Or.inl ⟨ad,cp,e,e0⟩
 .by_cases hz:F.length=0
  .have:F=[]:=List.eq_nil_of_length_eq_zero hz
   subst this;exact Or.inl ⟨_,_,e,rfl⟩
  .have hg:=hi' g (by rw[dC hz,e];rfl);exact Or.inr ⟨g,cp,cur,e,(hr.block g (ge.1 q1).1 (fun e=>by omega)).trans q1,q2⟩
theorem HoldsP.rg{F:List Op.Pk}(h:HoldsP w v F)(hr:Rg lo hi w w')(hi':D8 a b F.length v)(hd:b<=lo\/hi<=a):HoldsP w' v F:=by
 rcases h with⟨ad,cp,e,e0⟩|⟨g,cp,cur,e,q1,q2⟩
 .exact Or.inl ⟨ad,cp,e,e0⟩
 .by_cases hz:F.length=0
  .have:F=[]:=List.eq_nil_of_length_eq_zero hz
   subst this;exact Or.inl ⟨_,_,e,rfl⟩
  .have hg:=hi' g (by rw[dC hz,e];rfl);exact Or.inr ⟨g,cp,cur,e,(hr.block g (ge.1 q1).1 (fun e=>by omega)).trans q1,q2⟩
theorem HoldsT.rg{F:List ByteArray}(h:HoldsT w v F)(hr:Rg lo hi w w')(hi':D8 a b F.length v)(hd:b<=lo\/hi<=a):HoldsT w' v F:=by
 rcases h with⟨ad,cp,e,e0⟩|⟨g,cp,cur,e,q1,q2⟩
 .exact Or.inl ⟨ad,cp,e,e0⟩
 .by_cases hz:F.length=0
  .have:F=[]:=List.eq_nil_of_length_eq_zero hz
   subst this;exact Or.inl ⟨_,_,e,rfl⟩
  .have hg:=hi' g (by rw[dC hz,e];rfl);exact Or.inr ⟨g,cp,cur,e,(hr.block g (ge.1 q1).1 (fun e=>by omega)).trans q1,q2⟩
theorem AnD.rg(h:AnD o a b cs q)(hr:Rg lo hi q q')(hd:b<=lo\/hi<=a):AnD o a b cs q':=by
 obtain⟨x1,x2,x5,x7,y1,y2,y5,y7,e,h1,h2,h3,h4,f⟩:=h;exact⟨x1,x2,x5,x7,y1,y2,y5,y7,e,h1.rg hr f.r1 hd,h2.rg hr f.r2 hd,h3.rg hr f.r3 hd,h4.rg hr f.r4 hd,f⟩
def ToX(e:En)(F1 F2:List Op.Opt)(lo hi:Nat)(cl:List Value)(q:World):Prop :=
 ∃u1 z1 u2 z2,cl=(aA e (u1,F1.length,z1) (u2,F2.length,z2)).toList/\HoldsO q (u1,F1.length,z1) F1/\HoldsO q (u2,F2.length,z2) F2/\D8 lo hi F1.length (.slice u1 F1.length z1)/\D8 lo hi F2.length (.slice u2 F2.length z2)/\(F1≠[]->F2≠[]->(Value.slice u1 F1.length z1).ownBlock≠(Value.slice u2 F2.length z2).ownBlock)
theorem ToX.step(h:ToX e F1 F2 lo hi cl q)(hb:Below q q q'):ToX e F1 F2 lo hi cl q':=by
 obtain⟨u1,z1,u2,z2,h1,h2,h3,f⟩:=h;exact⟨u1,z1,u2,z2,h1,h2.below hb rfl,h3.below hb rfl,f⟩
theorem ToX.len(h:ToX e F1 F2 lo hi cl q):cl.length=30:=by
 obtain⟨u1,z1,u2,z2,h1,_⟩:=h;rw[h1];rfl
theorem ToX.one(h:ToX e F1 F2 lo hi cl q):cl.toArray.all (·.oneCell')=true:=by
 obtain⟨u1,z1,u2,z2,h1,_⟩:=h;rw[h1];kernel_rfl
section
open Go.RowKit Go.Shelf
attribute [local go_sem] Oper.semAt_some
theorem gP{C:Nat}{x:Value}(h:W.heap[C]?=some (.cells #[x] T)):W.cell? (C,0)=some x:=cv h
theorem rh{l k C1 C2 m0 cnt:Nat}(hn:1<=n)(I:Nat->World->Prop)(hI:∀i y,I i y->y.heap[C1]?=some (.cells #[.int .i64 (cnt:Int)] 3)/\y.heap[C2]?=some (.cells #[(B,k)] 111)/\∃X Z v L,X.length=k/\Wr base T y B X Z v L/\L.length+i=m0 /\
   ∀p r z v',L=p::r->Wr base T z B X Z v' r->Fr B v v' y z->YieldAt Fence.wide (n-1) prog l #[.agg #[p.code,p.id,p.data]] z fun e z'=>e=.returned (.bool true)/\I (i+1) z')(hdr:∀i y,I i y->I i y.drew)(h0:I 0 W):CallsIn Fence.wide n prog 88 #[.func (.yield l) #[] #[],(C1,0),(C2,0)] W fun e W'=>(∃v,e=.returned v)/\I (min cnt m0) W':=by
 obtain⟨b1,b2,X,Z,v,L,hX,hW,hm,_⟩:=hI 0 W h0;have c1:=gP b1;have c2:=gP b2;have c3:=bI hW.row;rw[hX]at c3;obtain⟨ad,cp,hv⟩:=hW.hk.form;subst hv;have hm0:m0=L.length:=by omega
 have hL40:=hW.le;subst hm0;generalize hLn:L.length=q at*;generalize hmm:min cnt q=m at*;have hmin:(if q<cnt then(q:Int)else(cnt:Int))=(m:Int):=by
  split<;>omega
 clear hW b1 b2 hm;refine callsIn_of_wp func88 rfl trivial ?_ rfl;simp only[ntmps88,List.size_toArray,List.length_cons,List.length_nil,Nat.reduceAdd,Nat.reduceSub,Array.replicate_succ,Array.replicate_zero,List.push_toArray,List.append_toArray,List.nil_append,List.cons_append];gi_wp2
 refine wpIn_wide.2 ?_;refine wp_region_held_drew (S:=fun z=>z.cell? ⟨C1,0,none⟩=some (.int .i64 (cnt:Int))/\z.cell? ⟨C2,0,none⟩=some (.pointer (some ⟨B,k,none⟩))/\z.cell? ⟨B,k,none⟩=some (.slice ad q cp)) (by kernel_rfl) ⟨c1,c2,c3⟩ (fun hHeld=>?_);refine tq 0 1 2 3 ?_;refine tq 4 5 6 7 ?_;refine dn ?_ _;have h0d:I 0 W.drew:=hdr 0 W h0;clear h0 c1 c2 c3;generalize W.drew=y at h0d hHeld|-;clear hHeld;have hmq:m<=q:=by omega
 clear hmin;gi_wp2
 gi_loopw [12] (fun p wr=>∃i:Nat,i<=m/\p=.int .i64 i/\I i wr) (fun p _=>m-(intOf p).toNat)
 case atStart=>exact⟨0,Nat.zero_le _,rfl,h0d⟩
 case round =>
  obtain⟨i,hi,rfl,hF⟩:=hrel;clear h0d;by_cases hlt:i<m
  .have d1:(i:Int)<(m:Int):=by omega
   obtain⟨b1,b2,X1,Z1,v1,L1,hX1,hW1,hm1,hY1⟩:=hI i wr hF;match L1,hW1,hm1,hY1 with
   | [],_,hm1,_=>simp at hm1;omega
   | p::r,hW1,hm1,hY1 =>
    obtain⟨g,o,cp1,cur,hv1,q1,q2,q3,q4⟩:=hW1.hk.fst;have c2:=gP b2;have c3:=bI hW1.row;rw[hX1]at c3;have x0:wr.cell? (g,o)=some (.int .i64 p.code):=by rw[cr q1];exact q2
    have x1:wr.cell? (g,o+1)=some (.int .i64 p.id):=by rw[cr q1];exact q3
    have x2:wr.cell? (g,o+2)=some (.string p.data):=by rw[cr q1];exact q4
    have hgl:g<wr.heap.size:=(ge.1 q1).1;clear q1 q2 q3 q4;have HW1:=aa hW1;have HF:=aa hF;have C2l:C2<wr.heap.size:=(ge.1 b2).1;have hb1:Below wr wr (wr.alloc (.cells #[p.code,p.id,p.data] 85)):=(zC _ _).alloc (zD _) _;have hN:=zF wr (.cells #[p.code,p.id,p.data] 85);have hBl:=hW1.lt;have hol:∀g,v1.ownBlock=some g->g<wr.heap.size:=fun g hg=>(hW1.ownB g hg).2.2.1
    have CL:Hid (Calls prog 41 #[(B,k)] (wr.alloc (.cells #[p.code,p.id,p.data] 85)) fun e z=>e=.returned (.tuple #[])/\z.cell? (wr,0)=some (.int .i64 p.code)/\z.cell? (wr,1)=some (.int .i64 p.id)/\z.cell? (wr,2)=some (.string p.data)/\YieldAt Fence.wide (n-1) prog l #[.agg #[p.code,p.id,p.data]] z fun e z'=>e=.returned (.bool true)/\I (i+1) z'):=aa (by
     rw[<- hX1];refine(qW (hW1.below hb1)).mono ?_;rintro e z⟨rfl,v2,hWz,hfz⟩;have hNz:z.heap[wr.heap.size]?=some (.cells #[p.code,p.id,p.data] 85):=(hfz.same _ (ge.1 hN).1 (by omega) (fun e=>by have:=hol _ e;omega)).trans hN;exact⟨rfl,cv hNz,cv hNz,cv hNz,hY1 p r z v2 rfl hWz ((Fr.of_below hb1).trans hfz)⟩)
    have cc2:(wr.alloc (.cells #[p.code,p.id,p.data] 85)).cell? (C2,0)=some (.pointer (some (B,k))):=(hb1.cell (p:=(C2,0)) C2l).trans c2;subst hv1;clear hW1 hF hb1 hN hBl hol HW1 HF b1 b2 hI hY1 hdr;obtain⟨pc,pi,pd⟩:=p;dsimp only at x0 x1 x2 CL cc2;have h1n:1<=n-1\/n-1=0:=by omega
    gi_wp2_with (refine⟨trivial,?_⟩;gi_at_call 41;refine(callsIn_wide.2 CL.out).mono ?_;clear CL;rintro e z⟨rfl,y0,y1,y2,fn,tmps,assign,body,hy,hR⟩)
    refine hR.mono ?_;rintro e z'⟨rfl,hI'⟩;gi_wp2
    go_roundw
    case rel=>exact⟨i+1,by omega,by go_num,hI'⟩
    case measure=>simp[intOf];omega
  .have e:i=m:=by omega
   subst e;have d1:¬((i:Int)<(i:Int)):=by omega
   gi_wp2
   go_end0
   exact⟨⟨_,rfl⟩,hF⟩
end
end Go.Proofs.YtjdgiimfpkideaaGreatDoor
