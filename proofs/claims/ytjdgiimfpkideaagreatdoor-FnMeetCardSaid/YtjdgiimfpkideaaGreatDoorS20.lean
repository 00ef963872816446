/- WkE -/
import Derived.Test.YtjdgiimfpkideaaGreatDoorS13
import Derived.Test.YtjdgiimfpkideaaGreatDoorS18
set_option maxHeartbeats 8000000
set_option maxRecDepth 100000
namespace Go.Proofs.YtjdgiimfpkideaaGreatDoor
open Go.RowKit Go.Proofs.Tryz
theorem eR{B X:Nat}{a w:World}(h:Nr B a w)(hX:a.heap.size<=X)(cs:Array Value):Nr B a (w.setRow X cs):=by
 refine⟨h.os,h.tape,h.output,?_,fun k hk hn=>?_⟩
 .unfold World.setRow;simpa using h.size
 .refine Eq.trans ?_ (h.block k hk hn);unfold World.setRow;rw[Array.getElem?_modify,if_neg (by omega)]
theorem dR(w0 w1:World)(B:Nat)(c:Cx)(s:St)(v1 v2:Value)(q:World)(h:Lay 99 w0 w1 B c s v1 v2 () () q)(hs:s.sn=[])(ht:s.tl=[])(hf:Fit 0 c s)(t:ByteArray)(hts:t.size<=maxLen)(hA:∀a∈(bO s.e.st t).2.1,nM 99 72 c a)(hl:(bO s.e.st t).2.1.length<=30):Calls prog 52 #[(B,0),t] q fun r q'=>EvA w0 (bj c s t) r q'/\Nr B q q':=by
 have CF:=aa fun W=>rI s.e.st t W hts
 unfold bj;generalize bO s.e.st t=R at*;obtain⟨st',A,cd⟩:=R;dsimp only at hA hl|-;obtain⟨X,hXq⟩ := ex q.heap.size;have hX:=zF q (.cells k_ 74);have hbX:Below q q (q.alloc (.cells k_ 74)):=(zC _ _).alloc (zD _) _;have h0:=h.step hbX;have c12:=h0.cell (i:=12) rfl;have hBX:B<X:=hXq▸h.lt;rw[hXq]at hX;have H0:=aa (zA h0 hX);have HP:=aa (zA hf (zA hA (zA hs ht)));clear h h0 hX hbX hf hA hs ht;go_enter func52,ntmps52
 go_wp2_with fail
 refine(uh CF _).mono ?_;rintro e q1⟨ad,cp,rfl,ho,hb1⟩;dsimp only at ho;have h1:=H0.out.1.step hb1;have hX1:=(hb1.block X (by simp[hXq])).trans H0.out.2;obtain⟨Y,hY⟩ := ex q1.heap.size;have hXY:X<Y:=by have:=(ge.1 hX1).1;omega
 go_upto_region 2 with fail
 refine bb (fun z=>Lay 99 w0 z B c s v1 v2 () () z/\z.heap[X]?=some (.cells k_ 74)/\z.heap[Y]?=some (.cells #[st',(ad,A.length,cp),cd] 115)/\z.ownsRow 0 9 1 (ad,A.length,cp) A.length (a_ A)/\Nr B q z) ?_ ?_
 .have hb2:Below q1 q1 (q1.alloc (.cells #[st',(ad,A.length,cp),cd] 115)):=(zC _ _).alloc (zD _) _;exact⟨(h1.step hb2).rebase HP.out.2.2.1 HP.out.2.2.2,(hb2.block X (ge.1 hX1).1).trans hX1,hY▸zF q1 _,aE (aP ho hb2) (Nat.zero_le _),(((Nr.refl B q).of_below ((zC q q).alloc (zD _) _)).of_below hb1).of_below hb2⟩
 have HXq:=aa hXq;clear h1 hX1 ho hb1 H0 CF c12 hY hXq;rintro q2⟨hL2,hX2,hY2,hO2,hN2⟩;have HN2:=aa hN2;clear hN2;have k0:q2.cell? (Y,0)=some (.int .i64 st'):=cv hY2
 have k1:q2.cell? (Y,1)=some (.slice ad A.length cp):=cv hY2
 have k2:q2.cell? (Y,2)=some (.int .i64 cd):=cv hY2
 have hBY:B≠Y:=by omega
 have HQ2:=aa (zA hL2 (zA hX2 (zA hY2 hO2)));clear hL2 hX2 hY2 hO2;by_cases hcd:cd=0
 .subst hcd;obtain⟨n,hn⟩ := ex A.length;rw[hn]at k1 hl HQ2;have hd0:¬((0:Int)<0):=by decide
  have KY:Hid (∀wr,Nr B q2 wr->wr.cell? (Y,0)=some (.int .i64 st')/\wr.cell? (Y,1)=some ((ad,n,cp):V)):=by
   have hyl:=(ge.1 HQ2.out.2.2.1).1;refine aa fun wr hw=>?_
   have e:=hw.block Y hyl hBY.symm;exact⟨(World.cell?_of_block e).trans k0,(World.cell?_of_block e).trans k1⟩
  have KT:Hid (∀(i:Nat)(hi:i<A.length),∃g,ad=some ⟨g,0,none⟩/\∀wr,Nr B q2 wr->wr.cell? ⟨g,i,none⟩=some (.string A[i])):=by
   refine aa fun i hi=>?_
   have hO:=HQ2.out.2.2.2;rw[<- hn]at hO;obtain⟨g,cp',e1,hgl,hc⟩:=Cr hO i hi;injection e1 with e1 _ _;refine⟨g,e1,fun wr hw=>(World.cell?_of_block (hw.block g hgl fun e=>?_)).trans hc⟩;subst e;exact aq hO HQ2.out.1.row HQ2.out.1.tt.2.2 (by rw[e1];rfl)
  go_wp2_with fail
  go_loopw [6,7] (fun x y wr=>∃i:Nat,i<=n/\x=.bool ((A.take i).any dH)/\y=.int .i64 i/\∃u1 u2 us ut,Lay 99 w0 q2 B c ((A.take i).foldl (fun s a=>bv c a s) s) u1 u2 us ut wr) (fun _ y _=>n-(intOf y).toNat)
  case atStart=>exact⟨0,Nat.zero_le _,rfl,rfl,_,_,_,_,HQ2.out.1⟩
  case round =>
   obtain⟨i,hi,rfl,rfl,u1,u2,us,ut,hLi⟩:=hrel;obtain⟨y0,y1⟩:=uh KY wr hLi.nr;by_cases hlt:i<n
   .have d1:(i:Int)<(n:Int):=by omega
    obtain⟨g,rfl,hg⟩:=uh KT i (by omega);have t1:=hg wr hLi.nr;have HI:=aa hLi;have HG:=aa hg;have CA:=aa (HP.out.2.1 _ (List.getElem_mem (by omega:i<A.length)) w0 q2 B ((A.take i).foldl (fun s a=>bv c a s) s) u1 u2 us ut wr i hLi (HP.out.1.fold A i) (by omega));have HS:Hid (((A.take (i+1)).any dH=((A.take i).any dH||dH A[i]))/\(A.take (i+1)).foldl (fun s a=>bv c a s) s=bv c A[i] ((A.take i).foldl (fun s a=>bv c a s) s)):=by
     exact aa ⟨jq A i _,hU c s A i _⟩
    clear hLi hg;generalize A[i]=a at*;generalize ((A.take i).foldl (fun s a=>bv c a s) s)=si at*;generalize (A.take i).any dH=b at*;go_wp2_with fail
    refine CA.out.mono ?_;rintro r wr2⟨rfl,x1,x2,xs,xt,hL2⟩;obtain⟨z0,z1⟩:=uh KY wr2 hL2.nr;have t2:=uh HG wr2 hL2.nr;have HI2:=aa hL2;clear hL2 y0 y1 t1;have hst:dH a=(decide (a.toList=[105,114,99])||decide (a.toList=[122,114,99])):=rfl;cases b<;>by_cases ha:a.toList=[105,114,99]<;>by_cases hz:a.toList=[122,114,99]
    all_goals
     go_wp2_with fail
     go_roundw
     case rel=>refine⟨i+1,by omega,?_,by go_num,x1,x2,xs,xt,by rw[HS.out.2];exact uh HI2⟩;rw[HS.out.1,hst];simp[ha,hz]
     case measure=>simp[intOf];omega
   .have e:i=n:=by omega
    subst e;have d1:¬((i:Int)<(i:Int)):=by omega
    have c12:=hLi.cell (i:=12) rfl;have f12:=hLi.frz 12;have eT:A.take i=A:=by rw[<- hn,List.take_length]
    rw[eT]at hLi c12;rw[eT];have h3:=hLi.setRaw 12 st' {(A.foldl (fun s a=>bv c a s) s).e with st:=st'} rfl;obtain⟨m0,_⟩:=uh KY _ h3.nr;have c14:=h3.cell (i:=14) rfl;have f14:=h3.frz 14;have c30:=h3.cell (i:=30) rfl;have H3:=aa h3;have CR:=aa fun W=>lv st' W
    have HX3:Hid (∀z,Nr B q2 z->z.heap[X]?=some (.cells k_ 74)):=aa fun z hz=>(hz.block X (ge.1 HQ2.out.2.1).1 (by omega)).trans HQ2.out.2.1
    have hnow:=HP.out.1.now;obtain⟨S,hS⟩:∃S:St,{(A.foldl (fun s a=>bv c a s) s)with e:=fm c A st' (A.foldl (fun s a=>bv c a s) s).e}=S:=⟨_,rfl⟩;have HS:Hid (S={(A.foldl (fun s a=>bv c a s) s)with e:=fm c A st' (A.foldl (fun s a=>bv c a s) s).e}/\S.e=fm c A st' (A.foldl (fun s a=>bv c a s) s).e):=aa ⟨hS.symm,by rw[<- hS]⟩;clear hLi h3 KT hS HP;dsimp only at c14 c30;cases hrr:gj st'
    .rw [hrr]at CR;have HE:fm c A st' (A.foldl (fun s a=>bv c a s) s).e={(A.foldl (fun s a=>bv c a s) s).e with st:=st',du:=-1}:=by unfold fm;rw[hrr];rfl
     go_upto_region 15 with(first|(go_at_call 73;refine cq (uh CR _) ?_))
     refine bb (fun z=>Lay 99 w0 q2 B c S u1 u2 us ut z/\z.heap[X]?=some (.cells k_ 74)) ?_ ?_
     .have h4:=H3.out.setRaw 14 (.int .i64 (-1)) {(A.foldl (fun s a=>bv c a s) s).e with st:=st',du:=-1} rfl;rw[<- HE,<- HS.out.1]at h4;exact⟨h4,uh HX3 _ h4.nr⟩
     clear H3 c12 f12 c14 f14 c30 m0;rintro z⟨hz,hX⟩;obtain⟨a1,p1,e1⟩:=af hz.o1;obtain⟨a2,p2,e2⟩:=af hz.o2;obtain⟨a3,p3,e3⟩:=af hz.os;obtain⟨a4,p4,e4⟩:=af hz.ot;subst e1 e2 e3 e4;have c37:=hz.cell (i:=37) rfl;have c38:=hz.cell (i:=38) rfl;have hrg:=dU hz;have hall:=aG S.e a1 a2 a3 a4 S.F1.length S.F2.length S.sn.length S.tl.length p1 p2 p3 p4 0;have HZ:=aa (zA hz hX);clear hz hX;refine wp_region_held_drew (S:=fun z=>z.rangeAt B 0 (aA S.e (a1,S.F1.length,p1) (a2,S.F2.length,p2)).toList/\z.cell? (B,37)=some (.slice a3 S.sn.length p3)/\z.cell? (B,38)=some ((a4,S.tl.length,p4):V)) (by kernel_rfl) ?_ (fun hHeld=>?_)
     .exact ⟨hrg,c37,c38⟩
     refine tt 0 1 ?_;refine t2 2 ?_;refine t4 3 (.agg (aA S.e (a1,S.F1.length,p1) (a2,S.F2.length,p2))) rfl (yieldsIf_load_mid (by rfl) 32 (.tmp 88) rfl B 0 rfl (aA S.e (a1,S.F1.length,p1) (a2,S.F2.length,p2)).toList _ (fun z hz=>hz.1) underlying32 rfl aL) ?_;try simp only[Act.put,sA,sZ,sS,gA,gZ,gS]
     refine tq 4 5 6 7 ?_;refine tq 8 9 10 11 ?_;refine t4 12 (.agg (aC S.e (a1,S.F1.length,p1) (a2,S.F2.length,p2) (a3,S.sn.length,p3) (a4,S.tl.length,p4) 0)) rfl (Or.inl ⟨by rfl,fun _ _=>by kernel_rfl⟩) ?_;try simp only[Act.put,sA,sZ,sS,gA,gZ,gS]
     refine r3 13 fun K hK=>?_
     rw[if_pos (by rfl)];refine wp_store_row 74 (.tmp 4) (.tmp 98) rfl X (aC S.e (.slice a1 S.F1.length p1) (.slice a2 S.F2.length p2) (.slice a3 S.sn.length p3) (.slice a4 S.tl.length p4) 0) rfl rfl 74 k_ HZ.out.2 aw rfl hall ?_;have bX:Below X z (z.setRow X (aC S.e (.slice a1 S.F1.length p1) (.slice a2 S.F2.length p2) (.slice a3 S.sn.length p3) (.slice a4 S.tl.length p4) 0)):=am (zC _ _) (zD _) _;refine hK.out _ _ ?_ (fun _=>?_)
     .refine ⟨fun j v hv=>(bX.cell (p:=⟨B,0+j,none⟩) hBX).trans (hrg j v hv),(bX.cell (p:=⟨B,37,none⟩) hBX).trans c37,(bX.cell (p:=⟨B,38,none⟩) hBX).trans c38⟩
     clear hK K;try simp only[Act.put]
     refine dn ?_ _;go_wp2
     refine bodyPost_ret (v:=.agg (aC S.e (a1,S.F1.length,p1) (a2,S.F2.length,p2) (a3,S.sn.length,p3) (a4,S.tl.length,p4) 0)) (by simp[results,results52,asAddr,de (setRow_heap z.drew X _ (aC S.e (a1,S.F1.length,p1) (a2,S.F2.length,p2) (a3,S.sn.length,p3) (a4,S.tl.length,p4) 0) _ _ HZ.out.2)]) rfl ?_;obtain⟨hz0,hX⟩:=uh HZ;have hz:=hz0.step (zC _ _).drew;have hXd:z.drew.heap[X]?=some (.cells k_ 74):=hX;have hs:=hz.lo.size;have hSS:=HS.out.1;clear HZ HS hHeld hrg c37 c38 hall hz0 bX;subst hSS;refine⟨⟨_,_,_,_,?_,az hz.o1 hXd (by decide),az hz.o2 hXd (by decide),aE (az hz.os hXd (by decide)) hs,aE (az hz.ot hXd (by decide)) hs,hz.ap,hz.low.trans (am (zC _ _) (Nat.le_of_lt (Nat.lt_of_le_of_lt hz.hB hBX)) _)⟩,eR (HN2.out.trans hz.nr) (Nat.le_of_eq HXq.out) _⟩;exact congrArg (fun e=>Ending.returned (.agg (aC e _ _ _ _ 0))) HE
    .rw [hrr]at CR;by_cases hdu:(A.foldl (fun s a=>bv c a s) s).e.du<0
     .have HE:fm c A st' (A.foldl (fun s a=>bv c a s) s).e={(A.foldl (fun s a=>bv c a s) s).e with st:=st',du:=c.now+3}:=by unfold fm;rw[hrr,decide_eq_true hdu];rfl
      go_upto_region 15 with(first|(go_at_call 73;refine cq (uh CR _) ?_))
      refine bb (fun z=>Lay 99 w0 q2 B c S u1 u2 us ut z/\z.heap[X]?=some (.cells k_ 74)) ?_ ?_
      .have h4:=H3.out.setRaw 14 (.int .i64 (c.now+3)) {(A.foldl (fun s a=>bv c a s) s).e with st:=st',du:=c.now+3} rfl;rw[<- HE,<- HS.out.1]at h4;exact⟨h4,uh HX3 _ h4.nr⟩
      clear H3 c12 f12 c14 f14 c30 m0;rintro z⟨hz,hX⟩;obtain⟨a1,p1,e1⟩:=af hz.o1;obtain⟨a2,p2,e2⟩:=af hz.o2;obtain⟨a3,p3,e3⟩:=af hz.os;obtain⟨a4,p4,e4⟩:=af hz.ot;subst e1 e2 e3 e4;have c37:=hz.cell (i:=37) rfl;have c38:=hz.cell (i:=38) rfl;have hrg:=dU hz;have hall:=aG S.e a1 a2 a3 a4 S.F1.length S.F2.length S.sn.length S.tl.length p1 p2 p3 p4 0;have HZ:=aa (zA hz hX);clear hz hX;refine wp_region_held_drew (S:=fun z=>z.rangeAt B 0 (aA S.e (a1,S.F1.length,p1) (a2,S.F2.length,p2)).toList/\z.cell? (B,37)=some (.slice a3 S.sn.length p3)/\z.cell? (B,38)=some ((a4,S.tl.length,p4):V)) (by kernel_rfl) ?_ (fun hHeld=>?_)
      .exact ⟨hrg,c37,c38⟩
      refine tt 0 1 ?_;refine t2 2 ?_;refine t4 3 (.agg (aA S.e (a1,S.F1.length,p1) (a2,S.F2.length,p2))) rfl (yieldsIf_load_mid (by rfl) 32 (.tmp 88) rfl B 0 rfl (aA S.e (a1,S.F1.length,p1) (a2,S.F2.length,p2)).toList _ (fun z hz=>hz.1) underlying32 rfl aL) ?_;try simp only[Act.put,sA,sZ,sS,gA,gZ,gS]
      refine tq 4 5 6 7 ?_;refine tq 8 9 10 11 ?_;refine t4 12 (.agg (aC S.e (a1,S.F1.length,p1) (a2,S.F2.length,p2) (a3,S.sn.length,p3) (a4,S.tl.length,p4) 0)) rfl (Or.inl ⟨by rfl,fun _ _=>by kernel_rfl⟩) ?_;try simp only[Act.put,sA,sZ,sS,gA,gZ,gS]
      refine r3 13 fun K hK=>?_
      rw[if_pos (by rfl)];refine wp_store_row 74 (.tmp 4) (.tmp 98) rfl X (aC S.e (.slice a1 S.F1.length p1) (.slice a2 S.F2.length p2) (.slice a3 S.sn.length p3) (.slice a4 S.tl.length p4) 0) rfl rfl 74 k_ HZ.out.2 aw rfl hall ?_;have bX:Below X z (z.setRow X (aC S.e (.slice a1 S.F1.length p1) (.slice a2 S.F2.length p2) (.slice a3 S.sn.length p3) (.slice a4 S.tl.length p4) 0)):=am (zC _ _) (zD _) _;refine hK.out _ _ ?_ (fun _=>?_)
      .refine ⟨fun j v hv=>(bX.cell (p:=⟨B,0+j,none⟩) hBX).trans (hrg j v hv),(bX.cell (p:=⟨B,37,none⟩) hBX).trans c37,(bX.cell (p:=⟨B,38,none⟩) hBX).trans c38⟩
      clear hK K;try simp only[Act.put]
      refine dn ?_ _;go_wp2
      refine bodyPost_ret (v:=.agg (aC S.e (a1,S.F1.length,p1) (a2,S.F2.length,p2) (a3,S.sn.length,p3) (a4,S.tl.length,p4) 0)) (by simp[results,results52,asAddr,de (setRow_heap z.drew X _ (aC S.e (a1,S.F1.length,p1) (a2,S.F2.length,p2) (a3,S.sn.length,p3) (a4,S.tl.length,p4) 0) _ _ HZ.out.2)]) rfl ?_;obtain⟨hz0,hX⟩:=uh HZ;have hz:=hz0.step (zC _ _).drew;have hXd:z.drew.heap[X]?=some (.cells k_ 74):=hX;have hs:=hz.lo.size;have hSS:=HS.out.1;clear HZ HS hHeld hrg c37 c38 hall hz0 bX;subst hSS;refine⟨⟨_,_,_,_,?_,az hz.o1 hXd (by decide),az hz.o2 hXd (by decide),aE (az hz.os hXd (by decide)) hs,aE (az hz.ot hXd (by decide)) hs,hz.ap,hz.low.trans (am (zC _ _) (Nat.le_of_lt (Nat.lt_of_le_of_lt hz.hB hBX)) _)⟩,eR (HN2.out.trans hz.nr) (Nat.le_of_eq HXq.out) _⟩;exact congrArg (fun e=>Ending.returned (.agg (aC e _ _ _ _ 0))) HE
     .cases hset:A.any dH
      .have HE:fm c A st' (A.foldl (fun s a=>bv c a s) s).e={(A.foldl (fun s a=>bv c a s) s).e with st:=st'}:=by unfold fm;rw[hrr,decide_eq_false hdu,hset];rfl
       go_upto_region 15 with(first|(go_at_call 73;refine cq (uh CR _) ?_))
       refine bb (fun z=>Lay 99 w0 q2 B c S u1 u2 us ut z/\z.heap[X]?=some (.cells k_ 74)) ?_ ?_
       .have h4:=uh H3;rw[<- HE,<- HS.out.1]at h4;exact⟨h4,uh HX3 _ h4.nr⟩
       clear H3 c12 f12 c14 f14 c30 m0;rintro z⟨hz,hX⟩;obtain⟨a1,p1,e1⟩:=af hz.o1;obtain⟨a2,p2,e2⟩:=af hz.o2;obtain⟨a3,p3,e3⟩:=af hz.os;obtain⟨a4,p4,e4⟩:=af hz.ot;subst e1 e2 e3 e4;have c37:=hz.cell (i:=37) rfl;have c38:=hz.cell (i:=38) rfl;have hrg:=dU hz;have hall:=aG S.e a1 a2 a3 a4 S.F1.length S.F2.length S.sn.length S.tl.length p1 p2 p3 p4 0;have HZ:=aa (zA hz hX);clear hz hX;refine wp_region_held_drew (S:=fun z=>z.rangeAt B 0 (aA S.e (a1,S.F1.length,p1) (a2,S.F2.length,p2)).toList/\z.cell? (B,37)=some (.slice a3 S.sn.length p3)/\z.cell? (B,38)=some ((a4,S.tl.length,p4):V)) (by kernel_rfl) ?_ (fun hHeld=>?_)
       .exact ⟨hrg,c37,c38⟩
       refine tt 0 1 ?_;refine t2 2 ?_;refine t4 3 (.agg (aA S.e (a1,S.F1.length,p1) (a2,S.F2.length,p2))) rfl (yieldsIf_load_mid (by rfl) 32 (.tmp 88) rfl B 0 rfl (aA S.e (a1,S.F1.length,p1) (a2,S.F2.length,p2)).toList _ (fun z hz=>hz.1) underlying32 rfl aL) ?_;try simp only[Act.put,sA,sZ,sS,gA,gZ,gS]
       refine tq 4 5 6 7 ?_;refine tq 8 9 10 11 ?_;refine t4 12 (.agg (aC S.e (a1,S.F1.length,p1) (a2,S.F2.length,p2) (a3,S.sn.length,p3) (a4,S.tl.length,p4) 0)) rfl (Or.inl ⟨by rfl,fun _ _=>by kernel_rfl⟩) ?_;try simp only[Act.put,sA,sZ,sS,gA,gZ,gS]
       refine r3 13 fun K hK=>?_
       rw[if_pos (by rfl)];refine wp_store_row 74 (.tmp 4) (.tmp 98) rfl X (aC S.e (.slice a1 S.F1.length p1) (.slice a2 S.F2.length p2) (.slice a3 S.sn.length p3) (.slice a4 S.tl.length p4) 0) rfl rfl 74 k_ HZ.out.2 aw rfl hall ?_;have bX:Below X z (z.setRow X (aC S.e (.slice a1 S.F1.length p1) (.slice a2 S.F2.length p2) (.slice a3 S.sn.length p3) (.slice a4 S.tl.length p4) 0)):=am (zC _ _) (zD _) _;refine hK.out _ _ ?_ (fun _=>?_)
       .refine ⟨fun j v hv=>(bX.cell (p:=⟨B,0+j,none⟩) hBX).trans (hrg j v hv),(bX.cell (p:=⟨B,37,none⟩) hBX).trans c37,(bX.cell (p:=⟨B,38,none⟩) hBX).trans c38⟩
       clear hK K;try simp only[Act.put]
       refine dn ?_ _;go_wp2
       refine bodyPost_ret (v:=.agg (aC S.e (a1,S.F1.length,p1) (a2,S.F2.length,p2) (a3,S.sn.length,p3) (a4,S.tl.length,p4) 0)) (by simp[results,results52,asAddr,de (setRow_heap z.drew X _ (aC S.e (a1,S.F1.length,p1) (a2,S.F2.length,p2) (a3,S.sn.length,p3) (a4,S.tl.length,p4) 0) _ _ HZ.out.2)]) rfl ?_;obtain⟨hz0,hX⟩:=uh HZ;have hz:=hz0.step (zC _ _).drew;have hXd:z.drew.heap[X]?=some (.cells k_ 74):=hX;have hs:=hz.lo.size;have hSS:=HS.out.1;clear HZ HS hHeld hrg c37 c38 hall hz0 bX;subst hSS;refine⟨⟨_,_,_,_,?_,az hz.o1 hXd (by decide),az hz.o2 hXd (by decide),aE (az hz.os hXd (by decide)) hs,aE (az hz.ot hXd (by decide)) hs,hz.ap,hz.low.trans (am (zC _ _) (Nat.le_of_lt (Nat.lt_of_le_of_lt hz.hB hBX)) _)⟩,eR (HN2.out.trans hz.nr) (Nat.le_of_eq HXq.out) _⟩;exact congrArg (fun e=>Ending.returned (.agg (aC e _ _ _ _ 0))) HE
      .have HE:fm c A st' (A.foldl (fun s a=>bv c a s) s).e={(A.foldl (fun s a=>bv c a s) s).e with st:=st',du:=c.now+3}:=by unfold fm;rw[hrr,decide_eq_false hdu,hset];rfl
       go_upto_region 15 with(first|(go_at_call 73;refine cq (uh CR _) ?_))
       refine bb (fun z=>Lay 99 w0 q2 B c S u1 u2 us ut z/\z.heap[X]?=some (.cells k_ 74)) ?_ ?_
       .have h4:=H3.out.setRaw 14 (.int .i64 (c.now+3)) {(A.foldl (fun s a=>bv c a s) s).e with st:=st',du:=c.now+3} rfl;rw[<- HE,<- HS.out.1]at h4;exact⟨h4,uh HX3 _ h4.nr⟩
       clear H3 c12 f12 c14 f14 c30 m0;rintro z⟨hz,hX⟩;obtain⟨a1,p1,e1⟩:=af hz.o1;obtain⟨a2,p2,e2⟩:=af hz.o2;obtain⟨a3,p3,e3⟩:=af hz.os;obtain⟨a4,p4,e4⟩:=af hz.ot;subst e1 e2 e3 e4;have c37:=hz.cell (i:=37) rfl;have c38:=hz.cell (i:=38) rfl;have hrg:=dU hz;have hall:=aG S.e a1 a2 a3 a4 S.F1.length S.F2.length S.sn.length S.tl.length p1 p2 p3 p4 0;have HZ:=aa (zA hz hX);clear hz hX;refine wp_region_held_drew (S:=fun z=>z.rangeAt B 0 (aA S.e (a1,S.F1.length,p1) (a2,S.F2.length,p2)).toList/\z.cell? (B,37)=some (.slice a3 S.sn.length p3)/\z.cell? (B,38)=some ((a4,S.tl.length,p4):V)) (by kernel_rfl) ?_ (fun hHeld=>?_)
       .exact ⟨hrg,c37,c38⟩
       refine tt 0 1 ?_;refine t2 2 ?_;refine t4 3 (.agg (aA S.e (a1,S.F1.length,p1) (a2,S.F2.length,p2))) rfl (yieldsIf_load_mid (by rfl) 32 (.tmp 88) rfl B 0 rfl (aA S.e (a1,S.F1.length,p1) (a2,S.F2.length,p2)).toList _ (fun z hz=>hz.1) underlying32 rfl aL) ?_;try simp only[Act.put,sA,sZ,sS,gA,gZ,gS]
       refine tq 4 5 6 7 ?_;refine tq 8 9 10 11 ?_;refine t4 12 (.agg (aC S.e (a1,S.F1.length,p1) (a2,S.F2.length,p2) (a3,S.sn.length,p3) (a4,S.tl.length,p4) 0)) rfl (Or.inl ⟨by rfl,fun _ _=>by kernel_rfl⟩) ?_;try simp only[Act.put,sA,sZ,sS,gA,gZ,gS]
       refine r3 13 fun K hK=>?_
       rw[if_pos (by rfl)];refine wp_store_row 74 (.tmp 4) (.tmp 98) rfl X (aC S.e (.slice a1 S.F1.length p1) (.slice a2 S.F2.length p2) (.slice a3 S.sn.length p3) (.slice a4 S.tl.length p4) 0) rfl rfl 74 k_ HZ.out.2 aw rfl hall ?_;have bX:Below X z (z.setRow X (aC S.e (.slice a1 S.F1.length p1) (.slice a2 S.F2.length p2) (.slice a3 S.sn.length p3) (.slice a4 S.tl.length p4) 0)):=am (zC _ _) (zD _) _;refine hK.out _ _ ?_ (fun _=>?_)
       .refine ⟨fun j v hv=>(bX.cell (p:=⟨B,0+j,none⟩) hBX).trans (hrg j v hv),(bX.cell (p:=⟨B,37,none⟩) hBX).trans c37,(bX.cell (p:=⟨B,38,none⟩) hBX).trans c38⟩
       clear hK K;try simp only[Act.put]
       refine dn ?_ _;go_wp2
       refine bodyPost_ret (v:=.agg (aC S.e (a1,S.F1.length,p1) (a2,S.F2.length,p2) (a3,S.sn.length,p3) (a4,S.tl.length,p4) 0)) (by simp[results,results52,asAddr,de (setRow_heap z.drew X _ (aC S.e (a1,S.F1.length,p1) (a2,S.F2.length,p2) (a3,S.sn.length,p3) (a4,S.tl.length,p4) 0) _ _ HZ.out.2)]) rfl ?_;obtain⟨hz0,hX⟩:=uh HZ;have hz:=hz0.step (zC _ _).drew;have hXd:z.drew.heap[X]?=some (.cells k_ 74):=hX;have hs:=hz.lo.size;have hSS:=HS.out.1;clear HZ HS hHeld hrg c37 c38 hall hz0 bX;subst hSS;refine⟨⟨_,_,_,_,?_,az hz.o1 hXd (by decide),az hz.o2 hXd (by decide),aE (az hz.os hXd (by decide)) hs,aE (az hz.ot hXd (by decide)) hs,hz.ap,hz.low.trans (am (zC _ _) (Nat.le_of_lt (Nat.lt_of_le_of_lt hz.hB hBX)) _)⟩,eR (HN2.out.trans hz.nr) (Nat.le_of_eq HXq.out) _⟩;exact congrArg (fun e=>Ending.returned (.agg (aC e _ _ _ _ 0))) HE
 .have hcn:(cd != 0)=true:=by simpa using hcd
  have hall:(aC ag () () () () cd).all (·.oneCell')=true:=aG _ _ _ _ _ _ _ _ _ _ _ _ _ _
  go_wp2_with (first
   | (refine wpList_buildTo rfl 74 _ rfl (some 20) rfl (aC ag () () () () cd) (by as_aux_lemma=>kernel_rfl) ?_)
   | (refine wpList_store_rowTo rfl 74 (.tmp 4) (.tmp 20) rfl rfl X (aC ag () () () () cd) rfl rfl 74 k_ HQ2.out.2.1 aw rfl hall ?_))
  refine bodyPost_ret (v:=.agg (aC ag () () () () cd)) (by simp[results,results52,asAddr,de (setRow_heap q2 X _ (aC ag () () () () cd) _ _ HQ2.out.2.1)]) rfl ?_;exact⟨bE (HQ2.out.1.low.trans (am (zC _ _) (by have:=HQ2.out.1.hB;omega) _)) cd,eR HN2.out (Nat.le_of_eq HXq.out) _⟩
theorem cR(w0 w1:World)(B:Nat)(c:Cx)(s:St)(v1 v2:Value)(q:World)(h:Lay 99 w0 w1 B c s v1 v2 () () q)(hs:s.sn=[])(ht:s.tl=[])(hf:Fit 0 c s)(t:ByteArray)(hts:t.size<=maxLen)(hA:∀a∈(bO s.e.st t).2.1,nM 99 72 c a)(hl:(bO s.e.st t).2.1.length<=30):Calls prog 52 #[(B,0),t] q fun r q'=>EvA w0 (bj c s t) r q' :=
 (dR w0 w1 B c s v1 v2 q h hs ht hf t hts hA hl).mono fun _ _ h=>h.1
end Go.Proofs.YtjdgiimfpkideaaGreatDoor
