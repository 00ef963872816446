/- MtX -/
import Derived.Test.YtjdgiimfpkideaaGreatDoorS42
set_option maxHeartbeats 8000000
set_option maxRecDepth 100000
namespace Go.Proofs.YtjdgiimfpkideaaGreatDoor
open Go.RowKit Go.Proofs.Tryz
theorem ru(m1 a1 g1:Int)(p1 c1 d1:Bool)(m2 a2 g2:Int)(p2 c2 d2:Bool){x:Option Addr}{y:Nat}{L:List Int}(st:Bool)(w:World)(hl:L.length<=1048576)(hL:HoldsI w (x,L.length,y) L)(tb:EvT w/\NxT w/\SpT w/\Et w):Calls prog 6 #[.agg #[m1,a1,g1,p1,c1,d1],.agg #[m2,a2,g2,p2,c2,d2],(x,L.length,y),st] w fun e w'=>AnP true (eC m1 a1 g1 p1 c1 d1 m2 a2 g2 p2 c2 d2 L st) w e w':=by
 have C1:=aa fun W=>dm m1 a1 g1 p1 c1 d1 W
 have C2:=aa fun W=>dm m2 a2 g2 p2 c2 d2 W
 obtain⟨A,eA⟩ := ex w.heap.size;have hXw:w.heap.size<=A+1+1:=by omega
 have H0:Hid (Mr w A #[m1,a1,g1,p1,c1,d1] #[m2,a2,g2,p2,c2,d2] (((w.alloc (.cells #[m1,a1,g1,p1,c1,d1] 24)).alloc (.cells #[m2,a2,g2,p2,c2,d2] 24)).alloc (.cells cm 34))):=aa (by rw[<- eA];exact qX w _ _);have HR:Hid (∀q,Mr w A #[m1,a1,g1,p1,c1,d1] #[m2,a2,g2,p2,c2,d2] q->q.cell? (A,0)=some (.int .i64 m1)/\q.cell? (A,1)=some (.int .i64 a1)/\q.cell? (A,2)=some (.int .i64 g1)/\q.cell? (A,3)=some (.bool p1)/\q.cell? (A,4)=some (.bool c1)/\q.cell? (A,5)=some (.bool d1)/\q.cell? (A+1,0)=some (.int .i64 m2)/\q.cell? (A+1,1)=some (.int .i64 a2)/\q.cell? (A+1,2)=some (.int .i64 g2)/\q.cell? (A+1,3)=some (.bool p2)/\q.cell? (A+1,4)=some (.bool c2)/\q.cell? (A+1,5)=some (d2:V)):=aa fun q h=>⟨by rw[cr h.a];rfl,by rw[cr h.a];rfl,by rw[cr h.a];rfl,by rw[cr h.a];rfl,by rw[cr h.a];rfl,by rw[cr h.a];rfl,by rw[cr h.b];rfl,by rw[cr h.b];rfl,by rw[cr h.b];rfl,by rw[cr h.b];rfl,by rw[cr h.b];rfl,by rw[cr h.b];rfl⟩
 have HL:=aa hL;have HTB:=aa tb;clear hL tb;obtain⟨n,hn⟩ := ex L.length;rw[hn]at HL hl|-;obtain⟨o,ho⟩ := ex (eC m1 a1 g1 p1 c1 d1 m2 a2 g2 p2 c2 d2 L st);rw[ho];unfold eC at ho;rw[hn]at ho;have HO:=aa ho.symm;clear ho;go_enter func6,ntmps6
 go_upto_region 1 with fail
 refine bb (fun z=>Mr w A #[m1,a1,g1,p1,c1,d1] #[m2,a2,g2,p2,c2,d2] z) ?_ ?_
 .rw [<- eA]at H0|-;exact uh H0
 clear H0;rintro z hz;have HZ:=aa hz;clear hz;by_cases h4:400<n
 .have d0:(400:Int)<(n:Int):=by omega
  go_wp2_with (first
   | (refine wpList_buildTo rfl 34 _ rfl (some 13) rfl (gU 2) (by as_aux_lemma=>kernel_rfl) ?_)
   | (refine wpList_store_rowTo rfl 34 (.tmp 8) (.tmp 13) rfl rfl (A+1+1) (gU 2) rfl rfl 34 cm HZ.out.z bf rfl (fR _) ?_))
  refine bodyPost_ret (v:=.agg (gU 2)) (by simp[results,results6,asAddr,Act.put,eI (setRow_heap z (A+1+1) _ (gU 2) _ _ HZ.out.z)]) rfl ?_;rw[show o=⟨kL,kL,2⟩by rw[uh HO,if_pos h4]];exact AnP.err 2 (am HZ.out.l hXw _)
 have d0:¬((400:Int)<(n:Int)):=by omega
 obtain⟨k0,k1,k2,k3,k4,k5,_⟩:=uh HR _ HZ.out;go_wp2_with fail
 refine(uh C1 _).mono ?_;rintro r z1⟨rfl,hb1⟩;have H1:=aa (HZ.out.step hb1);clear hb1 HZ C1 k0 k1 k2 k3 k4 k5;cases hq1:aK m1 a1 g1
 .have n1:True:=trivial;clear n1
  go_wp2_with (first
   | (refine wpList_buildTo rfl 34 _ rfl (some 22) rfl (gU 1) (by as_aux_lemma=>kernel_rfl) ?_)
   | (refine wpList_store_rowTo rfl 34 (.tmp 8) (.tmp 22) rfl rfl (A+1+1) (gU 1) rfl rfl 34 cm H1.out.z bf rfl (fR _) ?_))
  refine bodyPost_ret (v:=.agg (gU 1)) (by simp[results,results6,asAddr,Act.put,eI (setRow_heap z1 (A+1+1) _ (gU 1) _ _ H1.out.z)]) rfl ?_;rw[show o=⟨kL,kL,1⟩by rw[uh HO,if_neg h4,if_neg (fun h=>by rw[hq1]at h;cases h.1)]];exact AnP.err 1 (am H1.out.l hXw _)
 obtain⟨_,_,_,_,_,_,k0,k1,k2,k3,k4,k5⟩:=uh HR _ H1.out;go_wp2_with fail
 refine(uh C2 _).mono ?_;rintro r z2⟨rfl,hb2⟩;have H2:=aa (H1.out.step hb2);clear hb2 H1 C2 k0 k1 k2 k3 k4 k5;cases hq2:aK m2 a2 g2
 .have n1:True:=trivial;clear n1
  go_wp2_with (first
   | (refine wpList_buildTo rfl 34 _ rfl (some 22) rfl (gU 1) (by as_aux_lemma=>kernel_rfl) ?_)
   | (refine wpList_store_rowTo rfl 34 (.tmp 8) (.tmp 22) rfl rfl (A+1+1) (gU 1) rfl rfl 34 cm H2.out.z bf rfl (fR _) ?_))
  refine bodyPost_ret (v:=.agg (gU 1)) (by simp[results,results6,asAddr,Act.put,eI (setRow_heap z2 (A+1+1) _ (gU 1) _ _ H2.out.z)]) rfl ?_;rw[show o=⟨kL,kL,1⟩by rw[uh HO,if_neg h4,if_neg (fun h=>by rw[hq2]at h;cases h.2)]];exact AnP.err 1 (am H2.out.l hXw _)
 obtain⟨u,hu⟩ := ex (jX m1 a1 g1 p1 c1 d1 m2 a2 g2 p2 c2 d2 L st);have HOU:Hid (o=⟨u.a,u.b,0⟩):=aa (by rw[uh HO,if_neg h4,if_pos ⟨hq1,hq2⟩,hu]);clear HO hq1 hq2;obtain⟨k0,k1,k2,k3,k4,k5,j0,j1,j2,j3,j4,j5⟩:=uh HR _ H2.out;have CN:=aa (xZ m1 a1 g1 p1 c1 d1 m2 a2 g2 p2 c2 d2 z2 (by
  obtain⟨t1,t2,t3,t4⟩:=uh HTB;exact⟨t1.below H2.out.l,t2.below H2.out.l,t3.below H2.out.l,t4.below H2.out.l t4.lt⟩))
 unfold jX at hu;generalize eo (qU m1 a1 g1 p1 c1 d1)=s1 at*;generalize eo (qU m2 a2 g2 p2 c2 d2)=s2 at*;clear HTB;go_wp2_with fail
 refine CN.out.mono ?_;rintro r z3⟨B,va,vb,rfl,hM,hb3⟩;have H3:=aa (H2.out.step hb3);have hs2:A+1+1<z2.heap.size:=(ge.1 H2.out.z).1;have hbs:Hid (w.heap.size<=z2.heap.size):=aa H2.out.l.size;have CR:=aa (xW hM (Int.le_refl 0) (show(0:Int)<=1000 by omega) (L:=L) (x:=x) (y:=y) (by rw[hn];exact HL.out.below H3.out.l rfl) (by omega));rw[hn]at CR;have HFI:Hid (∀zf va' vb',MW z2 B u zf va' vb'->zf.heap[A+1+1]?=some (.cells cm 34)->Below w w zf->∃(e1 e2:En)(v1 v2 v3 v4:Value),zf.rangeAt B 0 (aA e1 v1 v2).toList/\zf.rangeAt B 31 (aA e2 v3 v4).toList/\zf.heap[A+1+1]?=some (.cells cm 34)/\B≠A+1+1/\(cV (aA e1 v1 v2).toList (aA e2 v3 v4).toList 0).toArray.all (·.oneCell')=true/\(ye true w (zf.drew.setRow (A+1+1) (cV (aA e1 v1 v2).toList (aA e2 v3 v4).toList 0).toArray) ⟨u.a,u.b,0⟩ (cV (aA e1 v1 v2).toList (aA e2 v3 v4).toList 0)/\Below w w (zf.drew.setRow (A+1+1) (cV (aA e1 v1 v2).toList (aA e2 v3 v4).toList 0).toArray))):=aa fun zf va' vb' ⟨ca,cb,hMt⟩ hz hbz=>by
  have rA:=aS hMt.sa.row;have rB:=aS hMt.sb.row;rw[hMt.lenA]at rB;have hBz:B≠A+1+1:=by have:=hMt.bB;omega
  have eA:=hMt.ea;have eB:=hMt.eb;have xx:=hMt.xx;obtain⟨x1,x2,y1,y2,rfl,o⟩:=hMt.ea;obtain⟨x3,x4,y3,y4,rfl,o'⟩:=hMt.eb;have ko:∀(cs:Array Value)(g:Nat)(cur:Array Value),zf.heap[g]?=some (.cells cur 105)->(zf.drew.setRow (A+1+1) cs).heap[g]?=zf.heap[g]?:=fun cs g cur hg=>aV zf.drew (A+1+1) g cs fun e=>by
   rw[e,hz]at hg;injection hg with hg;injection hg with _ hg;exact absurd hg (by decide)
  have em:∀(cs:Array Value)(c:List Value)(s:Sd),EnM z2 zf c s->EnM w (zf.drew.setRow (A+1+1) cs) c s:=fun cs c s ⟨q1,q2,q3,q4,q5,q6,q7,q8⟩=>(show EnM w zf c s from⟨q1,q2,q3,q4,q5,dV q6 hbs.out,dV q7 hbs.out,q8⟩).keep (ko cs)
  exact⟨_,_,_,_,_,_,rA,rB,hz,hBz,Bm _ _ _ _ _ _ _ _ _ _ _ _ _ _ _,⟨_,_,rfl,em _ _ _ eA,em _ _ _ eB,fun _=>xx⟩,am (hbz.trans ((zC _ _).drew)) (by omega) _⟩
 have HKp:Hid (∀z4 va4 vb4,FW B va vb va4 vb4 z3 z4->z4.heap[A+1+1]?=some (.cells cm 34)/\Below w w z4):=aa fun z4 va4 vb4 hf=>by
  obtain⟨ca,cb,hMt⟩:=hM;refine⟨hMt.keepT hf _ _ _ (by decide) (by decide) H3.out.z,H3.out.l.trans ?_⟩;have f:=hf z3.heap.size;have hz3:=H3.out.l.size;have hbb:=uh hbs;exact⟨f.os,f.tape,f.output,f.size,fun k hk=>f.same k (by omega) (by have:=hMt.bB;omega) (by omega) (fun e=>by have:=(hMt.sa.wr.ownB k e).2.1;omega) (fun e=>by have:=(hMt.sb.wr.ownB k e).2.1;omega)⟩
 clear H2 hM hb3 HL CN HR hbs hs2 k0 k1 k2 k3 k4 k5 j0 j1 j2 j3 j4 j5;go_wp2_with fail
 refine CR.out.mono ?_;rintro r z4⟨rfl,va4,vb4,hM4,hf4⟩;cases st
 .have HF:=aa (uh HFI z4 va4 vb4 (by
   rw[<- hu];exact hM4) (uh HKp z4 va4 vb4 hf4).1 (uh HKp z4 va4 vb4 hf4).2)
  clear hM4 hf4 HKp HFI CR H3;go_upto_region 9 with fail
  obtain⟨e1,e2,v1,v2,v3,v4,r1,r2,rz,hne,hall,hend⟩:=uh HF;have HE:=aa hend;clear HF hend;have hS0:z4.drew.rangeAt B 0 (aA e1 v1 v2).toList/\z4.drew.rangeAt B 31 (aA e2 v3 v4).toList:=⟨r1,r2⟩;have rzd:z4.drew.heap[A+1+1]?=some (.cells cm 34):=rz;refine wp_region_held_drew (S:=fun z=>z.rangeAt B 0 (aA e1 v1 v2).toList/\z.rangeAt B 31 (aA e2 v3 v4).toList) (by kernel_rfl) hS0 (fun hHeld=>?_);clear hHeld r1 r2 rz;generalize z4.drew=yf at HE hS0 rzd|-;refine tq 0 1 2 3 ?_;refine t4 4 (.agg ((aA e1 v1 v2).toList).toArray) rfl (yieldsIf_load_mid (by rfl) 32 (.tmp 35) rfl B 0 rfl ((aA e1 v1 v2).toList) _ (fun _ h=>h.1) underlying32 rfl aL) ?_;try simp only[Act.put,sA,sZ,sS,gA,gZ,gS]
  refine tq 5 6 7 8 ?_;refine t4 9 (.agg ((aA e2 v3 v4).toList).toArray) rfl (yieldsIf_load_mid (by rfl) 32 (.tmp 40) rfl B 31 rfl ((aA e2 v3 v4).toList) _ (fun _ h=>h.2) underlying32 rfl aL) ?_;try simp only[Act.put,sA,sZ,sS,gA,gZ,gS]
  refine t4 10 (.agg (cV (aA e1 v1 v2).toList (aA e2 v3 v4).toList 0).toArray) rfl (bT (by rfl) _ _ rfl _ (by kernel_rfl)) ?_;try simp only[Act.put,sA,sZ,sS,gA,gZ,gS]
  have hsz:(cV (aA e1 v1 v2).toList (aA e2 v3 v4).toList 0).toArray.size=61:=gN _ _ _ _ _ _ _;have hS2:(yf.setRow (A+1+1) (cV (aA e1 v1 v2).toList (aA e2 v3 v4).toList 0).toArray).rangeAt B 0 (aA e1 v1 v2).toList/\(yf.setRow (A+1+1) (cV (aA e1 v1 v2).toList (aA e2 v3 v4).toList 0).toArray).rangeAt B 31 (aA e2 v3 v4).toList:=by
   have hB:=aV yf (A+1+1) B (cV (aA e1 v1 v2).toList (aA e2 v3 v4).toList 0).toArray hne;refine⟨fun j v hj=>?_,fun j v hj=>?_⟩
   .have:=hS0.1 j v hj
    unfold World.cell? at this|-;rw[hB];exact this
   .have:=hS0.2 j v hj
    unfold World.cell? at this|-;rw[hB];exact this
  generalize (cV (aA e1 v1 v2).toList (aA e2 v3 v4).toList 0)=cs9 at*;refine r3 11 fun K hK=>?_
  rw[if_pos (by rfl)];refine wp_store_row 34 (.tmp 8) (.tmp 42) rfl (A+1+1) cs9.toArray rfl rfl 34 cm rzd (by rw[hsz];exact bf) (by rw[hsz];rfl) hall ?_;refine ro hK hS2 fun _=>?_
  clear hK K hS0 hS2;refine dn ?_ _;go_wp2_with fail
  refine bodyPost_ret (v:=.agg cs9.toArray) (by simp[results,results6,asAddr,eI (setRow_heap yf (A+1+1) _ cs9.toArray _ _ rzd) hsz]) rfl ?_;rw[uh HOU];exact⟨_,rfl,uh HE⟩
 .have hnw:=gQ L ⟨s1,s2,0⟩;have CS:=aa (rm hM4 (by have:=hnw.1;exact this) (by have:=hnw.2;dsimp only at this;omega));have H4:=aa hf4;clear hM4 hf4 CR H3 hnw;go_wp2_with fail
  refine CS.out.mono ?_;rintro r z5⟨rfl,va5,vb5,hM5,hf5⟩;have HF:=aa (uh HFI z5 va5 vb5 (by
   rw[<- hu];exact hM5) (uh HKp z5 va5 vb5 (H4.out.trans hf5)).1 (uh HKp z5 va5 vb5 (H4.out.trans hf5)).2)
  clear hM5 hf5 HKp HFI CS H4;go_upto_region 9 with fail
  obtain⟨e1,e2,v1,v2,v3,v4,r1,r2,rz,hne,hall,hend⟩:=uh HF;have HE:=aa hend;clear HF hend;have hS0:z5.drew.rangeAt B 0 (aA e1 v1 v2).toList/\z5.drew.rangeAt B 31 (aA e2 v3 v4).toList:=⟨r1,r2⟩;have rzd:z5.drew.heap[A+1+1]?=some (.cells cm 34):=rz;refine wp_region_held_drew (S:=fun z=>z.rangeAt B 0 (aA e1 v1 v2).toList/\z.rangeAt B 31 (aA e2 v3 v4).toList) (by kernel_rfl) hS0 (fun hHeld=>?_);clear hHeld r1 r2 rz;generalize z5.drew=yf at HE hS0 rzd|-;refine tq 0 1 2 3 ?_;refine t4 4 (.agg ((aA e1 v1 v2).toList).toArray) rfl (yieldsIf_load_mid (by rfl) 32 (.tmp 35) rfl B 0 rfl ((aA e1 v1 v2).toList) _ (fun _ h=>h.1) underlying32 rfl aL) ?_;try simp only[Act.put,sA,sZ,sS,gA,gZ,gS]
  refine tq 5 6 7 8 ?_;refine t4 9 (.agg ((aA e2 v3 v4).toList).toArray) rfl (yieldsIf_load_mid (by rfl) 32 (.tmp 40) rfl B 31 rfl ((aA e2 v3 v4).toList) _ (fun _ h=>h.2) underlying32 rfl aL) ?_;try simp only[Act.put,sA,sZ,sS,gA,gZ,gS]
  refine t4 10 (.agg (cV (aA e1 v1 v2).toList (aA e2 v3 v4).toList 0).toArray) rfl (bT (by rfl) _ _ rfl _ (by kernel_rfl)) ?_;try simp only[Act.put,sA,sZ,sS,gA,gZ,gS]
  have hsz:(cV (aA e1 v1 v2).toList (aA e2 v3 v4).toList 0).toArray.size=61:=gN _ _ _ _ _ _ _;have hS2:(yf.setRow (A+1+1) (cV (aA e1 v1 v2).toList (aA e2 v3 v4).toList 0).toArray).rangeAt B 0 (aA e1 v1 v2).toList/\(yf.setRow (A+1+1) (cV (aA e1 v1 v2).toList (aA e2 v3 v4).toList 0).toArray).rangeAt B 31 (aA e2 v3 v4).toList:=by
   have hB:=aV yf (A+1+1) B (cV (aA e1 v1 v2).toList (aA e2 v3 v4).toList 0).toArray hne;refine⟨fun j v hj=>?_,fun j v hj=>?_⟩
   .have:=hS0.1 j v hj
    unfold World.cell? at this|-;rw[hB];exact this
   .have:=hS0.2 j v hj
    unfold World.cell? at this|-;rw[hB];exact this
  generalize (cV (aA e1 v1 v2).toList (aA e2 v3 v4).toList 0)=cs9 at*;refine r3 11 fun K hK=>?_
  rw[if_pos (by rfl)];refine wp_store_row 34 (.tmp 8) (.tmp 42) rfl (A+1+1) cs9.toArray rfl rfl 34 cm rzd (by rw[hsz];exact bf) (by rw[hsz];rfl) hall ?_;refine ro hK hS2 fun _=>?_
  clear hK K hS0 hS2;refine dn ?_ _;go_wp2_with fail
  refine bodyPost_ret (v:=.agg cs9.toArray) (by simp[results,results6,asAddr,eI (setRow_heap yf (A+1+1) _ cs9.toArray _ _ rzd) hsz]) rfl ?_;rw[uh HOU];exact⟨_,rfl,uh HE⟩
end Go.Proofs.YtjdgiimfpkideaaGreatDoor
