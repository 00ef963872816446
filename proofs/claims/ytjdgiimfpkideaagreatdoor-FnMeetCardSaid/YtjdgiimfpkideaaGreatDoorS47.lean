/- MtZ -/
import Derived.Test.YtjdgiimfpkideaaGreatDoorS40
import Derived.Test.YtjdgiimfpkideaaGreatDoorS42
set_option maxHeartbeats 8000000
set_option maxRecDepth 100000
namespace Go.Proofs.YtjdgiimfpkideaaGreatDoor
open Go.RowKit Go.Proofs.Tryz
theorem vw(y:World)(e1 e2:En):Ml y (y.alloc (.cells ((aA e1 () ()).toList++(aA e2 () ()).toList++[Value.slice none 0 0]++[Value.slice none 0 0]++[Value.int .i64 0]).toArray 70)) y ⟨⟨e1,[],[],[]⟩,⟨e2,[],[],[]⟩,0⟩ (aA e1 () ()).toList () (aA e2 () ()).toList () :=
 ⟨zF _ _,iG _ _ _ _,iG _ _ _ _,Or.inl ⟨rfl,rfl⟩,Or.inl ⟨rfl,rfl⟩,Nat.zero_le _,Nat.zero_le _,fun g hg=>(by cases hg),by simp,zD _⟩
theorem rv(m1 a1 g1:Int)(p1 c1 d1:Bool)(m2 a2 g2:Int)(p2 c2 d2:Bool){x:Option Addr}{y:Nat}{L:List Int}(st:Bool)(w:World)(hl:L.length<=1048576)(hL:HoldsI w (x,L.length,y) L)(tb:True):Calls prog 7 #[.agg #[m1,a1,g1,p1,c1,d1],.agg #[m2,a2,g2,p2,c2,d2],(x,L.length,y),st] w fun e w'=>AnP false (eC m1 a1 g1 p1 c1 d1 m2 a2 g2 p2 c2 d2 L st) w e w':=by
 have C1:=aa fun W=>dO m1 a1 g1 p1 c1 d1 W
 have C2:=aa fun W=>dO m2 a2 g2 p2 c2 d2 W
 obtain⟨A,eA⟩ := ex w.heap.size;have hXw:w.heap.size<=A+1+1:=by omega
 have H0:Hid (Mr w A #[m1,a1,g1,p1,c1,d1] #[m2,a2,g2,p2,c2,d2] (((w.alloc (.cells #[m1,a1,g1,p1,c1,d1] 24)).alloc (.cells #[m2,a2,g2,p2,c2,d2] 24)).alloc (.cells cm 34))):=aa (by rw[<- eA];exact qX w _ _);have HR:Hid (∀q,Mr w A #[m1,a1,g1,p1,c1,d1] #[m2,a2,g2,p2,c2,d2] q->q.cell? (A,0)=some (.int .i64 m1)/\q.cell? (A,1)=some (.int .i64 a1)/\q.cell? (A,2)=some (.int .i64 g1)/\q.cell? (A,3)=some (.bool p1)/\q.cell? (A,4)=some (.bool c1)/\q.cell? (A,5)=some (.bool d1)/\q.cell? (A+1,0)=some (.int .i64 m2)/\q.cell? (A+1,1)=some (.int .i64 a2)/\q.cell? (A+1,2)=some (.int .i64 g2)/\q.cell? (A+1,3)=some (.bool p2)/\q.cell? (A+1,4)=some (.bool c2)/\q.cell? (A+1,5)=some (d2:V)):=aa fun q h=>⟨by rw[cr h.a];rfl,by rw[cr h.a];rfl,by rw[cr h.a];rfl,by rw[cr h.a];rfl,by rw[cr h.a];rfl,by rw[cr h.a];rfl,by rw[cr h.b];rfl,by rw[cr h.b];rfl,by rw[cr h.b];rfl,by rw[cr h.b];rfl,by rw[cr h.b];rfl,by rw[cr h.b];rfl⟩
 have HL:=aa hL;have HTB:=aa tb;clear hL tb;obtain⟨n,hn⟩ := ex L.length;rw[hn]at HL hl|-;obtain⟨o,ho⟩ := ex (eC m1 a1 g1 p1 c1 d1 m2 a2 g2 p2 c2 d2 L st);rw[ho];unfold eC at ho;rw[hn]at ho;have HO:=aa ho.symm;clear ho;go_enter func7,ntmps7
 go_upto_region 1 with fail
 refine bb (fun z=>Mr w A #[m1,a1,g1,p1,c1,d1] #[m2,a2,g2,p2,c2,d2] z) ?_ ?_
 .rw [<- eA]at H0|-;exact uh H0
 clear H0;rintro z hz;have HZ:=aa hz;clear hz;by_cases h4:400<n
 .have d0:(400:Int)<(n:Int):=by omega
  go_wp2_with (first
   | (refine wpList_buildTo rfl 34 _ rfl (some 17) rfl (gU 2) (by as_aux_lemma=>kernel_rfl) ?_)
   | (refine wpList_store_rowTo rfl 34 (.tmp 8) (.tmp 17) rfl rfl (A+1+1) (gU 2) rfl rfl 34 cm HZ.out.z bf rfl (fR _) ?_))
  refine bodyPost_ret (v:=.agg (gU 2)) (by simp[results,results7,asAddr,Act.put,eI (setRow_heap z (A+1+1) _ (gU 2) _ _ HZ.out.z)]) rfl ?_;rw[show o=⟨kL,kL,2⟩by rw[uh HO,if_pos h4]];exact AnP.err 2 (am HZ.out.l hXw _)
 have d0:¬((400:Int)<(n:Int)):=by omega
 obtain⟨k0,k1,k2,k3,k4,k5,_⟩:=uh HR _ HZ.out;go_wp2_with fail
 refine(uh C1 _).mono ?_;rintro r z1⟨rfl,hb1⟩;have H1:=aa (HZ.out.step hb1);clear hb1 HZ C1 k0 k1 k2 k3 k4 k5;cases hq1:aK m1 a1 g1
 .have n1:True:=trivial;clear n1
  go_wp2_with (first
   | (refine wpList_buildTo rfl 34 _ rfl (some 26) rfl (gU 1) (by as_aux_lemma=>kernel_rfl) ?_)
   | (refine wpList_store_rowTo rfl 34 (.tmp 8) (.tmp 26) rfl rfl (A+1+1) (gU 1) rfl rfl 34 cm H1.out.z bf rfl (fR _) ?_))
  refine bodyPost_ret (v:=.agg (gU 1)) (by simp[results,results7,asAddr,Act.put,eI (setRow_heap z1 (A+1+1) _ (gU 1) _ _ H1.out.z)]) rfl ?_;rw[show o=⟨kL,kL,1⟩by rw[uh HO,if_neg h4,if_neg (fun h=>by rw[hq1]at h;cases h.1)]];exact AnP.err 1 (am H1.out.l hXw _)
 obtain⟨_,_,_,_,_,_,k0,k1,k2,k3,k4,k5⟩:=uh HR _ H1.out;go_wp2_with fail
 refine(uh C2 _).mono ?_;rintro r z2⟨rfl,hb2⟩;have H2:=aa (H1.out.step hb2);clear hb2 H1 C2 k0 k1 k2 k3 k4 k5;cases hq2:aK m2 a2 g2
 .have n1:True:=trivial;clear n1
  go_wp2_with (first
   | (refine wpList_buildTo rfl 34 _ rfl (some 26) rfl (gU 1) (by as_aux_lemma=>kernel_rfl) ?_)
   | (refine wpList_store_rowTo rfl 34 (.tmp 8) (.tmp 26) rfl rfl (A+1+1) (gU 1) rfl rfl 34 cm H2.out.z bf rfl (fR _) ?_))
  refine bodyPost_ret (v:=.agg (gU 1)) (by simp[results,results7,asAddr,Act.put,eI (setRow_heap z2 (A+1+1) _ (gU 1) _ _ H2.out.z)]) rfl ?_;rw[show o=⟨kL,kL,1⟩by rw[uh HO,if_neg h4,if_neg (fun h=>by rw[hq2]at h;cases h.2)]];exact AnP.err 1 (am H2.out.l hXw _)
 obtain⟨u,hu⟩ := ex (jX m1 a1 g1 p1 c1 d1 m2 a2 g2 p2 c2 d2 L st);have HOU:Hid (o=⟨u.a,u.b,0⟩):=aa (by rw[uh HO,if_neg h4,if_pos ⟨hq1,hq2⟩,hu]);clear HO hq1 hq2;have CN1:=aa fun W=>jl m1 a1 g1 p1 c1 d1 W
 have CN2:=aa fun W=>jl m2 a2 g2 p2 c2 d2 W
 have hSA:qU m1 a1 g1 p1 c1 d1=⟨eP m1 a1 g1 p1 c1 d1,[],[],[]⟩:=rfl;have hSB:qU m2 a2 g2 p2 c2 d2=⟨eP m2 a2 g2 p2 c2 d2,[],[],[]⟩:=rfl;unfold jX at hu;have HU:=aa hu;clear hu;generalize eP m1 a1 g1 p1 c1 d1=e1 at*;generalize eP m2 a2 g2 p2 c2 d2=e2 at*;generalize qU m1 a1 g1 p1 c1 d1=sa at*;generalize qU m2 a2 g2 p2 c2 d2=sb at*;have HSA:=aa (zA hSA hSB);clear HTB hSA hSB;go_upto_region 5 with fail
 have hS0:=uh HR z2.drew (H2.out.step (zC _ _).drew);refine wp_region_held_drew (S:=fun q=>q.cell? (A,0)=some (.int .i64 m1)/\q.cell? (A,1)=some (.int .i64 a1)/\q.cell? (A,2)=some (.int .i64 g1)/\q.cell? (A,3)=some (.bool p1)/\q.cell? (A,4)=some (.bool c1)/\q.cell? (A,5)=some (.bool d1)/\q.cell? (A+1,0)=some (.int .i64 m2)/\q.cell? (A+1,1)=some (.int .i64 a2)/\q.cell? (A+1,2)=some (.int .i64 g2)/\q.cell? (A+1,3)=some (.bool p2)/\q.cell? (A+1,4)=some (.bool c2)/\q.cell? (A+1,5)=some (d2:V)) (by kernel_rfl) hS0 (fun hHeld=>?_);clear hHeld;refine tt 0 2 ?_;refine r3 1 fun K hK=>?_
 go_simp;refine(uh CN1 z2.drew).mono ?_;rintro e y1⟨rfl,hy1⟩;have HY1:=aa ((H2.out.step (zC _ _).drew).step hy1);clear hy1 hS0;refine ro hK (uh HR y1 HY1.out) fun hS1=>?_
 clear hK K;refine r3 3 fun K hK=>?_
 go_simp;refine(uh CN2 y1).mono ?_;rintro e y2⟨rfl,hy2⟩;have HY2:=aa (HY1.out.step hy2);clear hy2 HY1 hS1;refine ro hK (uh HR y2 HY2.out) fun hS2=>?_
 clear hK K;refine t4 4 (.agg ((aA e1 () ()).toList++(aA e2 () ()).toList++[Value.slice none 0 0]++[Value.slice none 0 0]++[Value.int .i64 0]).toArray) rfl (bT (by rfl) _ _ rfl _ (by kernel_rfl)) ?_;try simp only[Act.put,sA,sZ,sS,gA,gZ,gS]
 have HM3:=aa (vw y2 e1 e2);have hlA:((aA e1 () ()).toList++(aA e2 () ()).toList++[Value.slice none 0 0]++[Value.slice none 0 0]++[Value.int .i64 0]).toArray.size=63:=by kernel_rfl
 generalize ((aA e1 () ()).toList++(aA e2 () ()).toList++[Value.slice none 0 0]++[Value.slice none 0 0]++[Value.int .i64 0]).toArray=BIG at HM3 hlA|-;refine r3 5 fun K hK=>?_
 go_simp;have HY3:=aa (HY2.out.step ((zC y2 y2).alloc (zD _) (.cells BIG 70)));have hbA:A+1+1<y2.heap.size:=(ge.1 HY2.out.z).1;have hbb:w.heap.size<=y2.heap.size:=HY2.out.l.size;refine ro hK (uh HR _ HY3.out) fun _=>?_
 clear hK K hS2;refine t2 6 ?_;refine dn ?_ _;clear hlA HY2 H2 CN1 CN2 HR;rw[<- HSA.out.1,<- HSA.out.2]at HM3;generalize y2.alloc (.cells BIG 70)=z3 at HM3 HY3|-;generalize y2.heap.size=B at HM3 hbA hbb|-;have H5:Hid (ML B B ⟨sa,sb,0⟩ z3/\Below B z3 z3):=aa ⟨⟨_,_,_,_,uh HM3⟩,zC _ _⟩;clear HM3 HSA;have HFI:Hid (∀zf,ML B B u zf->Below B z3 zf->∃(e1 e2:En)(v1 v2 v3 v4:Value),zf.rangeAt B 0 (aA e1 v1 v2).toList/\zf.rangeAt B 30 (aA e2 v3 v4).toList/\zf.heap[A+1+1]?=some (.cells cm 34)/\B≠A+1+1/\(cV (aA e1 v1 v2).toList (aA e2 v3 v4).toList 0).toArray.all (·.oneCell')=true/\(ye false w (zf.drew.setRow (A+1+1) (cV (aA e1 v1 v2).toList (aA e2 v3 v4).toList 0).toArray) ⟨u.a,u.b,0⟩ (cV (aA e1 v1 v2).toList (aA e2 v3 v4).toList 0)/\Below w w (zf.drew.setRow (A+1+1) (cV (aA e1 v1 v2).toList (aA e2 v3 v4).toList 0).toArray))):=aa fun zf ⟨ca,va,cb,vb,hM⟩ hb=>by
  have hz:=(hb.block (A+1+1) hbA).trans HY3.out.z;have rA:=hM.cells.1;have rB:=hM.cells.2.1;have eA:=hM.ea;have eB:=hM.eb;obtain⟨x1,x2,y1,y2,rfl,o⟩:=hM.ea;obtain⟨x3,x4,y3,y4,rfl,o'⟩:=hM.eb;have ko:∀(cs:Array Value)(g:Nat)(cur:Array Value),zf.heap[g]?=some (.cells cur 105)->(zf.drew.setRow (A+1+1) cs).heap[g]?=zf.heap[g]?:=fun cs g cur hg=>aV zf.drew (A+1+1) g cs fun e=>by
   rw[e,hz]at hg;injection hg with hg;injection hg with _ hg;exact absurd hg (by decide)
  have em:∀(cs:Array Value)(c:List Value)(s:Sd),EnM B zf c s->EnM w (zf.drew.setRow (A+1+1) cs) c s:=fun cs c s ⟨q1,q2,q3,q4,q5,q6,q7,q8⟩=>(show EnM w zf c s from⟨q1,q2,q3,q4,q5,dV q6 hbb,dV q7 hbb,q8⟩).keep (ko cs)
  exact⟨_,_,_,_,_,_,rA,rB,hz,by omega,Bm _ _ _ _ _ _ _ _ _ _ _ _ _ _ _,⟨_,_,rfl,em _ _ _ eA,em _ _ _ eB,fun h=>by cases h⟩,am ((HY3.out.l.trans (hb.mono hbb)).trans ((zC _ _).drew)) (by omega) _⟩
 obtain⟨ca6,va6,cb6,vb6,hM6⟩:=H5.out.1;have rg6:=hM6.cells.1;have hl6:=hM6.ea.len;have CD6:=aa (yh hM6.ea ⟨#[79,112,101,110]⟩ 0);have CT6:=aa fun q cl vs (hA:AnE z3 q (kC sa.e sa.F1 sa.F2 ⟨#[79,112,101,110]⟩ 0) cl vs) (hfv:∀g,vs.ownBlock=some g->z3.heap.size<=g) (hbq:Below z3 z3 q)=>kI hM6 (lW _ _ _ _ _) hA hfv hbq
 have HL6:=aa fun(W':World) (v':Value) (fr:Fr B va6 v' z3 W')=>H5.out.2.trans (fr.low hM6.bB (fun g hg=>(hM6.wa.ownB g hg).2.1) hM6.bs)
 clear hM6 H5;go_wp2_with (refine wpList_load_mid rfl 32 (.tmp 36) rfl B 0 rfl ca6 _ rg6 underlying32 rfl (by rw[hl6];exact aL) ?_)
 refine CD6.out.mono ?_;rintro r q6⟨cl,vs,rfl,hA,hfv,hbq⟩;have HQ6:=aa (uh CT6 q6 cl vs hA hfv hbq);clear CD6 CT6 hA hfv hbq rg6;go_wp2_with fail
 refine HQ6.out.mono ?_;rintro r z4⟨rfl,c9,v9,hs,hfr⟩;have H6:Hid (ML B B ⟨oe sa lV 0,sb,0⟩ z4/\Below B z3 z4):=aa ⟨⟨_,_,_,_,hs⟩,uh HL6 _ _ hfr⟩;clear HQ6 HL6 hs hfr;obtain⟨sa2,hsa2⟩:∃s,oe sa lV 0=s:=⟨_,rfl⟩;rw[hsa2]at H6;have HA2:=aa hsa2;clear hsa2;obtain⟨ca7,va7,cb7,vb7,hM7⟩:=H6.out.1;have rg7:=hM7.cells.1;have hl7:=hM7.ea.len;have CD7:=aa (yh hM7.ea ⟨#[85,112]⟩ 0);have CT7:=aa fun q cl vs (hA:AnE z4 q (kC sa2.e sa2.F1 sa2.F2 ⟨#[85,112]⟩ 0) cl vs) (hfv:∀g,vs.ownBlock=some g->z4.heap.size<=g) (hbq:Below z4 z4 q)=>kI hM7 (lW _ _ _ _ _) hA hfv hbq
 have HL7:=aa fun(W':World) (v':Value) (fr:Fr B va7 v' z4 W')=>H6.out.2.trans (fr.low hM7.bB (fun g hg=>(hM7.wa.ownB g hg).2.1) hM7.bs)
 clear hM7 H6;go_wp2_with (refine wpList_load_mid rfl 32 (.tmp 43) rfl B 0 rfl ca7 _ rg7 underlying32 rfl (by rw[hl7];exact aL) ?_)
 refine CD7.out.mono ?_;rintro r q7⟨cl,vs,rfl,hA,hfv,hbq⟩;have HQ7:=aa (uh CT7 q7 cl vs hA hfv hbq);clear CD7 CT7 hA hfv hbq rg7;go_wp2_with fail
 refine HQ7.out.mono ?_;rintro r z5⟨rfl,c9,v9,hs,hfr⟩;have H7:Hid (ML B B ⟨oe sa2 xL 0,sb,0⟩ z5/\Below B z3 z5):=aa ⟨⟨_,_,_,_,hs⟩,uh HL7 _ _ hfr⟩;clear HQ7 HL7 hs hfr;obtain⟨sa3,hsa3⟩:∃s,oe sa2 xL 0=s:=⟨_,rfl⟩;rw[hsa3]at H7;have HA3:Hid (eo sa=sa3):=aa (by rw[<- hsa3,<- uh HA2];rfl);clear hsa3 HA2;obtain⟨ca8,va8,cb8,vb8,hM8⟩:=H7.out.1;have j_:=hM8.cells.2.1;have hl8:=hM8.eb.len;have CD8:=aa (yh hM8.eb ⟨#[79,112,101,110]⟩ 0);have CT8:=aa fun q cl vs (hA:AnE z5 q (kC sb.e sb.F1 sb.F2 ⟨#[79,112,101,110]⟩ 0) cl vs) (hfv:∀g,vs.ownBlock=some g->z5.heap.size<=g) (hbq:Below z5 z5 q)=>kJ hM8 (lW _ _ _ _ _) hA hfv hbq
 have HL8:=aa fun(W':World) (v':Value) (fr:Fr B vb8 v' z5 W')=>H7.out.2.trans (fr.low hM8.bB (fun g hg=>(hM8.wb.ownB g hg).2.1) hM8.bs)
 clear hM8 H7;go_wp2_with (refine wpList_load_mid rfl 32 (.tmp 50) rfl B 30 rfl cb8 _ j_ underlying32 rfl (by rw[hl8];exact aL) ?_)
 refine CD8.out.mono ?_;rintro r q8⟨cl,vs,rfl,hA,hfv,hbq⟩;have HQ8:=aa (uh CT8 q8 cl vs hA hfv hbq);clear CD8 CT8 hA hfv hbq j_;go_wp2_with fail
 refine HQ8.out.mono ?_;rintro r z6⟨rfl,c9,v9,hs,hfr⟩;have H8:Hid (ML B B ⟨sa3,oe sb lV 0,0⟩ z6/\Below B z3 z6):=aa ⟨⟨_,_,_,_,hs⟩,uh HL8 _ _ hfr⟩;clear HQ8 HL8 hs hfr;obtain⟨sb2,hsb2⟩:∃s,oe sb lV 0=s:=⟨_,rfl⟩;rw[hsb2]at H8;have HB2:=aa hsb2;clear hsb2;obtain⟨ca9,va9,cb9,vb9,hM9⟩:=H8.out.1;have rg9:=hM9.cells.2.1;have hl9:=hM9.eb.len;have CD9:=aa (yh hM9.eb ⟨#[85,112]⟩ 0);have CT9:=aa fun q cl vs (hA:AnE z6 q (kC sb2.e sb2.F1 sb2.F2 ⟨#[85,112]⟩ 0) cl vs) (hfv:∀g,vs.ownBlock=some g->z6.heap.size<=g) (hbq:Below z6 z6 q)=>kJ hM9 (lW _ _ _ _ _) hA hfv hbq
 have HL9:=aa fun(W':World) (v':Value) (fr:Fr B vb9 v' z6 W')=>H8.out.2.trans (fr.low hM9.bB (fun g hg=>(hM9.wb.ownB g hg).2.1) hM9.bs)
 clear hM9 H8;go_wp2_with (refine wpList_load_mid rfl 32 (.tmp 57) rfl B 30 rfl cb9 _ rg9 underlying32 rfl (by rw[hl9];exact aL) ?_)
 refine CD9.out.mono ?_;rintro r q9⟨cl,vs,rfl,hA,hfv,hbq⟩;have HQ9:=aa (uh CT9 q9 cl vs hA hfv hbq);clear CD9 CT9 hA hfv hbq rg9;go_wp2_with fail
 refine HQ9.out.mono ?_;rintro r z7⟨rfl,c9,v9,hs,hfr⟩;have H9:Hid (ML B B ⟨sa3,oe sb2 xL 0,0⟩ z7/\Below B z3 z7):=aa ⟨⟨_,_,_,_,hs⟩,uh HL9 _ _ hfr⟩;clear HQ9 HL9 hs hfr;obtain⟨sb3,hsb3⟩:∃s,oe sb2 xL 0=s:=⟨_,rfl⟩;rw[hsb3]at H9;have HB3:Hid (eo sb=sb3):=aa (by rw[<- hsb3,<- uh HB2];rfl);clear hsb3 HB2;rw[uh HA3,uh HB3]at HU;clear HA3 HB3;obtain⟨mm,hmm⟩:∃mm:Mw,(⟨sa3,sb3,0⟩:Mw)=mm:=⟨_,rfl⟩;have hm0:mm.now=0:=by rw[<- hmm]
 rw[hmm]at H9 HU;clear hmm;have HX:Hid (∀wr,Below B z3 wr->∀i (hi:i<L.length),∃g,x=some ⟨g,0,none⟩/\wr.cell? ⟨g,i,none⟩=some (.int .i64 L[i])):=aa fun wr hb i hi=>by
  rcases uh HL with⟨ad,cp,e,e2⟩|⟨g,cp,cur,e,q1,_,q3⟩
  .rw [e2]at hi;simp at hi
  .injection e with e _ _;refine⟨g,e,?_⟩;have hg:=(ge.1 q1).1;rw[cr ((hb.block g (by omega)).trans ((HY3.out.l.block g hg).trans q1)),q3 i hi];exact dB _ _ _ (List.getElem?_eq_getElem hi)
 clear HY3;go_wp2_with fail
 go_loopw [10] (fun p wr=>∃(i:Nat),i<=n/\p=.int .i64 i/\ML B B ((L.take i).foldl fQ mm) wr/\Below B z3 wr) (fun p _=>n-(intOf p).toNat)
 case atStart=>exact⟨0,Nat.zero_le _,rfl,uh H9⟩
 case round =>
  obtain⟨i,hi,rfl,hML,hBi⟩:=hrel;have HI:=aa (zA hML hBi);clear hML hBi H9;by_cases hlt:i<n
  .have d1:(i:Int)<(n:Int):=by omega
   have hiL:i<L.length:=by omega
   have HST:Hid ((L.take (i+1)).foldl fQ mm=fQ ((L.take i).foldl fQ mm) L[i]):=aa (by
    rw[<- List.take_append_getElem hiL,List.foldl_append];rfl)
   have hnw:=gQ (L.take i) mm;have hli:(L.take i).length=i:=by rw[List.length_take];omega
   rw[hli]at hnw;obtain⟨g,ex,hgc⟩:=uh HX wr HI.out.2 i hiL;subst ex;have CE:=aa (yi HI.out.1 (by omega) (by omega) L[i]);generalize L[i]=e at*;clear hnw hli HX HFI HU;go_wp2_with fail
   refine CE.out.mono ?_;rintro r W9⟨rfl,hE,hbE⟩;have HI2:Hid (ML B B ((L.take (i+1)).foldl fQ mm) W9/\Below B z3 W9):=aa ⟨by rw[uh HST];exact hE,HI.out.2.trans hbE⟩;clear hE hbE CE HI HST hgc;go_wp2_with fail
   go_roundw
   case rel=>exact⟨i+1,by omega,by go_num,uh HI2⟩
   case measure=>simp[intOf];omega
  .have ei:i=n:=by omega
   subst ei;have d1:¬((i:Int)<(i:Int)):=by omega
   have hnw:=gQ L mm;rw[show L.take i=L by rw[<- hn];exact List.take_length]at HI;rw[hn]at hnw;obtain⟨u0,hu0⟩ := ex (L.foldl fQ mm);rw[hu0]at HI hnw HU;have hu00:0<=u0.now:=by omega
   have hu01:u0.now<=100000:=by omega
   clear hnw HX hu0;go_wp2_with fail
   generalize wr=z8 at*;go_loopw [11] (fun p wr=>∃(k:Nat),k<=100/\p=.int .i64 k/\(st=false->k=0)/\ML B B (au cT k u0) wr/\Below B z8 wr) (fun p _=>100-(intOf p).toNat)
   case atStart=>exact⟨0,Nat.zero_le _,rfl,fun _=>rfl,HI.out.1,zC _ _⟩
   case round =>
    obtain⟨k,hk,rfl,hkst,hML,hBk⟩:=hrel;have HK:=aa (zA hML hBk);clear hML hBk;by_cases hgo:k<100/\st=true
    .obtain ⟨hk1,hst⟩:=hgo;subst hst;have d2:(k:Int)<100:=by omega
     have hnw:=ij u0 k;have HST:Hid (au cT (k+1) u0=cT (au cT k u0)):=aa rfl;obtain⟨mk,hmk⟩ := ex (au cT k u0);rw[hmk]at HK HST hnw;have m0k:0<=mk.now:=by omega
     have m1k:mk.now<=1000000:=by omega
     clear hnw hkst hmk HI HFI HU;obtain⟨ad12,cp12,hv12⟩ : ∃ad cp,wr.cell? ⟨B,60,none⟩=some (.slice ad mk.a.ln.length cp):=by
      obtain⟨_,_,_,_,hM⟩:=HK.out.1;obtain⟨ad,cp,e⟩:=hM.ha.form;exact⟨ad,cp,by rw[<- e];exact hM.cells.2.2.1⟩
     have HC12:=aa (fG mk);obtain⟨n12,hn12⟩ : ∃k,mk.a.ln.length=k:=⟨_,rfl⟩;have hb12:n12<=40:=by
      obtain⟨_,_,_,_,hM⟩:=HK.out.1;have:=hM.la
      omega
     rw[hn12]at hv12 HC12;have HN12:=aa hn12;clear hn12;go_wp2_with fail
     clear hv12;go_loopw [12] (fun p wr=>∃(j:Nat),j<=n12/\p=.int .i64 (((n12:Nat):Int)-(j:Int))/\ML B B (au aI j mk) wr/\Below B z8 wr) (fun p _=>(intOf p).toNat)
     case atStart=>exact⟨0,Nat.zero_le _,by go_num,uh HK⟩
     case round =>
      obtain⟨j12,hj12,rfl,hML,hBj⟩:=hrel;have HJ12:=aa (zA hML hBj);clear hML hBj HK;by_cases hjl:j12<n12
      .have dj:(0:Int)<(n12:Int)-(j12:Int):=by omega
       have hnj:=(uh HC12 j12 (by omega)).2;have CE:=aa (yi HJ12.out.1 (by rw[hnj];exact m0k) (by rw[hnj];exact m1k) 0);clear hnj;go_wp2_with fail
       refine CE.out.mono ?_;rintro r W9⟨rfl,hE,hbE⟩;have HJ2:Hid (ML B B (au aI (j12+1) mk) W9/\Below B z8 W9):=aa ⟨hE,HJ12.out.2.trans hbE⟩;clear hE hbE CE HJ12;go_wp2_with fail
       go_roundw
       case rel=>exact⟨j12+1,by omega,by go_num,uh HJ2⟩
       case measure=>simp[intOf];omega
      .obtain rfl:j12=n12:=by omega
       have dj:¬((0:Int)<(j12:Int)-(j12:Int)):=by omega
       have HNW12:=aa (uh HC12 j12 (zD _)).2;clear HC12 hjl hj12;have m02:0<=(au aI j12 mk).now:=by rw[uh HNW12];exact m0k
       have m12:(au aI j12 mk).now<=1000000:=by rw[uh HNW12];exact m1k
       obtain⟨ad13,cp13,hv13⟩:∃ad cp,wr.cell? (B,61)=some (.slice ad (au aI j12 mk).b.ln.length cp):=by
        obtain⟨_,_,_,_,hM⟩:=HJ12.out.1;obtain⟨ad,cp,e⟩:=hM.hb.form;exact⟨ad,cp,by rw[<- e];exact hM.cells.2.2.2.1⟩
       have HC13:=aa (fH (au aI j12 mk));obtain⟨n13,hn13⟩:∃k,(au aI j12 mk).b.ln.length=k:=⟨_,rfl⟩;have hb13:n13<=40:=by
        obtain⟨_,_,_,_,hM⟩:=HJ12.out.1;have:=hM.lb
        omega
       rw[hn13]at hv13 HC13;have HN13:=aa hn13;clear hn13;go_wp2_with fail
       clear hv13;go_loopw [13] (fun p wr=>∃(j:Nat),j<=n13/\p=.int .i64 (((n13:Nat):Int)-(j:Int))/\ML B B (au aN j (au aI j12 mk)) wr/\Below B z8 wr) (fun p _=>(intOf p).toNat)
       case atStart=>exact⟨0,Nat.zero_le _,by go_num,uh HJ12⟩
       case round =>
        obtain⟨j13,hj13,rfl,hML,hBj⟩:=hrel;have HJ13:=aa (zA hML hBj);clear hML hBj HJ12;by_cases hjl:j13<n13
        .have dj:(0:Int)<(n13:Int)-(j13:Int):=by omega
         have hnj:=(uh HC13 j13 (by omega)).2;have CE:=aa (yi HJ13.out.1 (by rw[hnj];exact m02) (by rw[hnj];exact m12) 3);clear hnj;go_wp2_with fail
         refine CE.out.mono ?_;rintro r W9⟨rfl,hE,hbE⟩;have HJ2:Hid (ML B B (au aN (j13+1) (au aI j12 mk)) W9/\Below B z8 W9):=aa ⟨hE,HJ13.out.2.trans hbE⟩;clear hE hbE CE HJ13;go_wp2_with fail
         go_roundw
         case rel=>exact⟨j13+1,by omega,by go_num,uh HJ2⟩
         case measure=>simp[intOf];omega
        .obtain rfl:j13=n13:=by omega
         have dj:¬((0:Int)<(j13:Int)-(j13:Int)):=by omega
         have HNW13:=aa (uh HC13 j13 (zD _)).2;clear HC13 hjl hj13;have CG:=aa (yi HJ13.out.1 (by rw[uh HNW13];exact m02) (by rw[uh HNW13];exact m12) 6);have HST2:Hid (au cT (k+1) u0=fQ (au aN j13 (au aI j12 mk)) 6):=aa (by
          rw[uh HST];unfold cT;dsimp only;rw[uh HN12,uh HN13];rfl)
         go_wp2_with fail
         refine CG.out.mono ?_;rintro r W7⟨rfl,hE,hbE⟩;have HK2:Hid (ML B B (au cT (k+1) u0) W7/\Below B z8 W7):=aa ⟨by rw[uh HST2];exact hE,HJ13.out.2.trans hbE⟩;clear hE hbE CG HJ13 HST HST2 HN12 HN13 HNW12 HNW13 m0k m1k m02 m12;go_wp2_with fail
         go_roundw
         case rel=>exact⟨k+1,by omega,by go_num,(fun h=>by cases h),uh HK2⟩
         case measure=>simp[intOf];omega
    .cases st
     .obtain rfl:k=0:=hkst rfl;have HF:=aa (uh HFI wr (by
       rw[<- uh HU];exact HK.out.1) (HI.out.2.trans HK.out.2))
      clear HK HI HFI HU hkst hgo;go_upto_region 26 with fail
      obtain⟨e1,e2,v1,v2,v3,v4,r1,r2,rz,hne,hall,hend⟩:=uh HF;have HE:=aa hend;clear HF hend;have hS0:wr.drew.rangeAt B 0 (aA e1 v1 v2).toList/\wr.drew.rangeAt B 30 (aA e2 v3 v4).toList:=⟨r1,r2⟩;have rzd:wr.drew.heap[A+1+1]?=some (.cells cm 34):=rz;refine wp_region_held_drew (S:=fun z=>z.rangeAt B 0 (aA e1 v1 v2).toList/\z.rangeAt B 30 (aA e2 v3 v4).toList) (by kernel_rfl) hS0 (fun hHeld=>?_);clear hHeld r1 r2 rz;generalize wr.drew=yf at HE hS0 rzd|-;refine tt 0 1 ?_;refine t2 2 ?_;refine t4 3 (.agg ((aA e1 v1 v2).toList).toArray) rfl (yieldsIf_load_mid (by rfl) 32 (.tmp 106) rfl B 0 rfl ((aA e1 v1 v2).toList) _ (fun _ h=>h.1) underlying32 rfl aL) ?_;try simp only[Act.put,sA,sZ,sS,gA,gZ,gS]
      refine tt 4 5 ?_;refine t2 6 ?_;refine t4 7 (.agg ((aA e2 v3 v4).toList).toArray) rfl (yieldsIf_load_mid (by rfl) 32 (.tmp 110) rfl B 30 rfl ((aA e2 v3 v4).toList) _ (fun _ h=>h.2) underlying32 rfl aL) ?_;try simp only[Act.put,sA,sZ,sS,gA,gZ,gS]
      refine t4 8 (.agg (cV (aA e1 v1 v2).toList (aA e2 v3 v4).toList 0).toArray) rfl (bT (by rfl) _ _ rfl _ (by kernel_rfl)) ?_;try simp only[Act.put,sA,sZ,sS,gA,gZ,gS]
      have hsz:(cV (aA e1 v1 v2).toList (aA e2 v3 v4).toList 0).toArray.size=61:=gN _ _ _ _ _ _ _;have hS2:(yf.setRow (A+1+1) (cV (aA e1 v1 v2).toList (aA e2 v3 v4).toList 0).toArray).rangeAt B 0 (aA e1 v1 v2).toList/\(yf.setRow (A+1+1) (cV (aA e1 v1 v2).toList (aA e2 v3 v4).toList 0).toArray).rangeAt B 30 (aA e2 v3 v4).toList:=by
       have hB:=aV yf (A+1+1) B (cV (aA e1 v1 v2).toList (aA e2 v3 v4).toList 0).toArray hne;refine⟨fun j v hj=>?_,fun j v hj=>?_⟩
       .have:=hS0.1 j v hj
        unfold World.cell? at this|-;rw[hB];exact this
       .have:=hS0.2 j v hj
        unfold World.cell? at this|-;rw[hB];exact this
      generalize (cV (aA e1 v1 v2).toList (aA e2 v3 v4).toList 0)=cs9 at*;refine r3 9 fun K hK=>?_
      rw[if_pos (by rfl)];refine wp_store_row 34 (.tmp 8) (.tmp 112) rfl (A+1+1) cs9.toArray rfl rfl 34 cm rzd (by rw[hsz];exact bf) (by rw[hsz];rfl) hall ?_;refine ro hK hS2 fun _=>?_
      clear hK K hS0 hS2;refine dn ?_ _;go_wp2_with fail
      refine bodyPost_ret (v:=.agg cs9.toArray) (by simp[results,results7,asAddr,eI (setRow_heap yf (A+1+1) _ cs9.toArray _ _ rzd) hsz]) rfl ?_;rw[uh HOU];exact⟨_,rfl,uh HE⟩
     .obtain rfl:k=100:=by
       have:¬k<100:=fun h=>hgo ⟨h,rfl⟩
       omega
      have HF:=aa (uh HFI wr (by
       rw[<- uh HU];exact HK.out.1) (HI.out.2.trans HK.out.2))
      clear HK HI HFI HU hkst hgo;go_upto_region 26 with fail
      obtain⟨e1,e2,v1,v2,v3,v4,r1,r2,rz,hne,hall,hend⟩:=uh HF;have HE:=aa hend;clear HF hend;have hS0:wr.drew.rangeAt B 0 (aA e1 v1 v2).toList/\wr.drew.rangeAt B 30 (aA e2 v3 v4).toList:=⟨r1,r2⟩;have rzd:wr.drew.heap[A+1+1]?=some (.cells cm 34):=rz;refine wp_region_held_drew (S:=fun z=>z.rangeAt B 0 (aA e1 v1 v2).toList/\z.rangeAt B 30 (aA e2 v3 v4).toList) (by kernel_rfl) hS0 (fun hHeld=>?_);clear hHeld r1 r2 rz;generalize wr.drew=yf at HE hS0 rzd|-;refine tt 0 1 ?_;refine t2 2 ?_;refine t4 3 (.agg ((aA e1 v1 v2).toList).toArray) rfl (yieldsIf_load_mid (by rfl) 32 (.tmp 106) rfl B 0 rfl ((aA e1 v1 v2).toList) _ (fun _ h=>h.1) underlying32 rfl aL) ?_;try simp only[Act.put,sA,sZ,sS,gA,gZ,gS]
      refine tt 4 5 ?_;refine t2 6 ?_;refine t4 7 (.agg ((aA e2 v3 v4).toList).toArray) rfl (yieldsIf_load_mid (by rfl) 32 (.tmp 110) rfl B 30 rfl ((aA e2 v3 v4).toList) _ (fun _ h=>h.2) underlying32 rfl aL) ?_;try simp only[Act.put,sA,sZ,sS,gA,gZ,gS]
      refine t4 8 (.agg (cV (aA e1 v1 v2).toList (aA e2 v3 v4).toList 0).toArray) rfl (bT (by rfl) _ _ rfl _ (by kernel_rfl)) ?_;try simp only[Act.put,sA,sZ,sS,gA,gZ,gS]
      have hsz:(cV (aA e1 v1 v2).toList (aA e2 v3 v4).toList 0).toArray.size=61:=gN _ _ _ _ _ _ _;have hS2:(yf.setRow (A+1+1) (cV (aA e1 v1 v2).toList (aA e2 v3 v4).toList 0).toArray).rangeAt B 0 (aA e1 v1 v2).toList/\(yf.setRow (A+1+1) (cV (aA e1 v1 v2).toList (aA e2 v3 v4).toList 0).toArray).rangeAt B 30 (aA e2 v3 v4).toList:=by
       have hB:=aV yf (A+1+1) B (cV (aA e1 v1 v2).toList (aA e2 v3 v4).toList 0).toArray hne;refine⟨fun j v hj=>?_,fun j v hj=>?_⟩
       .have:=hS0.1 j v hj
        unfold World.cell? at this|-;rw[hB];exact this
       .have:=hS0.2 j v hj
        unfold World.cell? at this|-;rw[hB];exact this
      generalize (cV (aA e1 v1 v2).toList (aA e2 v3 v4).toList 0)=cs9 at*;refine r3 9 fun K hK=>?_
      rw[if_pos (by rfl)];refine wp_store_row 34 (.tmp 8) (.tmp 112) rfl (A+1+1) cs9.toArray rfl rfl 34 cm rzd (by rw[hsz];exact bf) (by rw[hsz];rfl) hall ?_;refine ro hK hS2 fun _=>?_
      clear hK K hS0 hS2;refine dn ?_ _;go_wp2_with fail
      refine bodyPost_ret (v:=.agg cs9.toArray) (by simp[results,results7,asAddr,eI (setRow_heap yf (A+1+1) _ cs9.toArray _ _ rzd) hsz]) rfl ?_;rw[uh HOU];exact⟨_,rfl,uh HE⟩
end Go.Proofs.YtjdgiimfpkideaaGreatDoor
