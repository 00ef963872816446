/- HrP HrQ HrR -/
import Derived.Test.YtjdgiimfpkideaaGreatDoorS27
set_option maxHeartbeats 8000000
set_option maxRecDepth 100000
set_option linter.unusedSimpArgs false
namespace Go.Proofs.YtjdgiimfpkideaaGreatDoor
open Go.RowKit Go.Proofs.Tryz
variable {w W w0 w1 q:World} {B E k:Nat} {x0 x1 v v1 v2 vs vt:Value} {T:TypeId} {c:Cx} {s:St} {e:En}
section
structure Rp(q:World)(N0 C:Nat)(m a g2:Int)(p c9 d:Bool)(z:World):Prop where
 b:Below q q z
 r:z.heap[N0]?=some (.cells #[(0:Int),()] 97)
 c:z.heap[C]?=some (.cells #[m,a,g2,p,c9,d] 24)
variable {q z z':World} {N0 C:Nat} {m a g2:Int} {p c9 d:Bool}
theorem Rp.step(h:Rp q N0 C m a g2 p c9 d z)(hb:Below z z z'):Rp q N0 C m a g2 p c9 d z' :=
 ⟨h.b.trans (hb.mono h.b.size),(hb.block _ (ge.1 h.r).1).trans h.r,(hb.block _ (ge.1 h.c).1).trans h.c⟩
theorem Rp.lt(h:Rp q N0 C m a g2 p c9 d z):N0<z.heap.size:=(ge.1 h.r).1
theorem Rp.setG{g3:Int}(h:Rp q N0 C m a g2 p c9 d z)(hC:q.heap.size<=C)(hn:N0≠C):Rp q N0 C m a g3 p c9 d (z.setCell (C,2) g3) :=
 ⟨h.b.setCell (p:=(C,2)) hC _,(zJ _ (C,2) _ _ hn).trans h.r,zH _ _ 2 _ _ _ h.c⟩
theorem vg(h:w.heap[B]?=some (.cells #[x0,x1] T)):w.cell? (B,0)=some x0/\w.cell? (B,1)=some x1 :=
 ⟨cv h,cv h⟩
structure RaP(q:World)(N0 C:Nat)(m a g2:Int)(p c9 d:Bool)(M:Nat)(code:Int)(v:Value)(R:List Op.Opt)(z:World):Prop where
 e:Rp q N0 C m a g2 p c9 d z
 m:z.heap[M]?=some (.cells #[code,v] 97)
 o:HoldsO z v R
 n:N0<M
theorem nZ{z0 z1:Value}(h:W.heap[E]?=some (.cells #[z0,z1] T))(x0 x1:Value):((W.setCell (E,0) x0).setCell (E,1) x1).heap[E]?=some (.cells #[x0,x1] T):=by
 have h1:=zH _ _ 0 _ _ x0 h;have h2:=zH _ _ 1 _ _ x1 h1;exact h2
theorem eU(hk:k≠E)(x0 x1:Value):((W.setCell ⟨E,0,none⟩ x0).setCell ⟨E,1,none⟩ x1).heap[k]?=W.heap[k]? :=
 (zJ _ ⟨E,1,none⟩ _ _ hk).trans (zJ _ ⟨E,0,none⟩ _ _ hk)
theorem Rp.put{M:Nat}{code:Int}{R:List Op.Opt}(h:Rp q N0 C m a g2 p c9 d z)(hM:z.heap[M]?=some (.cells #[.int .i64 0,.slice none 0 0] 97))(hw:q.heap.size<=M)(hn:N0<M)(ho:HoldsO z v R):RaP q N0 C m a g2 p c9 d M code v R ((z.setCell ⟨M,0,none⟩ (.int .i64 code)).setCell ⟨M,1,none⟩ v):=by
 refine⟨⟨(h.b.setCell (p:=⟨M,0,none⟩) hw _).setCell (p:=⟨M,1,none⟩) hw _,(eU (by omega) _ _).trans h.r,(eU (fun e=>?_) _ _).trans h.c⟩,nZ hM _ _,bS ho hM (by decide) fun k _ hk=>eU hk _ _,hn⟩;have h1:=h.c;rw[e,hM]at h1;injection h1 with h1;injection h1 with _ h1;exact absurd h1 (by decide)
theorem qE(h:Lay 129 w0 w1 B c s v1 v2 vs vt q)(v:Value)(L:List Op.Opt)(hr:Op.right L=true)(hL:HoldsO q v L):Calls prog 138 #[.pointer (some ⟨B,0,none⟩),v] q fun r q'=>∃v',r=.returned (.agg #[.int .i64 (dI s.e L).1,v'])/\HoldsO q' v' (dI s.e L).2/\Below q.heap.size q q':=by
 have hB:=h.lt;have HE:Hid (∀z,Below q.heap.size q z->z.cell? ⟨B,0,none⟩=some (.int .i64 s.e.m1)/\z.cell? ⟨B,1,none⟩=some (.int .i64 s.e.a1)/\z.cell? ⟨B,2,none⟩=some (.int .i64 s.e.g1)/\z.cell? ⟨B,3,none⟩=some (.bool s.e.p1)/\z.cell? ⟨B,4,none⟩=some (.bool s.e.c1)/\z.cell? ⟨B,5,none⟩=some (.bool s.e.d1)/\z.cell? ⟨B,8,none⟩=some (.int .i64 s.e.g2)/\z.cell? ⟨B,16,none⟩=some (.int .i64 s.e.fl)):=aa fun z hb=>by
  have hz:=h.step hb;exact⟨hz.cell (i:=0) rfl,hz.cell (i:=1) rfl,hz.cell (i:=2) rfl,hz.cell (i:=3) rfl,hz.cell (i:=4) rfl,hz.cell (i:=5) rfl,hz.cell (i:=8) rfl,hz.cell (i:=16) rfl⟩
 have hm:L.length<=maxLen:=by have:=Op.right_len hr;unfold maxLen;omega
 have CR:Hid (∀z,Below q q z->Calls prog 149 #[cN s.e.m1 s.e.a1 s.e.g2 s.e.p1 s.e.c1 s.e.d1,v] z fun e w'=>∃ad cp,e=.returned (.agg #[.int .i64 (ck s.e.m1 s.e.a1 s.e.g2 s.e.p1 s.e.c1 s.e.d1 L).1,.slice ad (ck s.e.m1 s.e.a1 s.e.g2 s.e.p1 s.e.c1 s.e.d1 L).2.length cp])/\w'.ownsRow z 105 2 (.slice ad (ck s.e.m1 s.e.a1 s.e.g2 s.e.p1 s.e.c1 s.e.d1 L).2.length cp) (ck s.e.m1 s.e.a1 s.e.g2 s.e.p1 s.e.c1 s.e.d1 L).2.length (aj (ck s.e.m1 s.e.a1 s.e.g2 s.e.p1 s.e.c1 s.e.d1 L).2)/\Below z z w'):=aa fun z hb=>mY s.e.m1 s.e.a1 s.e.g2 s.e.p1 s.e.c1 s.e.d1 L v z hm (hL.below hb rfl)
 have hR20:=lM s.e.m1 s.e.a1 s.e.g2 s.e.p1 s.e.c1 s.e.d1 L;have CK:Hid (∀z vo,Below q q z->HoldsO z vo (ck s.e.m1 s.e.a1 s.e.g2 s.e.p1 s.e.c1 s.e.d1 L).2->Calls prog 150 #[v,vo] z fun e w'=>∃v',e=.returned v'/\w'.ownsRow z 105 2 v' (gX L (ck s.e.m1 s.e.a1 s.e.g2 s.e.p1 s.e.c1 s.e.d1 L).2).length (aj (gX L (ck s.e.m1 s.e.a1 s.e.g2 s.e.p1 s.e.c1 s.e.d1 L).2))/\Below z z w'):=aa fun z vo hb ho=>qD v vo L _ z hr (by omega) (hL.below hb rfl) ho
 obtain⟨va,vc,rfl⟩:=hL.form;unfold dI;clear h hm hr hL;generalize s.e.m1=m at*;generalize s.e.a1=a at*;generalize s.e.g1=g1 at*;generalize s.e.p1=p at*;generalize s.e.c1=c9 at*;generalize s.e.d1=d at*;generalize s.e.g2=g2 at*;generalize s.e.fl=fl at*;generalize ck m a g2 p c9 d L=RR at*;obtain⟨code,R⟩:=RR;dsimp only at CR CK hR20|-;generalize gX L R=KR at*;unfold cN at CR;obtain⟨AN,hAN⟩:∃AN,(if code=3/\fl=3 then(4,KR)else(code,R))=AN:=⟨_,rfl⟩;rw[hAN];have HAN:=aa hAN;clear hAN;obtain⟨N0,hN0⟩ := ex q.heap.size;have hne1:¬(B=q.heap.size):=by omega
 have hne2:¬(q.heap.size=B):=by omega
 have hne3:¬(B=q.heap.size+1):=by omega
 have hne4:¬(q.heap.size+1=B):=by omega
 obtain⟨c0,c1,c2,c3,c4,c5,c8,c16⟩:=uh HE _ ((zC q q).alloc (zD _) (.cells #[(0:Int),()] 97));go_enter func138,ntmps138
 go_upto_region 2 with fail
 refine bb (Rp q N0 (N0+1) m a g1 p c9 d) ?_ ?_
 .obtain ⟨_,hA,hX,hb⟩:=br q (.cells #[(0:Int),()] 97) (.cells #[m,a,g1,p,c9,d] 24);rw[hN0]at hA hX;exact⟨hb,hA,hX⟩
 clear c0 c1 c2 c3 c4 c5 c8 c16;intro z0 hz0;have E0:=aa hz0;obtain⟨_,_,_,_,_,_,c8,_⟩:=uh HE _ hz0.b;have t2:z0.cell? (N0+1,2)=some (.int .i64 g1):=by rw[cr hz0.c];rfl
 have f2:=aX hz0.c 2;clear hz0;go_upto_region 3 with fail
 refine bb (Rp q N0 (N0+1) m a g2 p c9 d) (E0.out.setG (by omega) (by omega)) ?_;clear c8 t2 f2 E0;intro z1 hz1;have E1:=aa hz1;clear hz1;obtain⟨C,hC⟩ := ex (N0+1);rw[hC]at E1|-;clear hC;have SY:Hid (∀y9,Rp q N0 C m a g2 p c9 d y9->(y9.cell? (C,0)=some (.int .i64 m)/\y9.cell? (C,1)=some (.int .i64 a)/\y9.cell? (C,2)=some (.int .i64 g2)/\y9.cell? (C,3)=some (.bool p)/\y9.cell? (C,4)=some (.bool c9)/\y9.cell? (C,5)=some (d:V))):=aa fun y9 hz=>by
  have hc:=hz.c;exact⟨cv hc,cv hc,cv hc,cv hc,cv hc,cv hc⟩
 obtain⟨k0,k1,k2,k3,k4,k5⟩:=uh SY _ E1.out;go_wp2_with fail
 refine(uh CR _ E1.out.b).mono ?_;rintro e z2⟨ad,cp,rfl,ho2,hb2⟩;have E2:=aa (zA (E1.out.step hb2) (HoldsO.own ho2));clear ho2 hb2 k0 k1 k2 k3 k4 k5 E1 SY CR;go_upto_region 4 with fail
 refine bb (RaP q N0 C m a g2 p c9 d z2 code (ad,R.length,cp) R) ?_ ?_
 .have hbA:=(zC z2 z2).alloc (zD _) (.cells #[code,(ad,R.length,cp)] 97);exact⟨E2.out.1.step hbA,zF z2 _,E2.out.2.below hbA rfl,E2.out.1.lt⟩
 intro z4 hz4;have E4:=aa hz4;clear hz4 E2;generalize z2.heap.size=M at*;have hnM:=E4.out.n;obtain⟨r0,r1⟩:=vg E4.out.m;obtain⟨s0,s1⟩:=vg E4.out.e.r;have f0:=aX E4.out.e.r 0;have f1:=aX E4.out.e.r 1;obtain⟨_,_,_,_,_,_,_,c16⟩:=uh HE _ E4.out.e.b;have hneM:¬(M=N0):=by omega
 have hneM2:¬(N0=M):=by omega
 have hN0q:q.heap.size<=N0:=Nat.le_of_eq hN0;clear hN0 hne1 hne2 hne3 hne4;by_cases hcd:code=3/\fl=3
 .rw [if_pos hcd]at HAN;obtain⟨hcd1,hcd2⟩:=hcd;subst hcd1;subst hcd2;have CK2:=aa (uh CK _ (ad,R.length,cp) E4.out.e.b E4.out.o);clear CK;go_wp2_with fail
  refine CK2.out.mono ?_;rintro e z5⟨v5,rfl,ho5,hb5⟩;obtain⟨ka,kc,rfl⟩:=af ho5;have E5:=aa (zA (E4.out.e.step hb5) (HoldsO.own ho5));clear hb5 ho5 CK2 r0 r1 s0 s1 f0 f1;obtain⟨s0,s1⟩:=vg E5.out.1.r;have f0:=aX E5.out.1.r 0;have f1:=aX E5.out.1.r 1;go_wp2_with fail
  refine bodyPost_ret (v:=.agg #[(4:Int),(ka,KR.length,kc)]) (by simp[results,results138,asAddr,dM (nZ E5.out.1.r _ _)]) rfl ?_;rw[<- uh HAN];exact⟨_,rfl,bS E5.out.2 E5.out.1.r (by decide) fun k _ hk=>eU hk _ _,(E5.out.1.b.setCell (p:=(N0,0)) hN0q _).setCell (p:=(N0,1)) hN0q _⟩
 .rw [if_neg hcd]at HAN;by_cases hc3:code=3
  .have hfl:(fl==3)=false:=zL fun e=>hcd ⟨hc3,e⟩
   subst hc3;clear hcd;go_wp2_with fail
   refine bodyPost_ret (v:=.agg #[(3:Int),(ad,R.length,cp)]) (by simp[results,results138,asAddr,dM (nZ E4.out.e.r _ _)]) rfl ?_;rw[<- uh HAN];exact⟨_,rfl,bS E4.out.o E4.out.e.r (by decide) fun k _ hk=>eU hk _ _,(E4.out.e.b.setCell (p:=(N0,0)) hN0q _).setCell (p:=(N0,1)) hN0q _⟩
  .have hcd3:(code==3)=false:=zL hc3;clear hcd hc3;go_wp2_with fail
   refine bodyPost_ret (v:=.agg #[code,(ad,R.length,cp)]) (by simp[results,results138,asAddr,dM (nZ E4.out.e.r _ _)]) rfl ?_;rw[<- uh HAN];exact⟨_,rfl,bS E4.out.o E4.out.e.r (by decide) fun k _ hk=>eU hk _ _,(E4.out.e.b.setCell (p:=(N0,0)) hN0q _).setCell (p:=(N0,1)) hN0q _⟩
end
theorem AJ(hk:k≠E):((W.setCell ⟨E,35,none⟩ x0).setCell ⟨E,36,none⟩ x1).heap[k]?=W.heap[k]? :=
 (zJ _ ⟨E,36,none⟩ _ _ hk).trans (zJ _ ⟨E,35,none⟩ _ _ hk)
theorem HoldsO.one{F:List Op.Opt}(h:HoldsO w v F):v.oneCell'=true:=by
 obtain⟨_,_,rfl⟩:=h.form;rfl
theorem ER(h:Lay 129 w0 w1 B c s v1 v2 vs vt q)(hs:c.cd.size<=250)(hE:Et q)(h0:(ar c.cd).2≠0):Calls prog 121 #[(B,0)] q fun r q'=>Lay 129 w0 w1 B c s v1 v2 vs vt q'/\r=.returned (.tuple #[(0:Int),.int .i64 (ar c.cd).2]):=by
 have CO:=aa (dS c.cd q (by unfold maxLen;omega) hE);have c33:=h.cell (i:=33) rfl;have HL:=aa h;clear h hE hs;generalize ar c.cd=OO at*;obtain⟨L,cd⟩:=OO;dsimp only at h0|-;generalize c.cd=t at*;have hb0:(cd != 0)=true:=by simpa using h0
 have hb1:(cd==0)=false:=by simpa using h0
 clear h0;go_enter func121,ntmps121
 go_wp2_with fail
 refine CO.out.mono ?_;rintro e z1⟨ad,cp,rfl,ho,hb⟩;dsimp only at ho;dsimp only;have E1:=aa (HL.out.step hb);clear hb ho CO c33 HL;go_upto_region 2 with fail
 refine bb (fun z=>Lay 129 w0 w1 B c s v1 v2 vs vt z/\z.heap[z1.heap.size]?=some (.cells #[(ad,L.length,cp),cd] 180)) ?_ ?_
 .exact ⟨E1.out.step ((zC z1 z1).alloc (zD _) _),zF z1 _⟩
 intro z2 hz2;generalize z1.heap.size=M at*;have E2:=aa hz2;obtain⟨m0,m1⟩:=vg hz2.2;clear hz2 E1;go_wp2_with fail
 go_quiet (fail)
 go_wp2
 refine bodyPost_ret (v:=.tuple #[(0:Int),cd]) (by simp[results,results121,go_sem]) rfl ⟨E2.out.1.step (aH (zC _ _) _),rfl⟩
theorem sV(h:Lay 129 w0 w1 B c s v1 v2 vs vt q)(hs:c.cd.size<=250)(hE:Et q)(h0:(ar c.cd).2=0):Calls prog 121 #[.pointer (some ⟨B,0,none⟩)] q fun r q'=>∃vh va,Lay 129 w0 w1 B {c with hd:=(ar c.cd).1,vh:=vh,ac:=(dI s.e (ar c.cd).1).1,ao:=(dI s.e (ar c.cd).1).2,va:=va} s v1 v2 vs vt q'/\r=.returned (.tuple #[.int .i64 (if(dI s.e (ar c.cd).1).1=2 then 6 else 7),.int .i64 0]):=by
 have CO:=aa (dS c.cd q (by unfold maxLen;omega) hE);have hr:=dd c.cd;have c33:=h.cell (i:=33) rfl;have HL:=aa h;have hBq:=h.lt;clear h hE hs;generalize ar c.cd=OO at*;obtain⟨L,cd⟩:=OO;dsimp only at h0 hr|-;subst h0;have CR:Hid (∀(c':Cx)(z:World)(v:Value),Lay 129 w0 w1 B c' s v1 v2 vs vt z->HoldsO z v L->Calls prog 138 #[(B,0),v] z fun r q'=>∃v',r=.returned (.agg #[.int .i64 (dI s.e L).1,v'])/\HoldsO q' v' (dI s.e L).2/\Below z z q'):=aa fun c' z v hz hv=>qE hz v L hr hv
 generalize dI s.e L=AA at*;obtain⟨AC,AO⟩:=AA;dsimp only at CR|-;obtain⟨NN,hNN⟩:∃NN:Int,(if AC=2 then 6 else 7)=NN:=⟨_,rfl⟩;rw[hNN];have HN:=aa hNN;clear hNN;go_enter func121,ntmps121
 go_wp2_with fail
 refine CO.out.mono ?_;rintro e z1⟨ad,cp,rfl,ho,hb⟩;dsimp only at ho;dsimp only;have E1:=aa (zA hb ho);have hzB:B<z1.heap.size:=Nat.lt_of_lt_of_le hBq hb.size;clear hb ho CO c33;go_upto_region 2 with fail
 refine bb (fun z=>(Below q q z/\z.ownsRow q 105 2 (ad,L.length,cp) L.length (aj L))/\z.heap[z1.heap.size]?=some (.cells #[(ad,L.length,cp),(0:Int)] 180)) ?_ ?_
 .have hbA:=(zC z1 z1).alloc (zD _) (.cells #[(ad,L.length,cp),(0:Int)] 180);exact⟨⟨E1.out.1.trans (hbA.mono E1.out.1.size),aP E1.out.2 hbA⟩,zF z1 _⟩
 intro z2 hz2;have hMB:¬(z1.heap.size=B):=by omega
 have hMB2:¬(B=z1.heap.size):=by omega
 generalize z1.heap.size=M at*;have E2:=aa hz2;obtain⟨m0,m1⟩:=vg hz2.2;have hL2:=HL.out.step hz2.1.1;have k34:=hL2.cell (i:=34) rfl;have f34:=hL2.frz 34;clear hz2 E1 hL2;go_upto_region 5 with fail
 refine bb (fun z=>Lay 129 w0 w1 B {c with hd:=L,vh:=.slice ad L.length cp} s v1 v2 vs vt z/\z.heap[M]?=some (.cells #[(ad,L.length,cp),(0:Int)] 180)) ?_ ?_
 .exact ⟨HL.out.had9 E2.out.1.1 _ L E2.out.1.2,(zJ _ (B,34) _ _ hMB).trans E2.out.2⟩
 clear k34 f34 m0 m1 E2 HL;intro z3 hz3;have E3:=aa hz3;clear hz3;have SY:Hid (∀y9:World,y9.heap[M]?=some (.cells #[(ad,L.length,cp),(0:Int)] 180)->y9.cell? (M,0)=some ((ad,L.length,cp):V)):=aa fun y9 hz=>(vg hz).1
 replace CR:Hid (∀(z:World),Lay 129 w0 w1 B {c with hd:=L,vh:=.slice ad L.length cp} s v1 v2 vs vt z->Calls prog 138 #[(B,0),(ad,L.length,cp)] z fun r q'=>∃v',r=.returned (.agg #[AC,v'])/\HoldsO q' v' AO/\Below z z q'):=aa fun z hz=>uh CR _ z _ hz hz.hh
 have E4:Hid (Lay 129 w0 w1 B {c with hd:=L,vh:=.slice ad L.length cp} s v1 v2 vs vt z3.drew/\z3.drew.heap[M]?=some (.cells #[(ad,L.length,cp),(0:Int)] 180)):=aa ⟨E3.out.1.step (zC _ _).drew,E3.out.2⟩;refine wp_region_held_drew (S:=fun y9=>y9.cell? (M,0)=some ((ad,L.length,cp):V)) (by kernel_rfl) (uh SY _ E4.out.2) (fun hHeld=>?_);generalize z3.drew=yy at E4 hHeld|-;clear E3;refine tq 0 1 2 3 ?_;refine tt 4 5 ?_;refine r3 6 fun K hK=>?_
 go_simp;refine(uh CR _ E4.out.1).mono ?_;rintro e z31⟨v5,rfl,ho31,hb31⟩;obtain⟨xa,xc,rfl⟩:=ho31.form;have E31:=aa (zA (E4.out.1.step hb31) ((hb31.block _ (ge.1 E4.out.2).1).trans E4.out.2));have A31:=aa ho31;clear hb31 ho31;go_wp2_with fail
 refine ro hK (uh SY _ E31.out.2) fun _=>?_
 clear hK K;refine tt 7 8 ?_;refine r3 9 fun K hK=>?_
 have k35:=E31.out.1.cell (i:=35) rfl;have k36:=E31.out.1.cell (i:=36) rfl;have f35:=E31.out.1.frz 35;have f36:=E31.out.1.frz 36;have ZF:=aa (E31.out.1.ans9 AC (xa,AO.length,xc) AO A31.out);have ZM:=aa ((AJ (x0:=.int .i64 AC) (x1:=.slice xa AO.length xc) (fun e=>hMB (show M=B from e))).trans E31.out.2);go_simp;clear k35 k36 f35 f36;refine ro hK (uh SY _ ZM.out) fun _=>?_
 clear hK K;refine dn ?_ _;go_upto_region 6 with fail
 refine bb (Lay 129 w0 w1 B {c with hd:=L,vh:=.slice ad L.length cp,ac:=AC,ao:=AO,va:=.slice xa AO.length xc} s v1 v2 vs vt) ZF.out ?_;intro z9 hz9;have E9:=aa hz9;have k35:=hz9.cell (i:=35) rfl;clear hz9 ZF ZM CR SY;by_cases ha:AC=2
 .rw [if_pos ha]at HN;have hb2:(AC==2)=true:=by simpa using ha
  clear ha;go_wp2
  refine bodyPost_ret (v:=.tuple #[(6:Int),(0:Int)]) (by simp[results,results121,go_sem]) rfl ?_;exact⟨⟨_,_,uh E9⟩,by rw[<- uh HN]⟩
 .rw [if_neg ha]at HN;have hb2:(AC==2)=false:=by simpa using ha
  clear ha;go_wp2
  refine bodyPost_ret (v:=.tuple #[(7:Int),(0:Int)]) (by simp[results,results121,go_sem]) rfl ?_;exact⟨⟨_,_,uh E9⟩,by rw[<- uh HN]⟩
theorem fO(h:aK e.m2 e.a2 e.g2=true):dr (gr e)=#[.int .i64 e.m2,.int .i64 e.a2,.int .i64 e.g2,.bool e.p2,.bool e.c2,.bool e.d2]:=by
 obtain⟨h1,h2,h3⟩:=g_ h;unfold dr gr;dsimp only;rw[h1,h2,h3]
theorem gJ(hk:k≠E)(x0 x1 x2 x3 x4 x5:Value):((((((W.setCell (E,6) x0).setCell (E,7) x1).setCell (E,8) x2).setCell (E,9) x3).setCell (E,10) x4).setCell (E,11) x5).heap[k]?=W.heap[k]?:=by
 rw[zJ _ ⟨E,11,none⟩ _ _ hk,zJ _ ⟨E,10,none⟩ _ _ hk,zJ _ ⟨E,9,none⟩ _ _ hk,zJ _ ⟨E,8,none⟩ _ _ hk,zJ _ ⟨E,7,none⟩ _ _ hk,zJ _ ⟨E,6,none⟩ _ _ hk]
theorem eF(h:aK e.m2 e.a2 e.g2=true):sw (gr e)=true:=by
 obtain⟨h1,h2,h3⟩:=g_ h;unfold sw gr;dsimp only;rw[h1,h2,h3];exact h
theorem qG(h:Lay 129 w0 w1 B c s v1 v2 vs vt q)(h0:c.ci≠s.e.id):Calls prog 123 #[(B,0)] q fun r q'=>Lay 129 w0 w1 B c s v1 v2 vs vt q'/\r=.returned (.tuple #[(0:Int),(8:Int)]):=by
 have c32:=h.cell (i:=32) rfl;have c15:=h.cell (i:=15) rfl;have HL:=aa h;clear h;have hb0:(c.ci != s.e.id)=true:=by simpa using h0
 have hb1:(c.ci==s.e.id)=false:=by simpa using h0
 clear h0;generalize c.ci=x at*;generalize s.e.id=y at*;go_enter func123,ntmps123
 go_wp2_with fail
 go_quiet (fail)
 go_wp2
 refine bodyPost_ret (v:=.tuple #[(0:Int),(8:Int)]) (by simp[results,results123,go_sem]) rfl ⟨HL.out.step (aH (zC _ _) _),rfl⟩
theorem qH(h:Lay 129 w0 w1 B c s v1 v2 vs vt q)(hs:c.cd.size<=250)(hE:Et q)(hi:c.ci=s.e.id)(h0:(ar c.cd).2≠0):Calls prog 123 #[(B,0)] q fun r q'=>Lay 129 w0 w1 B c s v1 v2 vs vt q'/\r=.returned (.tuple #[(0:Int),.int .i64 (ar c.cd).2]):=by
 have CO:=aa fun z (hz:Et z)=>dS c.cd z (by unfold maxLen;omega) hz
 have HE:=aa hE;have c32:=h.cell (i:=32) rfl;have c15:=h.cell (i:=15) rfl;have HL:=aa h;clear h hE hs;rw[hi]at c32;clear hi;generalize ar c.cd=OO at*;obtain⟨L,cd⟩:=OO;dsimp only at h0|-;have hb0:(cd != 0)=true:=by simpa using h0
 have hb1:(cd==0)=false:=by simpa using h0
 clear h0;go_enter func123,ntmps123
 go_wp2_with fail
 go_quiet (fail)
 have hL0:=HL.out.step (aH (zC q q) nq);have hE0:=HE.out.below (aH (zC q q) nq) HE.out.lt;generalize q.drewN nq=q0 at*;have c33:=hL0.cell (i:=33) rfl;have HL0:=aa hL0;have CO2:=aa (uh CO q0 hE0);clear hL0 hE0 HE HL CO c32 c15;go_wp2_with fail
 refine CO2.out.mono ?_;rintro e z1⟨ad,cp,rfl,ho,hb⟩;dsimp only at ho;dsimp only;have E1:=aa (HL0.out.step hb);clear hb ho CO2 c33 HL0;go_upto_region 4 with fail
 refine bb (fun z=>Lay 129 w0 w1 B c s v1 v2 vs vt z/\z.heap[z1.heap.size]?=some (.cells #[(ad,L.length,cp),cd] 180)) ?_ ?_
 .exact ⟨E1.out.step ((zC z1 z1).alloc (zD _) _),zF z1 _⟩
 intro z2 hz2;generalize z1.heap.size=M at*;have E2:=aa hz2;obtain⟨m0,m1⟩:=vg hz2.2;clear hz2 E1;go_wp2_with fail
 go_quiet (fail)
 go_wp2
 refine bodyPost_ret (v:=.tuple #[(0:Int),cd]) (by simp[results,results123,go_sem]) rfl ⟨E2.out.1.step (aH (zC _ _) _),rfl⟩
theorem n5(h:Lay 129 w0 w1 B c s v1 v2 vs vt q)(hs:c.cd.size<=250)(hE:Et q)(hi:c.ci=s.e.id)(hk:aK s.e.m2 s.e.a2 s.e.g2=true)(h0:(ar c.cd).2=0):Calls prog 123 #[(B,0)] q fun r q'=>Lay 129 w0 w1 B c {s with e:=ee s.e (if c.cc=3 then bF (gr s.e) (ar c.cd).1 else gI (gr s.e) (ar c.cd).1)} v1 v2 vs vt q'/\r=.returned (.tuple #[(9:Int),(0:Int)]):=by
 have CO:=aa fun z (hz:Et z)=>dS c.cd z (by unfold maxLen;omega) hz
 have HE:=aa hE;have hr:=dd c.cd;have c32:=h.cell (i:=32) rfl;have c15:=h.cell (i:=15) rfl;have HL:=aa h;clear h hE hs;rw[hi]at c32;clear hi;generalize ar c.cd=OO at*;obtain⟨L,cd⟩:=OO;dsimp only at h0 hr|-;subst h0;have CL:Hid (∀(v:Value)(z:World),HoldsO z v L->Calls prog 139 #[.agg #[s.e.m2,s.e.a2,s.e.g2,s.e.p2,s.e.c2,s.e.d2],v] z fun e w'=>e=.returned (.agg (dr (bF (gr s.e) L)))/\Below z z w'):=aa fun v z hz=>by
  have:=qF (gr s.e) v L z (eF hk) hr hz
  rwa [fO hk]at this
 have CW:Hid (∀(v:Value)(z:World),HoldsO z v L->Calls prog 140 #[.agg #[s.e.m2,s.e.a2,s.e.g2,s.e.p2,s.e.c2,s.e.d2],v] z fun e w'=>e=.returned (.agg (dr (gI (gr s.e) L)))/\Below z z w'):=aa fun v z hz=>by
  have:=lT (gr s.e) v L z (eF hk) hr hz
  rwa [fO hk]at this
 clear hk hr;obtain⟨XX,hXX⟩:∃XX,(if c.cc=3 then bF (gr s.e) L else gI (gr s.e) L)=XX:=⟨_,rfl⟩;rw[hXX];have HX:=aa hXX.symm;clear hXX;generalize bF (gr s.e) L=X1 at*;generalize gI (gr s.e) L=X2 at*;go_enter func123,ntmps123
 go_wp2_with fail
 go_quiet (fail)
 have hL0:=HL.out.step (aH (zC q q) nq);have hE0:=HE.out.below (aH (zC q q) nq) HE.out.lt;generalize q.drewN nq=q0 at*;have c33:=hL0.cell (i:=33) rfl;have HL0:=aa hL0;have hB0:=hL0.lt;have CO2:=aa (uh CO q0 hE0);clear hL0 hE0 HE HL CO c32 c15;go_wp2_with fail
 refine CO2.out.mono ?_;rintro e z1⟨ad,cp,rfl,ho,hb⟩;dsimp only at ho;dsimp only;have E1:=aa (zA (HL0.out.step hb) (HoldsO.own ho));have hzB:B<z1.heap.size:=Nat.lt_of_lt_of_le hB0 hb.size;clear hb ho CO2 c33 HL0;go_upto_region 4 with fail
 refine bb (fun z=>Lay 129 w0 w1 B c s v1 v2 vs vt z/\z.heap[z1.heap.size]?=some (.cells #[(ad,L.length,cp),(0:Int)] 180)/\HoldsO z (ad,L.length,cp) L) ?_ ?_
 .have hbA:=(zC z1 z1).alloc (zD _) (.cells #[(ad,L.length,cp),(0:Int)] 180);exact⟨E1.out.1.step hbA,zF z1 _,E1.out.2.below hbA rfl⟩
 intro z2 hz2;have hMB:¬(z1.heap.size=B):=by omega
 generalize z1.heap.size=M at*;have E2:=aa hz2;obtain⟨m0,m1⟩:=vg hz2.2.1;have k31:=hz2.1.cell (i:=31) rfl;clear hz2 E1;have SY:Hid (∀y9:World,y9.heap[M]?=some (.cells #[(ad,L.length,cp),(0:Int)] 180)->(y9.cell? (M,0)=some ((ad,L.length,cp):V))):=aa fun y9 hm=>(vg hm).1
 replace CL:=aa fun z hz=>uh CL (ad,L.length,cp) z hz
 replace CW:=aa fun z hz=>uh CW (ad,L.length,cp) z hz
 have E4:Hid (Lay 129 w0 w1 B c s v1 v2 vs vt z2.drew/\z2.drew.heap[M]?=some (.cells #[(ad,L.length,cp),(0:Int)] 180)/\HoldsO z2.drew (ad,L.length,cp) L):=aa ⟨E2.out.1.step (zC _ _).drew,E2.out.2.1,E2.out.2.2.below (zC _ _).drew rfl⟩;by_cases h3:c.cc=3
 .rw [if_pos h3]at HX;have hb3:(c.cc==3)=true:=by simpa using h3
  clear h3 CW;go_upto_region 7 with fail
  refine wp_region_held_drew (S:=fun y9=>y9.cell? (M,0)=some ((ad,L.length,cp):V)) (by kernel_rfl) (uh SY _ E4.out.2.1) (fun hHeld=>?_);generalize z2.drew=yy at E4 hHeld|-;clear E2 m0 m1 k31;refine tq 0 1 2 3 ?_;refine tt 4 6 ?_;refine t2 7 ?_;refine r3 5 fun K hK=>?_
  have k6:=E4.out.1.cell (i:=6) rfl;have f6:=E4.out.1.frz 6;have k7:=E4.out.1.cell (i:=7) rfl;have f7:=E4.out.1.frz 7;have k8:=E4.out.1.cell (i:=8) rfl;have f8:=E4.out.1.frz 8;have k9:=E4.out.1.cell (i:=9) rfl;have f9:=E4.out.1.frz 9;have k10:=E4.out.1.cell (i:=10) rfl;have f10:=E4.out.1.frz 10;have k11:=E4.out.1.cell (i:=11) rfl;have f11:=E4.out.1.frz 11;go_simp;clear k6 k7 k8 k9 k10 k11 f6 f7 f8 f9 f10 f11;refine ro hK (uh SY _ E4.out.2.1) fun _=>?_
  clear hK K;refine r3 8 fun K hK=>?_
  go_simp;refine(uh CL _ E4.out.2.2).mono ?_;rintro e z32⟨rfl,hb32⟩;have E32:=aa (zA (E4.out.1.step hb32) (zA ((hb32.block _ (ge.1 E4.out.2.1).1).trans E4.out.2.1) (E4.out.2.2.below hb32 rfl)));clear hb32;go_wp2_with fail
  refine ro hK (uh SY _ E32.out.2.1) fun _=>?_
  clear hK K;refine tt 9 10 ?_;refine t2 11 ?_;refine r3 12 fun K hK=>?_
  have ZF:=aa (E32.out.1.asks9 X1);have ZM:=aa ((gJ (fun e=>hMB (show M=B from e)) X1.m X1.a X1.g X1.p X1.c X1.d).trans E32.out.2.1);have k6:=E32.out.1.cell (i:=6) rfl;have f6:=E32.out.1.frz 6;have k7:=E32.out.1.cell (i:=7) rfl;have f7:=E32.out.1.frz 7;have k8:=E32.out.1.cell (i:=8) rfl;have f8:=E32.out.1.frz 8;have k9:=E32.out.1.cell (i:=9) rfl;have f9:=E32.out.1.frz 9;have k10:=E32.out.1.cell (i:=10) rfl;have f10:=E32.out.1.frz 10;have k11:=E32.out.1.cell (i:=11) rfl;have f11:=E32.out.1.frz 11;go_simp;clear k6 k7 k8 k9 k10 k11 f6 f7 f8 f9 f10 f11;refine ro hK (uh SY _ ZM.out) fun _=>?_
  clear hK K;refine dn ?_ _;go_upto_region 9 with fail
  refine bb (Lay 129 w0 w1 B c {s with e:=ee s.e X1} v1 v2 vs vt) ZF.out ?_;intro z9 hz9;have E9:=aa hz9;clear hz9 ZF ZM;go_wp2
  refine bodyPost_ret (v:=.tuple #[(9:Int),(0:Int)]) (by simp[results,results123,go_sem]) rfl ?_;refine⟨?_,rfl⟩;rw[uh HX];exact uh E9
 .rw [if_neg h3]at HX;have hb3:(c.cc==3)=false:=by simpa using h3
  clear h3 CL;go_upto_region 8 with fail
  refine wp_region_held_drew (S:=fun y9=>y9.cell? (M,0)=some ((ad,L.length,cp):V)) (by kernel_rfl) (uh SY _ E4.out.2.1) (fun hHeld=>?_);generalize z2.drew=yy at E4 hHeld|-;clear E2 m0 m1 k31;refine tq 0 1 2 3 ?_;refine tt 4 6 ?_;refine t2 7 ?_;refine r3 5 fun K hK=>?_
  have k6:=E4.out.1.cell (i:=6) rfl;have f6:=E4.out.1.frz 6;have k7:=E4.out.1.cell (i:=7) rfl;have f7:=E4.out.1.frz 7;have k8:=E4.out.1.cell (i:=8) rfl;have f8:=E4.out.1.frz 8;have k9:=E4.out.1.cell (i:=9) rfl;have f9:=E4.out.1.frz 9;have k10:=E4.out.1.cell (i:=10) rfl;have f10:=E4.out.1.frz 10;have k11:=E4.out.1.cell (i:=11) rfl;have f11:=E4.out.1.frz 11;go_simp;clear k6 k7 k8 k9 k10 k11 f6 f7 f8 f9 f10 f11;refine ro hK (uh SY _ E4.out.2.1) fun _=>?_
  clear hK K;refine r3 8 fun K hK=>?_
  go_simp;refine(uh CW _ E4.out.2.2).mono ?_;rintro e z32⟨rfl,hb32⟩;have E32:=aa (zA (E4.out.1.step hb32) (zA ((hb32.block _ (ge.1 E4.out.2.1).1).trans E4.out.2.1) (E4.out.2.2.below hb32 rfl)));clear hb32;go_wp2_with fail
  refine ro hK (uh SY _ E32.out.2.1) fun _=>?_
  clear hK K;refine tt 9 10 ?_;refine t2 11 ?_;refine r3 12 fun K hK=>?_
  have ZF:=aa (E32.out.1.asks9 X2);have ZM:=aa ((gJ (fun e=>hMB (show M=B from e)) X2.m X2.a X2.g X2.p X2.c X2.d).trans E32.out.2.1);have k6:=E32.out.1.cell (i:=6) rfl;have f6:=E32.out.1.frz 6;have k7:=E32.out.1.cell (i:=7) rfl;have f7:=E32.out.1.frz 7;have k8:=E32.out.1.cell (i:=8) rfl;have f8:=E32.out.1.frz 8;have k9:=E32.out.1.cell (i:=9) rfl;have f9:=E32.out.1.frz 9;have k10:=E32.out.1.cell (i:=10) rfl;have f10:=E32.out.1.frz 10;have k11:=E32.out.1.cell (i:=11) rfl;have f11:=E32.out.1.frz 11;go_simp;clear k6 k7 k8 k9 k10 k11 f6 f7 f8 f9 f10 f11;refine ro hK (uh SY _ ZM.out) fun _=>?_
  clear hK K;refine dn ?_ _;go_upto_region 9 with fail
  refine bb (Lay 129 w0 w1 B c {s with e:=ee s.e X2} v1 v2 vs vt) ZF.out ?_;intro z9 hz9;have E9:=aa hz9;clear hz9 ZF ZM;go_wp2
  refine bodyPost_ret (v:=.tuple #[(9:Int),(0:Int)]) (by simp[results,results123,go_sem]) rfl ?_;refine⟨?_,rfl⟩;rw[uh HX];exact uh E9
end Go.Proofs.YtjdgiimfpkideaaGreatDoor
