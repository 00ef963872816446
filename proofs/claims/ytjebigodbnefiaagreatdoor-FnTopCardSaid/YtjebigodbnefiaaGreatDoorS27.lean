/- HrP HrQ HrR HrT HrS -/
import Derived.Test.YtjebigodbnefiaaGreatDoorS26
import Derived.Test.YtjebigodbnefiaaGreatDoorS20
set_option maxHeartbeats 16000000
set_option maxRecDepth 100000
set_option linter.unusedSimpArgs false
namespace Go.Proofs.YtjebigodbnefiaaGreatDoor
open Go.RowKit Go.Proofs.Tryz
structure Rp (q:World) (N0 C:Nat) (m a g2:Int) (p c9 d:Bool) (z:World):Prop where
 b:Below q.heap.size q z
 r:z.heap[N0]?=some (.cells #[.int .i64 0,.slice none 0 0] 180)
 c:z.heap[C]?=some (.cells #[.int .i64 m,.int .i64 a,.int .i64 g2,.bool p,.bool c9,.bool d] 35)
variable {q z z':World} {N0 C:Nat} {m a g2:Int} {p c9 d:Bool}
theorem Rp.step (h:Rp q N0 C m a g2 p c9 d z) (hb:Below z.heap.size z z'):Rp q N0 C m a g2 p c9 d z' :=
 ⟨h.b.trans (hb.mono h.b.size),(hb.block _ (ge.1 h.r).1).trans h.r,(hb.block _ (ge.1 h.c).1).trans h.c⟩
theorem Rp.lt (h:Rp q N0 C m a g2 p c9 d z):N0<z.heap.size:=(ge.1 h.r).1
theorem Rp.setG {g3:Int} (h:Rp q N0 C m a g2 p c9 d z) (hC:q.heap.size≤C) (hn:N0≠C):Rp q N0 C m a g3 p c9 d (z.setCell ⟨C,2,none⟩ (.int .i64 g3)) :=
 ⟨h.b.setCell (p:=⟨C,2,none⟩) hC _,(Below.heap_setCell _ ⟨C,2,none⟩ _ _ hn).trans h.r,zH _ _ 2 _ _ _ h.c⟩
theorem ey {w:World} {B:Nat} {x0 x1:Value} {T:TypeId} (h:w.heap[B]?=some (.cells #[x0,x1] T)):w.cell? ⟨B,0,none⟩=some x0∧w.cell? ⟨B,1,none⟩=some x1 :=
 ⟨by rw [cr h];rfl,by rw [cr h];rfl⟩
structure RaP (q:World) (N0 C:Nat) (m a g2:Int) (p c9 d:Bool) (M:Nat) (code:Int) (v:Value) (R:List Op.Opt) (z:World):Prop where
 e:Rp q N0 C m a g2 p c9 d z
 m:z.heap[M]?=some (.cells #[.int .i64 code,v] 180)
 o:HoldsO z v R
 n:N0<M
theorem nZ {W:World} {E:Nat} {z0 z1:Value} {T:TypeId} (h:W.heap[E]?=some (.cells #[z0,z1] T)) (x0 x1:Value) :
  ((W.setCell ⟨E,0,none⟩ x0).setCell ⟨E,1,none⟩ x1).heap[E]?=some (.cells #[x0,x1] T):=by
 have h1:=zH _ _ 0 _ _ x0 h;have h2:=zH _ _ 1 _ _ x1 h1;exact h2
theorem eU {W:World} {E k:Nat} (hk:k≠E) (x0 x1:Value):((W.setCell ⟨E,0,none⟩ x0).setCell ⟨E,1,none⟩ x1).heap[k]?=W.heap[k]? :=
 (Below.heap_setCell _ ⟨E,1,none⟩ _ _ hk).trans (Below.heap_setCell _ ⟨E,0,none⟩ _ _ hk)
theorem Rp.put {M:Nat} {code:Int} {v:Value} {R:List Op.Opt} (h:Rp q N0 C m a g2 p c9 d z) (hM:z.heap[M]?=some (.cells #[.int .i64 0,.slice none 0 0] 180)) (hw:q.heap.size≤M) (hn:N0<M) (ho:HoldsO z v R) :
  RaP q N0 C m a g2 p c9 d M code v R ((z.setCell ⟨M,0,none⟩ (.int .i64 code)).setCell ⟨M,1,none⟩ v):=by
 refine ⟨⟨(h.b.setCell (p:=⟨M,0,none⟩) hw _).setCell (p:=⟨M,1,none⟩) hw _,(eU (by omega) _ _).trans h.r,(eU (fun e=>?_) _ _).trans h.c⟩,nZ hM _ _,bS ho hM (by decide) fun k _ hk=>eU hk _ _,hn⟩;have h1:=h.c;rw [e,hM] at h1;injection h1 with h1;injection h1 with _ h1;exact absurd h1 (by decide)
theorem qE {w0 w1:World} {B:Nat} {c:Cx} {s:St} {v1 v2 vs vt:Value} {q:World} (h:Lay 182 w0 w1 B c s v1 v2 vs vt q) (v:Value) (L:List Op.Opt) (hr:Op.right L=true) (hL:HoldsO q v L) :
  Calls prog 199 #[.pointer (some ⟨B,0,none⟩),v] q fun r q'=>∃ v',r=.returned (.agg #[.int .i64 (eX s.e L).1,v'])∧HoldsO q' v' (eX s.e L).2∧Below q.heap.size q q':=by
 have hB:=h.lt;have HE:Hid (∀ z,Below q.heap.size q z→z.cell? ⟨B,0,none⟩=some (.int .i64 s.e.m1)∧z.cell? ⟨B,1,none⟩=some (.int .i64 s.e.a1)∧z.cell? ⟨B,2,none⟩=some (.int .i64 s.e.g1)∧z.cell? ⟨B,3,none⟩=some (.bool s.e.p1)∧z.cell? ⟨B,4,none⟩=some (.bool s.e.c1)∧z.cell? ⟨B,5,none⟩=some (.bool s.e.d1)∧z.cell? ⟨B,8,none⟩=some (.int .i64 s.e.g2)∧z.cell? ⟨B,16,none⟩=some (.int .i64 s.e.fl)):=aa fun z hb=>by
  have hz:=h.step hb;exact ⟨hz.cell (i:=0) rfl,hz.cell (i:=1) rfl,hz.cell (i:=2) rfl,hz.cell (i:=3) rfl,hz.cell (i:=4) rfl,hz.cell (i:=5) rfl,hz.cell (i:=8) rfl,hz.cell (i:=16) rfl⟩
 have hm:L.length≤maxLen:=by have:=Op.right_len hr;unfold maxLen;omega
 have CR:Hid (∀ z,Below q.heap.size q z→Calls prog 211 #[cN s.e.m1 s.e.a1 s.e.g2 s.e.p1 s.e.c1 s.e.d1,v] z fun e w'=>∃ ad cp,e=.returned (.agg #[.int .i64 (ck s.e.m1 s.e.a1 s.e.g2 s.e.p1 s.e.c1 s.e.d1 L).1,.slice ad (ck s.e.m1 s.e.a1 s.e.g2 s.e.p1 s.e.c1 s.e.d1 L).2.length cp])∧w'.ownsRow z.heap.size 27 2 (.slice ad (ck s.e.m1 s.e.a1 s.e.g2 s.e.p1 s.e.c1 s.e.d1 L).2.length cp) (ck s.e.m1 s.e.a1 s.e.g2 s.e.p1 s.e.c1 s.e.d1 L).2.length (aj (ck s.e.m1 s.e.a1 s.e.g2 s.e.p1 s.e.c1 s.e.d1 L).2)∧Below z.heap.size z w'):=aa fun z hb=>mY s.e.m1 s.e.a1 s.e.g2 s.e.p1 s.e.c1 s.e.d1 L v z hm (hL.below hb rfl)
 have hR20:=lM s.e.m1 s.e.a1 s.e.g2 s.e.p1 s.e.c1 s.e.d1 L;have CK:Hid (∀ z vo,Below q.heap.size q z→HoldsO z vo (ck s.e.m1 s.e.a1 s.e.g2 s.e.p1 s.e.c1 s.e.d1 L).2→Calls prog 212 #[v,vo] z fun e w'=>∃ v',e=.returned v'∧w'.ownsRow z.heap.size 27 2 v' (gX L (ck s.e.m1 s.e.a1 s.e.g2 s.e.p1 s.e.c1 s.e.d1 L).2).length (aj (gX L (ck s.e.m1 s.e.a1 s.e.g2 s.e.p1 s.e.c1 s.e.d1 L).2))∧Below z.heap.size z w'):=aa fun z vo hb ho=>qD v vo L _ z hr (by omega) (hL.below hb rfl) ho
 obtain ⟨va,vc,rfl⟩:=hL.form;unfold eX;clear h hm hr hL;generalize s.e.m1=m at *;generalize s.e.a1=a at *;generalize s.e.g1=g1 at *;generalize s.e.p1=p at *;generalize s.e.c1=c9 at *;generalize s.e.d1=d at *;generalize s.e.g2=g2 at *;generalize s.e.fl=fl at *;generalize ck m a g2 p c9 d L=RR at *;obtain ⟨code,R⟩:=RR;dsimp only at CR CK hR20 ⊢;generalize gX L R=KR at *;unfold cN at CR;obtain ⟨AN,hAN⟩:∃ AN,(if code=3∧fl=3 then (4,KR) else (code,R))=AN:=⟨_,rfl⟩;rw [hAN];have HAN:=aa hAN;clear hAN;obtain ⟨N0,hN0⟩:∃ N0,q.heap.size=N0:=⟨_,rfl⟩;have hne1:¬ (B=q.heap.size):=by omega
 have hne2:¬ (q.heap.size=B):=by omega
 have hne3:¬ (B=q.heap.size+1):=by omega
 have hne4:¬ (q.heap.size+1=B):=by omega
 obtain ⟨c0,c1,c2,c3,c4,c5,c8,c16⟩:=uh HE _ ((zC q.heap.size q).alloc (zD _) (.cells #[.int .i64 0,.slice none 0 0] 180));go_enter func199,ntmps199
 go_upto_region 2 with fail
 refine aI (Rp q N0 (N0+1) m a g1 p c9 d) ?_ ?_
 ·obtain ⟨_,hA,hX,hb⟩:=br q (.cells #[.int .i64 0,.slice none 0 0] 180) (.cells #[.int .i64 m,.int .i64 a,.int .i64 g1,.bool p,.bool c9,.bool d] 35);rw [hN0] at hA hX;exact ⟨hb,hA,hX⟩
 clear c0 c1 c2 c3 c4 c5 c8 c16;intro z0 hz0;have E0:=aa hz0;obtain ⟨_,_,_,_,_,_,c8,_⟩:=uh HE _ hz0.b;have t2:z0.cell? ⟨N0+1,2,none⟩=some (.int .i64 g1):=by rw [cr hz0.c];rfl
 have f2:=aX hz0.c 2;clear hz0;go_upto_region 3 with fail
 refine aI (Rp q N0 (N0+1) m a g2 p c9 d) ((uh E0).setG (by omega) (by omega)) ?_;clear c8 t2 f2 E0;intro z1 hz1;have E1:=aa hz1;clear hz1;obtain ⟨C,hC⟩:∃ C,N0+1=C:=⟨_,rfl⟩;rw [hC] at E1 ⊢;clear hC;have SY:Hid (∀ y9,Rp q N0 C m a g2 p c9 d y9→(y9.cell? ⟨C,0,none⟩=some (.int .i64 m)∧y9.cell? ⟨C,1,none⟩=some (.int .i64 a)∧y9.cell? ⟨C,2,none⟩=some (.int .i64 g2)∧y9.cell? ⟨C,3,none⟩=some (.bool p)∧y9.cell? ⟨C,4,none⟩=some (.bool c9)∧y9.cell? ⟨C,5,none⟩=some (.bool d))):=aa fun y9 hz=>by
  have hc:=hz.c;exact ⟨by rw [cr hc];rfl,by rw [cr hc];rfl,by rw [cr hc];rfl,by rw [cr hc];rfl,by rw [cr hc];rfl,by rw [cr hc];rfl⟩
 obtain ⟨k0,k1,k2,k3,k4,k5⟩:=uh SY _ (uh E1);go_wp2_with fail
 refine (uh CR _ (uh E1).b).mono ?_;rintro e z2 ⟨ad,cp,rfl,ho2,hb2⟩;have E2:=aa (zA ((uh E1).step hb2) (HoldsO.own ho2));clear ho2 hb2 k0 k1 k2 k3 k4 k5 E1 SY CR;go_upto_region 4 with fail
 refine aI (RaP q N0 C m a g2 p c9 d z2.heap.size code (.slice ad R.length cp) R) ?_ ?_
 ·have hbA:=(zC z2.heap.size z2).alloc (zD _) (.cells #[.int .i64 code,.slice ad R.length cp] 180);exact ⟨(uh E2).1.step hbA,zF z2 _,(uh E2).2.below hbA rfl,(uh E2).1.lt⟩
 intro z4 hz4;have E4:=aa hz4;clear hz4 E2;generalize z2.heap.size=M at *;have hnM:=(uh E4).n;obtain ⟨r0,r1⟩:=ey (uh E4).m;obtain ⟨s0,s1⟩:=ey (uh E4).e.r;have f0:=aX (uh E4).e.r 0;have f1:=aX (uh E4).e.r 1;obtain ⟨_,_,_,_,_,_,_,c16⟩:=uh HE _ (uh E4).e.b;have hneM:¬ (M=N0):=by omega
 have hneM2:¬ (N0=M):=by omega
 have hN0q:q.heap.size≤N0:=Nat.le_of_eq hN0;clear hN0 hne1 hne2 hne3 hne4;by_cases hcd:code=3∧fl=3
 ·rw [if_pos hcd] at HAN;obtain ⟨hcd1,hcd2⟩:=hcd;subst hcd1;subst hcd2;have CK2:=aa (uh CK _ (.slice ad R.length cp) (uh E4).e.b (uh E4).o);clear CK;go_wp2_with fail
  refine (uh CK2).mono ?_;rintro e z5 ⟨v5,rfl,ho5,hb5⟩;obtain ⟨ka,kc,rfl⟩:=af ho5;have E5:=aa (zA ((uh E4).e.step hb5) (HoldsO.own ho5));clear hb5 ho5 CK2 r0 r1 s0 s1 f0 f1;obtain ⟨s0,s1⟩:=ey (uh E5).1.r;have f0:=aX (uh E5).1.r 0;have f1:=aX (uh E5).1.r 1;go_wp2_with fail
  refine bodyPost_ret (v:=.agg #[.int .i64 4,.slice ka KR.length kc]) (by simp [results,results199,asAddr,dM (nZ (uh E5).1.r _ _)]) rfl ?_;rw [← uh HAN];exact ⟨_,rfl,bS (uh E5).2 (uh E5).1.r (by decide) fun k _ hk=>eU hk _ _,((uh E5).1.b.setCell (p:=⟨N0,0,none⟩) hN0q _).setCell (p:=⟨N0,1,none⟩) hN0q _⟩
 ·rw [if_neg hcd] at HAN;by_cases hc3:code=3
  ·have hfl:(fl == 3)=false:=beq_eq_false_iff_ne.2 fun e=>hcd ⟨hc3,e⟩
   subst hc3;clear hcd;go_wp2_with fail
   refine bodyPost_ret (v:=.agg #[.int .i64 3,.slice ad R.length cp]) (by simp [results,results199,asAddr,dM (nZ (uh E4).e.r _ _)]) rfl ?_;rw [← uh HAN];exact ⟨_,rfl,bS (uh E4).o (uh E4).e.r (by decide) fun k _ hk=>eU hk _ _,((uh E4).e.b.setCell (p:=⟨N0,0,none⟩) hN0q _).setCell (p:=⟨N0,1,none⟩) hN0q _⟩
  ·have hcd3:(code == 3)=false:=beq_eq_false_iff_ne.2 hc3;clear hcd hc3;go_wp2_with fail
   refine bodyPost_ret (v:=.agg #[.int .i64 code,.slice ad R.length cp]) (by simp [results,results199,asAddr,dM (nZ (uh E4).e.r _ _)]) rfl ?_;rw [← uh HAN];exact ⟨_,rfl,bS (uh E4).o (uh E4).e.r (by decide) fun k _ hk=>eU hk _ _,((uh E4).e.b.setCell (p:=⟨N0,0,none⟩) hN0q _).setCell (p:=⟨N0,1,none⟩) hN0q _⟩
end Go.Proofs.YtjebigodbnefiaaGreatDoor
namespace Go.Proofs.YtjebigodbnefiaaGreatDoor
open Go.RowKit Go.Proofs.Tryz
theorem jy {W:World} {E k:Nat} {x0 x1:Value} (hk:k≠E):((W.setCell ⟨E,35,none⟩ x0).setCell ⟨E,36,none⟩ x1).heap[k]?=W.heap[k]? :=
 (Below.heap_setCell _ ⟨E,36,none⟩ _ _ hk).trans (Below.heap_setCell _ ⟨E,35,none⟩ _ _ hk)
theorem HoldsO.one {w:World} {v:Value} {F:List Op.Opt} (h:HoldsO w v F):v.oneCell'=true:=by
 obtain ⟨_,_,rfl⟩:=h.form;rfl
theorem zi {w0 w1:World} {B:Nat} {c:Cx} {s:St} {v1 v2 vs vt:Value} {q:World} (h:Lay 182 w0 w1 B c s v1 v2 vs vt q) (hs:c.cd.size≤250) (hE:Et q) (h0:(ar c.cd).2≠0) :
  Calls prog 181 #[.pointer (some ⟨B,0,none⟩)] q fun r q'=>Lay 182 w0 w1 B c s v1 v2 vs vt q'∧r=.returned (.tuple #[.int .i64 0,.int .i64 (ar c.cd).2]):=by
 have CO:=aa (dS c.cd q (by unfold maxLen;omega) hE);have c33:=h.cell (i:=33) rfl;have HL:=aa h;clear h hE hs;generalize ar c.cd=OO at *;obtain ⟨L,cd⟩:=OO;dsimp only at h0 ⊢;generalize c.cd=t at *;have hb0:(cd != 0)=true:=by simpa using h0
 have hb1:(cd == 0)=false:=by simpa using h0
 clear h0;go_enter func181,ntmps181
 go_wp2_with fail
 refine (uh CO).mono ?_;rintro e z1 ⟨ad,cp,rfl,ho,hb⟩;dsimp only at ho;dsimp only;have E1:=aa ((uh HL).step hb);clear hb ho CO c33 HL;go_upto_region 2 with fail
 refine aI (fun z=>Lay 182 w0 w1 B c s v1 v2 vs vt z∧z.heap[z1.heap.size]?=some (.cells #[.slice ad L.length cp,.int .i64 cd] 286)) ?_ ?_
 ·exact ⟨(uh E1).step ((zC z1.heap.size z1).alloc (zD _) _),zF z1 _⟩
 intro z2 hz2;generalize z1.heap.size=M at *;have E2:=aa hz2;obtain ⟨m0,m1⟩:=ey hz2.2;clear hz2 E1;go_wp2_with fail
 go_quiet (fail)
 go_wp2
 refine bodyPost_ret (v:=.tuple #[.int .i64 0,.int .i64 cd]) (by simp [results,results181,go_sem]) rfl ⟨(uh E2).1.step (aH (zC _ _) _),rfl⟩
theorem sV {w0 w1:World} {B:Nat} {c:Cx} {s:St} {v1 v2 vs vt:Value} {q:World} (h:Lay 182 w0 w1 B c s v1 v2 vs vt q) (hs:c.cd.size≤250) (hE:Et q) (h0:(ar c.cd).2=0) :
  Calls prog 181 #[.pointer (some ⟨B,0,none⟩)] q fun r q'=>∃ vh va,Lay 182 w0 w1 B { c with hd:=(ar c.cd).1,vh:=vh,ac:=(eX s.e (ar c.cd).1).1,ao:=(eX s.e (ar c.cd).1).2,va:=va } s v1 v2 vs vt q'∧r=.returned (.tuple #[.int .i64 (if (eX s.e (ar c.cd).1).1=2 then 6 else 7),.int .i64 0]):=by
 have CO:=aa (dS c.cd q (by unfold maxLen;omega) hE);have hr:=dd c.cd;have c33:=h.cell (i:=33) rfl;have HL:=aa h;have hBq:=h.lt;clear h hE hs;generalize ar c.cd=OO at *;obtain ⟨L,cd⟩:=OO;dsimp only at h0 hr ⊢;subst h0;have CR:Hid (∀ (c':Cx) (z:World) (v:Value),Lay 182 w0 w1 B c' s v1 v2 vs vt z→HoldsO z v L→Calls prog 199 #[.pointer (some ⟨B,0,none⟩),v] z fun r q'=>∃ v',r=.returned (.agg #[.int .i64 (eX s.e L).1,v'])∧HoldsO q' v' (eX s.e L).2∧Below z.heap.size z q'):=aa fun c' z v hz hv=>qE hz v L hr hv
 generalize eX s.e L=AA at *;obtain ⟨AC,AO⟩:=AA;dsimp only at CR ⊢;obtain ⟨NN,hNN⟩:∃ NN:Int,(if AC=2 then 6 else 7)=NN:=⟨_,rfl⟩;rw [hNN];have HN:=aa hNN;clear hNN;go_enter func181,ntmps181
 go_wp2_with fail
 refine (uh CO).mono ?_;rintro e z1 ⟨ad,cp,rfl,ho,hb⟩;dsimp only at ho;dsimp only;have E1:=aa (zA hb ho);have hzB:B<z1.heap.size:=Nat.lt_of_lt_of_le hBq hb.size;clear hb ho CO c33;go_upto_region 2 with fail
 refine aI (fun z=>(Below q.heap.size q z∧z.ownsRow q.heap.size 27 2 (.slice ad L.length cp) L.length (aj L))∧z.heap[z1.heap.size]?=some (.cells #[.slice ad L.length cp,.int .i64 0] 286)) ?_ ?_
 ·have hbA:=(zC z1.heap.size z1).alloc (zD _) (.cells #[.slice ad L.length cp,.int .i64 0] 286);exact ⟨⟨(uh E1).1.trans (hbA.mono (uh E1).1.size),aP (uh E1).2 hbA⟩,zF z1 _⟩
 intro z2 hz2;have hMB:¬ (z1.heap.size=B):=by omega
 have hMB2:¬ (B=z1.heap.size):=by omega
 generalize z1.heap.size=M at *;have E2:=aa hz2;obtain ⟨m0,m1⟩:=ey hz2.2;have hL2:=(uh HL).step hz2.1.1;have k34:=hL2.cell (i:=34) rfl;have f34:=hL2.frz 34;clear hz2 E1 hL2;go_upto_region 5 with fail
 refine aI (fun z=>Lay 182 w0 w1 B { c with hd:=L,vh:=.slice ad L.length cp } s v1 v2 vs vt z∧z.heap[M]?=some (.cells #[.slice ad L.length cp,.int .i64 0] 286)) ?_ ?_
 ·exact ⟨(uh HL).had9 (uh E2).1.1 _ L (uh E2).1.2,(Below.heap_setCell _ ⟨B,34,none⟩ _ _ hMB).trans (uh E2).2⟩
 clear k34 f34 m0 m1 E2 HL;intro z3 hz3;have E3:=aa hz3;clear hz3;have SY:Hid (∀ y9:World,y9.heap[M]?=some (.cells #[.slice ad L.length cp,.int .i64 0] 286)→y9.cell? ⟨M,0,none⟩=some (.slice ad L.length cp)):=aa fun y9 hz=>(ey hz).1
 replace CR:Hid (∀ (z:World),Lay 182 w0 w1 B { c with hd:=L,vh:=.slice ad L.length cp } s v1 v2 vs vt z→Calls prog 199 #[.pointer (some ⟨B,0,none⟩),.slice ad L.length cp] z fun r q'=>∃ v',r=.returned (.agg #[.int .i64 AC,v'])∧HoldsO q' v' AO∧Below z.heap.size z q'):=aa fun z hz=>uh CR _ z _ hz hz.hh
 have E4:Hid (Lay 182 w0 w1 B { c with hd:=L,vh:=.slice ad L.length cp } s v1 v2 vs vt z3.drew∧z3.drew.heap[M]?=some (.cells #[.slice ad L.length cp,.int .i64 0] 286)):=aa ⟨(uh E3).1.step (zC _ _).drew,(uh E3).2⟩;refine wp_region_held_drew (S:=fun y9=>y9.cell? ⟨M,0,none⟩=some (.slice ad L.length cp)) (by kernel_rfl) (uh SY _ (uh E4).2) (fun hHeld=>?_);generalize z3.drew=yy at E4 hHeld ⊢;clear E3;refine tq 0 1 2 3 ?_;refine tt 4 5 ?_;refine r3 6 fun K hK=>?_
 go_simp;refine (uh CR _ (uh E4).1).mono ?_;rintro e z31 ⟨v5,rfl,ho31,hb31⟩;obtain ⟨xa,xc,rfl⟩:=ho31.form;have E31:=aa (zA ((uh E4).1.step hb31) ((hb31.block _ (ge.1 (uh E4).2).1).trans (uh E4).2));have A31:=aa ho31;clear hb31 ho31;go_wp2_with fail
 refine ro hK (uh SY _ (uh E31).2) fun _=>?_
 clear hK K;refine tt 7 8 ?_;refine r3 9 fun K hK=>?_
 have k35:=(uh E31).1.cell (i:=35) rfl;have k36:=(uh E31).1.cell (i:=36) rfl;have f35:=(uh E31).1.frz 35;have f36:=(uh E31).1.frz 36;have ZF:=aa ((uh E31).1.ans9 AC (.slice xa AO.length xc) AO (uh A31));have ZM:=aa ((jy (x0:=.int .i64 AC) (x1:=.slice xa AO.length xc) (fun e=>hMB (show M=B from e))).trans (uh E31).2);go_simp;clear k35 k36 f35 f36;refine ro hK (uh SY _ (uh ZM)) fun _=>?_
 clear hK K;refine dn ?_ _;go_upto_region 6 with fail
 refine aI (Lay 182 w0 w1 B { c with hd:=L,vh:=.slice ad L.length cp,ac:=AC,ao:=AO,va:=.slice xa AO.length xc } s v1 v2 vs vt) (uh ZF) ?_;intro z9 hz9;have E9:=aa hz9;have k35:=hz9.cell (i:=35) rfl;clear hz9 ZF ZM CR SY;by_cases ha:AC=2
 ·rw [if_pos ha] at HN;have hb2:(AC == 2)=true:=by simpa using ha
  clear ha;go_wp2
  refine bodyPost_ret (v:=.tuple #[.int .i64 6,.int .i64 0]) (by simp [results,results181,go_sem]) rfl ?_;exact ⟨⟨_,_,uh E9⟩,by rw [← uh HN]⟩
 ·rw [if_neg ha] at HN;have hb2:(AC == 2)=false:=by simpa using ha
  clear ha;go_wp2
  refine bodyPost_ret (v:=.tuple #[.int .i64 7,.int .i64 0]) (by simp [results,results181,go_sem]) rfl ?_;exact ⟨⟨_,_,uh E9⟩,by rw [← uh HN]⟩
end Go.Proofs.YtjebigodbnefiaaGreatDoor
namespace Go.Proofs.YtjebigodbnefiaaGreatDoor
open Go.RowKit Go.Proofs.Tryz
theorem fO {e:En} (h:aK e.m2 e.a2 e.g2=true):dr (gr e)=#[.int .i64 e.m2,.int .i64 e.a2,.int .i64 e.g2,.bool e.p2,.bool e.c2,.bool e.d2]:=by
 obtain ⟨h1,h2,h3⟩:=g_ h;unfold dr gr;dsimp only;rw [h1,h2,h3]
theorem gJ {W:World} {E k:Nat} (hk:k≠E) (x0 x1 x2 x3 x4 x5:Value):((((((W.setCell ⟨E,6,none⟩ x0).setCell ⟨E,7,none⟩ x1).setCell ⟨E,8,none⟩ x2).setCell ⟨E,9,none⟩ x3).setCell ⟨E,10,none⟩ x4).setCell ⟨E,11,none⟩ x5).heap[k]?=W.heap[k]?:=by
 rw [Below.heap_setCell _ ⟨E,11,none⟩ _ _ hk,Below.heap_setCell _ ⟨E,10,none⟩ _ _ hk,Below.heap_setCell _ ⟨E,9,none⟩ _ _ hk,Below.heap_setCell _ ⟨E,8,none⟩ _ _ hk,Below.heap_setCell _ ⟨E,7,none⟩ _ _ hk,Below.heap_setCell _ ⟨E,6,none⟩ _ _ hk]
theorem eF {e:En} (h:aK e.m2 e.a2 e.g2=true):iv (gr e)=true:=by
 obtain ⟨h1,h2,h3⟩:=g_ h;unfold iv gr;dsimp only;rw [h1,h2,h3];exact h
theorem qG {w0 w1:World} {B:Nat} {c:Cx} {s:St} {v1 v2 vs vt:Value} {q:World} (h:Lay 182 w0 w1 B c s v1 v2 vs vt q) (h0:c.ci≠s.e.id) :
  Calls prog 183 #[.pointer (some ⟨B,0,none⟩)] q fun r q'=>Lay 182 w0 w1 B c s v1 v2 vs vt q'∧r=.returned (.tuple #[.int .i64 0,.int .i64 8]):=by
 have c32:=h.cell (i:=32) rfl;have c15:=h.cell (i:=15) rfl;have HL:=aa h;clear h;have hb0:(c.ci != s.e.id)=true:=by simpa using h0
 have hb1:(c.ci == s.e.id)=false:=by simpa using h0
 clear h0;generalize c.ci=x at *;generalize s.e.id=y at *;go_enter func183,ntmps183
 go_wp2_with fail
 go_quiet (fail)
 go_wp2
 refine bodyPost_ret (v:=.tuple #[.int .i64 0,.int .i64 8]) (by simp [results,results183,go_sem]) rfl ⟨(uh HL).step (aH (zC _ _) _),rfl⟩
theorem qH {w0 w1:World} {B:Nat} {c:Cx} {s:St} {v1 v2 vs vt:Value} {q:World} (h:Lay 182 w0 w1 B c s v1 v2 vs vt q) (hs:c.cd.size≤250) (hE:Et q) (hi:c.ci=s.e.id) (h0:(ar c.cd).2≠0) :
  Calls prog 183 #[.pointer (some ⟨B,0,none⟩)] q fun r q'=>Lay 182 w0 w1 B c s v1 v2 vs vt q'∧r=.returned (.tuple #[.int .i64 0,.int .i64 (ar c.cd).2]):=by
 have CO:=aa fun z (hz:Et z)=>dS c.cd z (by unfold maxLen;omega) hz
 have HE:=aa hE;have c32:=h.cell (i:=32) rfl;have c15:=h.cell (i:=15) rfl;have HL:=aa h;clear h hE hs;rw [hi] at c32;clear hi;generalize ar c.cd=OO at *;obtain ⟨L,cd⟩:=OO;dsimp only at h0 ⊢;have hb0:(cd != 0)=true:=by simpa using h0
 have hb1:(cd == 0)=false:=by simpa using h0
 clear h0;go_enter func183,ntmps183
 go_wp2_with fail
 go_quiet (fail)
 have hL0:=(uh HL).step (aH (zC q.heap.size q) nq);have hE0:=(uh HE).below (aH (zC q.heap.size q) nq) (uh HE).lt;generalize q.drewN nq=q0 at *;have c33:=hL0.cell (i:=33) rfl;have HL0:=aa hL0;have CO2:=aa (uh CO q0 hE0);clear hL0 hE0 HE HL CO c32 c15;go_wp2_with fail
 refine (uh CO2).mono ?_;rintro e z1 ⟨ad,cp,rfl,ho,hb⟩;dsimp only at ho;dsimp only;have E1:=aa ((uh HL0).step hb);clear hb ho CO2 c33 HL0;go_upto_region 4 with fail
 refine aI (fun z=>Lay 182 w0 w1 B c s v1 v2 vs vt z∧z.heap[z1.heap.size]?=some (.cells #[.slice ad L.length cp,.int .i64 cd] 286)) ?_ ?_
 ·exact ⟨(uh E1).step ((zC z1.heap.size z1).alloc (zD _) _),zF z1 _⟩
 intro z2 hz2;generalize z1.heap.size=M at *;have E2:=aa hz2;obtain ⟨m0,m1⟩:=ey hz2.2;clear hz2 E1;go_wp2_with fail
 go_quiet (fail)
 go_wp2
 refine bodyPost_ret (v:=.tuple #[.int .i64 0,.int .i64 cd]) (by simp [results,results183,go_sem]) rfl ⟨(uh E2).1.step (aH (zC _ _) _),rfl⟩
theorem rc {w0 w1:World} {B:Nat} {c:Cx} {s:St} {v1 v2 vs vt:Value} {q:World} (h:Lay 182 w0 w1 B c s v1 v2 vs vt q) (hs:c.cd.size≤250) (hE:Et q) (hi:c.ci=s.e.id) (hk:aK s.e.m2 s.e.a2 s.e.g2=true) (h0:(ar c.cd).2=0) :
  Calls prog 183 #[.pointer (some ⟨B,0,none⟩)] q fun r q'=>Lay 182 w0 w1 B c { s with e:=ee s.e (if c.cc=3 then bF (gr s.e) (ar c.cd).1 else gI (gr s.e) (ar c.cd).1) } v1 v2 vs vt q'∧r=.returned (.tuple #[.int .i64 9,.int .i64 0]):=by
 have CO:=aa fun z (hz:Et z)=>dS c.cd z (by unfold maxLen;omega) hz
 have HE:=aa hE;have hr:=dd c.cd;have c32:=h.cell (i:=32) rfl;have c15:=h.cell (i:=15) rfl;have HL:=aa h;clear h hE hs;rw [hi] at c32;clear hi;generalize ar c.cd=OO at *;obtain ⟨L,cd⟩:=OO;dsimp only at h0 hr ⊢;subst h0;have CL:Hid (∀ (v:Value) (z:World),HoldsO z v L→Calls prog 200 #[.agg #[.int .i64 s.e.m2,.int .i64 s.e.a2,.int .i64 s.e.g2,.bool s.e.p2,.bool s.e.c2,.bool s.e.d2],v] z fun e w'=>e=.returned (.agg (dr (bF (gr s.e) L)))∧Below z.heap.size z w'):=aa fun v z hz=>by
  have:=qF (gr s.e) v L z (eF hk) hr hz
  rwa [fO hk] at this
 have CW:Hid (∀ (v:Value) (z:World),HoldsO z v L→Calls prog 201 #[.agg #[.int .i64 s.e.m2,.int .i64 s.e.a2,.int .i64 s.e.g2,.bool s.e.p2,.bool s.e.c2,.bool s.e.d2],v] z fun e w'=>e=.returned (.agg (dr (gI (gr s.e) L)))∧Below z.heap.size z w'):=aa fun v z hz=>by
  have:=lT (gr s.e) v L z (eF hk) hr hz
  rwa [fO hk] at this
 clear hk hr;obtain ⟨XX,hXX⟩:∃ XX,(if c.cc=3 then bF (gr s.e) L else gI (gr s.e) L)=XX:=⟨_,rfl⟩;rw [hXX];have HX:=aa hXX.symm;clear hXX;generalize bF (gr s.e) L=X1 at *;generalize gI (gr s.e) L=X2 at *;go_enter func183,ntmps183
 go_wp2_with fail
 go_quiet (fail)
 have hL0:=(uh HL).step (aH (zC q.heap.size q) nq);have hE0:=(uh HE).below (aH (zC q.heap.size q) nq) (uh HE).lt;generalize q.drewN nq=q0 at *;have c33:=hL0.cell (i:=33) rfl;have HL0:=aa hL0;have hB0:=hL0.lt;have CO2:=aa (uh CO q0 hE0);clear hL0 hE0 HE HL CO c32 c15;go_wp2_with fail
 refine (uh CO2).mono ?_;rintro e z1 ⟨ad,cp,rfl,ho,hb⟩;dsimp only at ho;dsimp only;have E1:=aa (zA ((uh HL0).step hb) (HoldsO.own ho));have hzB:B<z1.heap.size:=Nat.lt_of_lt_of_le hB0 hb.size;clear hb ho CO2 c33 HL0;go_upto_region 4 with fail
 refine aI (fun z=>Lay 182 w0 w1 B c s v1 v2 vs vt z∧z.heap[z1.heap.size]?=some (.cells #[.slice ad L.length cp,.int .i64 0] 286)∧HoldsO z (.slice ad L.length cp) L) ?_ ?_
 ·have hbA:=(zC z1.heap.size z1).alloc (zD _) (.cells #[.slice ad L.length cp,.int .i64 0] 286);exact ⟨(uh E1).1.step hbA,zF z1 _,(uh E1).2.below hbA rfl⟩
 intro z2 hz2;have hMB:¬ (z1.heap.size=B):=by omega
 generalize z1.heap.size=M at *;have E2:=aa hz2;obtain ⟨m0,m1⟩:=ey hz2.2.1;have k31:=hz2.1.cell (i:=31) rfl;clear hz2 E1;have SY:Hid (∀ y9:World,y9.heap[M]?=some (.cells #[.slice ad L.length cp,.int .i64 0] 286)→(y9.cell? ⟨M,0,none⟩=some (.slice ad L.length cp))):=aa fun y9 hm=>(ey hm).1
 replace CL:=aa fun z hz=>uh CL (.slice ad L.length cp) z hz
 replace CW:=aa fun z hz=>uh CW (.slice ad L.length cp) z hz
 have E4:Hid (Lay 182 w0 w1 B c s v1 v2 vs vt z2.drew∧z2.drew.heap[M]?=some (.cells #[.slice ad L.length cp,.int .i64 0] 286)∧HoldsO z2.drew (.slice ad L.length cp) L):=aa ⟨(uh E2).1.step (zC _ _).drew,(uh E2).2.1,(uh E2).2.2.below (zC _ _).drew rfl⟩;by_cases h3:c.cc=3
 ·rw [if_pos h3] at HX;have hb3:(c.cc == 3)=true:=by simpa using h3
  clear h3 CW;go_upto_region 7 with fail
  refine wp_region_held_drew (S:=fun y9=>y9.cell? ⟨M,0,none⟩=some (.slice ad L.length cp)) (by kernel_rfl) (uh SY _ (uh E4).2.1) (fun hHeld=>?_);generalize z2.drew=yy at E4 hHeld ⊢;clear E2 m0 m1 k31;refine tq 0 1 2 3 ?_;refine tt 4 6 ?_;refine t2 7 ?_;refine r3 5 fun K hK=>?_
  have k6:=(uh E4).1.cell (i:=6) rfl;have f6:=(uh E4).1.frz 6;have k7:=(uh E4).1.cell (i:=7) rfl;have f7:=(uh E4).1.frz 7;have k8:=(uh E4).1.cell (i:=8) rfl;have f8:=(uh E4).1.frz 8;have k9:=(uh E4).1.cell (i:=9) rfl;have f9:=(uh E4).1.frz 9;have k10:=(uh E4).1.cell (i:=10) rfl;have f10:=(uh E4).1.frz 10;have k11:=(uh E4).1.cell (i:=11) rfl;have f11:=(uh E4).1.frz 11;go_simp;clear k6 k7 k8 k9 k10 k11 f6 f7 f8 f9 f10 f11;refine ro hK (uh SY _ (uh E4).2.1) fun _=>?_
  clear hK K;refine r3 8 fun K hK=>?_
  go_simp;refine (uh CL _ (uh E4).2.2).mono ?_;rintro e z32 ⟨rfl,hb32⟩;have E32:=aa (zA ((uh E4).1.step hb32) (zA ((hb32.block _ (ge.1 (uh E4).2.1).1).trans (uh E4).2.1) ((uh E4).2.2.below hb32 rfl)));clear hb32;go_wp2_with fail
  refine ro hK (uh SY _ (uh E32).2.1) fun _=>?_
  clear hK K;refine tt 9 10 ?_;refine t2 11 ?_;refine r3 12 fun K hK=>?_
  have ZF:=aa ((uh E32).1.asks9 X1);have ZM:=aa ((gJ (fun e=>hMB (show M=B from e)) (.int .i64 X1.m) (.int .i64 X1.a) (.int .i64 X1.g) (.bool X1.p) (.bool X1.c) (.bool X1.d)).trans (uh E32).2.1);have k6:=(uh E32).1.cell (i:=6) rfl;have f6:=(uh E32).1.frz 6;have k7:=(uh E32).1.cell (i:=7) rfl;have f7:=(uh E32).1.frz 7;have k8:=(uh E32).1.cell (i:=8) rfl;have f8:=(uh E32).1.frz 8;have k9:=(uh E32).1.cell (i:=9) rfl;have f9:=(uh E32).1.frz 9;have k10:=(uh E32).1.cell (i:=10) rfl;have f10:=(uh E32).1.frz 10;have k11:=(uh E32).1.cell (i:=11) rfl;have f11:=(uh E32).1.frz 11;go_simp;clear k6 k7 k8 k9 k10 k11 f6 f7 f8 f9 f10 f11;refine ro hK (uh SY _ (uh ZM)) fun _=>?_
  clear hK K;refine dn ?_ _;go_upto_region 9 with fail
  refine aI (Lay 182 w0 w1 B c { s with e:=ee s.e X1 } v1 v2 vs vt) (uh ZF) ?_;intro z9 hz9;have E9:=aa hz9;clear hz9 ZF ZM;go_wp2
  refine bodyPost_ret (v:=.tuple #[.int .i64 9,.int .i64 0]) (by simp [results,results183,go_sem]) rfl ?_;refine ⟨?_,rfl⟩;rw [uh HX];exact uh E9
 ·rw [if_neg h3] at HX;have hb3:(c.cc == 3)=false:=by simpa using h3
  clear h3 CL;go_upto_region 8 with fail
  refine wp_region_held_drew (S:=fun y9=>y9.cell? ⟨M,0,none⟩=some (.slice ad L.length cp)) (by kernel_rfl) (uh SY _ (uh E4).2.1) (fun hHeld=>?_);generalize z2.drew=yy at E4 hHeld ⊢;clear E2 m0 m1 k31;refine tq 0 1 2 3 ?_;refine tt 4 6 ?_;refine t2 7 ?_;refine r3 5 fun K hK=>?_
  have k6:=(uh E4).1.cell (i:=6) rfl;have f6:=(uh E4).1.frz 6;have k7:=(uh E4).1.cell (i:=7) rfl;have f7:=(uh E4).1.frz 7;have k8:=(uh E4).1.cell (i:=8) rfl;have f8:=(uh E4).1.frz 8;have k9:=(uh E4).1.cell (i:=9) rfl;have f9:=(uh E4).1.frz 9;have k10:=(uh E4).1.cell (i:=10) rfl;have f10:=(uh E4).1.frz 10;have k11:=(uh E4).1.cell (i:=11) rfl;have f11:=(uh E4).1.frz 11;go_simp;clear k6 k7 k8 k9 k10 k11 f6 f7 f8 f9 f10 f11;refine ro hK (uh SY _ (uh E4).2.1) fun _=>?_
  clear hK K;refine r3 8 fun K hK=>?_
  go_simp;refine (uh CW _ (uh E4).2.2).mono ?_;rintro e z32 ⟨rfl,hb32⟩;have E32:=aa (zA ((uh E4).1.step hb32) (zA ((hb32.block _ (ge.1 (uh E4).2.1).1).trans (uh E4).2.1) ((uh E4).2.2.below hb32 rfl)));clear hb32;go_wp2_with fail
  refine ro hK (uh SY _ (uh E32).2.1) fun _=>?_
  clear hK K;refine tt 9 10 ?_;refine t2 11 ?_;refine r3 12 fun K hK=>?_
  have ZF:=aa ((uh E32).1.asks9 X2);have ZM:=aa ((gJ (fun e=>hMB (show M=B from e)) (.int .i64 X2.m) (.int .i64 X2.a) (.int .i64 X2.g) (.bool X2.p) (.bool X2.c) (.bool X2.d)).trans (uh E32).2.1);have k6:=(uh E32).1.cell (i:=6) rfl;have f6:=(uh E32).1.frz 6;have k7:=(uh E32).1.cell (i:=7) rfl;have f7:=(uh E32).1.frz 7;have k8:=(uh E32).1.cell (i:=8) rfl;have f8:=(uh E32).1.frz 8;have k9:=(uh E32).1.cell (i:=9) rfl;have f9:=(uh E32).1.frz 9;have k10:=(uh E32).1.cell (i:=10) rfl;have f10:=(uh E32).1.frz 10;have k11:=(uh E32).1.cell (i:=11) rfl;have f11:=(uh E32).1.frz 11;go_simp;clear k6 k7 k8 k9 k10 k11 f6 f7 f8 f9 f10 f11;refine ro hK (uh SY _ (uh ZM)) fun _=>?_
  clear hK K;refine dn ?_ _;go_upto_region 9 with fail
  refine aI (Lay 182 w0 w1 B c { s with e:=ee s.e X2 } v1 v2 vs vt) (uh ZF) ?_;intro z9 hz9;have E9:=aa hz9;clear hz9 ZF ZM;go_wp2
  refine bodyPost_ret (v:=.tuple #[.int .i64 9,.int .i64 0]) (by simp [results,results183,go_sem]) rfl ?_;refine ⟨?_,rfl⟩;rw [uh HX];exact uh E9
end Go.Proofs.YtjebigodbnefiaaGreatDoor
namespace Go.Proofs.YtjebigodbnefiaaGreatDoor
open Go.RowKit Go.Proofs.Tryz
theorem zj {x:Cf} (k:Int) (h:iv x=true):iv (lQ k x)=true:=by
 unfold iv aK at h ⊢;simp only [al,Bool.and_eq_true,decide_eq_true_eq] at h ⊢;unfold lQ;split
 ·dsimp only;omega
 split
 ·dsimp only;omega
 split
 ·dsimp only;omega
 split
 ·exact h
 split
 ·exact h
 split
 ·exact h
 ·exact h
theorem nf {x:Cf} (h:iv x=true) (F:List Op.Opt):iv (gI x F)=true:=by
 unfold gI;induction F generalizing x with
 | nil=>exact h
 | cons o F ih=>exact ih (zj _ h)
def xG (w0 w1:World) (B:Nat) (now:Int) (p:Op.Pk) (e:En) (F1 F2:List Op.Opt) (v1 v2:Value) (r:Ending) (q':World):Prop :=
 ∃ (c':Cx) (e':En) (k:Nat) (cd:Int),r=.returned (.tuple #[.int .i64 (k:Int),.int .i64 cd])∧Lay 182 w0 w1 B c' ⟨e',F1,F2,[],[]⟩ v1 v2 ai ai q' ∧
  (cd=0→aB now p e F1 F2=bj c' ⟨e',F1,F2,[],[]⟩ (im k)∧k<16∧Fit 0 c' ⟨e',F1,F2,[],[]⟩∧(k=6→c'.ac=2)∧(k=7→c'.ac≠2)∧e'.st=e.st)∧(cd≠0→aB now p e F1 F2=bA cd)
theorem xH {w0 w1:World} {B:Nat} {now:Int} {p:Op.Pk} {e:En} {F1 F2:List Op.Opt} {v1 v2:Value} {q:World} (h:Lay 182 w0 w1 B (aU now p [] (0,[]) ai ai) ⟨e,F1,F2,[],[]⟩ v1 v2 ai ai q) (hf:Fit 0 (bY now) ⟨e,F1,F2,[],[]⟩) (hp:Op.pok p=true) (hE:Et q) :
  Calls prog 160 #[.pointer (some ⟨B,0,none⟩)] q fun r q'=>xG w0 w1 B now p e F1 F2 v1 v2 r q':=by
 have hs:p.data.size≤250:=by
  have:=hp
  unfold Op.pok at this;exact (of_decide_eq_true this).2.2.2.2
 have hf2:Fit 0 (aU now p [] (0,[]) ai ai) ⟨e,F1,F2,[],[]⟩:=hf.came p hp rfl rfl _ _;have c31:q.cell? ⟨B,31,none⟩=some (.int .i64 p.code):=h.cell (i:=31) rfl;have HF:=aa (zA hf (zA hf2 hp));have HL:=aa h;clear hf hf2 hp;by_cases h1:p.code=1
 ·rw [h1] at c31;by_cases h0:(ar p.data).2=0
  ·have C:Hid (Calls prog 181 #[.pointer (some ⟨B,0,none⟩)] q fun r q'=>∃ vh va,Lay 182 w0 w1 B (aU now p (ar p.data).1 (eX e (ar p.data).1) vh va) ⟨e,F1,F2,[],[]⟩ v1 v2 ai ai q'∧r=.returned (.tuple #[.int .i64 (if (eX e (ar p.data).1).1=2 then 6 else 7),.int .i64 0])):=aa (sV h hs hE h0);clear h hE;have hfr:=fun vh va=>(uh HF).1.came p (uh HF).2.2 (eS hs) (kB e (eS hs)) vh va
   have HH:Hid (aB now p e F1 F2=bj (aU now p (ar p.data).1 (eX e (ar p.data).1) ai ai) ⟨e,F1,F2,[],[]⟩ (im (if (eX e (ar p.data).1).1=2 then 6 else 7))):=aa (by unfold aB;rw [if_pos h1,if_pos h0]);have HF2:=aa hfr;clear hfr h0 h1 hs;by_cases ha:(eX e (ar p.data).1).1=2
   ·rw [if_pos ha] at C HH;have HA:=aa ha;clear ha;go_enter func160,ntmps160
    go_wp2_with fail
    refine (uh C).mono ?_;rintro r z1 ⟨vh,va,hl,rfl⟩;have H1:=aa hl;clear hl C;go_wp2
    refine bodyPost_ret (v:=.tuple #[.int .i64 6,.int .i64 0]) (by simp [results,results160,go_sem]) rfl ?_;exact ⟨_,_,6,0,rfl,uh H1,fun _=>⟨uh HH,by decide,uh HF2 vh va,fun _=>uh HA,fun h=>absurd h (by decide),rfl⟩,fun h=>absurd rfl h⟩
   ·rw [if_neg ha] at C HH;have HA:=aa ha;clear ha;go_enter func160,ntmps160
    go_wp2_with fail
    refine (uh C).mono ?_;rintro r z1 ⟨vh,va,hl,rfl⟩;have H1:=aa hl;clear hl C;go_wp2
    refine bodyPost_ret (v:=.tuple #[.int .i64 7,.int .i64 0]) (by simp [results,results160,go_sem]) rfl ?_;exact ⟨_,_,7,0,rfl,uh H1,fun _=>⟨uh HH,by decide,uh HF2 vh va,fun h=>absurd h (by decide),fun _=>uh HA,rfl⟩,fun h=>absurd rfl h⟩
  ·have C:Hid (Calls prog 181 #[.pointer (some ⟨B,0,none⟩)] q fun r q'=>Lay 182 w0 w1 B (aU now p [] (0,[]) ai ai) ⟨e,F1,F2,[],[]⟩ v1 v2 ai ai q'∧r=.returned (.tuple #[.int .i64 0,.int .i64 (ar p.data).2])):=aa (zi h hs hE h0);have HH:Hid (aB now p e F1 F2=bA (ar p.data).2):=aa (by unfold aB;rw [if_pos h1,if_neg h0]);have HZ:=aa h0;clear h hE h0 h1 hs;go_enter func160,ntmps160
   go_wp2_with fail
   refine (uh C).mono ?_;rintro r z1 ⟨hl,rfl⟩;have H1:=aa hl;clear hl C;go_wp2
   refine bodyPost_ret (v:=.tuple #[.int .i64 0,.int .i64 (ar p.data).2]) (by simp [results,results160,go_sem]) rfl ?_;exact ⟨_,_,0,_,rfl,uh H1,fun h=>absurd h (uh HZ),fun _=>uh HH⟩
 by_cases h2:p.code=2
 ·rw [h2] at c31;have C:=aa (qz h (uh HF).2.1);clear h hE hs;by_cases ha:p.id=e.id∧p.data=co (Op.bytes F1)
  ·have HH:Hid (aB now p e F1 F2=bj (aU now p [] (0,[]) ai ai) ⟨e,F1,F2,[],[]⟩ (im 8)):=aa (by unfold aB;rw [if_neg h1,if_pos h2,if_pos ha]);have ha2:(aU now p [] (0,[]) ai ai).ci=e.id∧(aU now p [] (0,[]) ai ai).cd=co (Op.bytes F1):=ha;rw [if_pos ha2,if_pos ha2] at C;clear ha ha2 h1 h2;go_enter func160,ntmps160
   go_wp2_with fail
   refine (uh C).mono ?_;rintro r z1 ⟨hl,rfl⟩;have H1:=aa hl;clear hl C;go_wp2
   refine bodyPost_ret (v:=.tuple #[.int .i64 8,.int .i64 0]) (by simp [results,results160,go_sem]) rfl ?_;exact ⟨_,_,8,0,rfl,uh H1,fun _=>⟨uh HH,by decide,(uh HF).2.1,fun h=>absurd h (by decide),fun h=>absurd h (by decide),rfl⟩,fun h=>absurd rfl h⟩
  ·have HH:Hid (aB now p e F1 F2=bA 8):=aa (by unfold aB;rw [if_neg h1,if_pos h2,if_neg ha]);have ha2:¬ ((aU now p [] (0,[]) ai ai).ci=e.id∧(aU now p [] (0,[]) ai ai).cd=co (Op.bytes F1)):=ha;rw [if_neg ha2,if_neg ha2] at C;clear ha ha2 h1 h2;go_enter func160,ntmps160
   go_wp2_with fail
   refine (uh C).mono ?_;rintro r z1 ⟨hl,rfl⟩;have H1:=aa hl;clear hl C;go_wp2
   refine bodyPost_ret (v:=.tuple #[.int .i64 0,.int .i64 8]) (by simp [results,results160,go_sem]) rfl ?_;exact ⟨_,_,0,8,rfl,uh H1,fun h=>absurd h (by decide),fun _=>uh HH⟩
 by_cases h3:p.code=3
 ·rw [h3] at c31;by_cases hi:p.id=e.id
  ·by_cases h0:(ar p.data).2=0
   ·have C:=aa (rc h hs hE hi (uh HF).1.ask h0);have HH:Hid (aB now p e F1 F2=bj (aU now p [] (0,[]) ai ai) ⟨ee e (bF (gr e) (ar p.data).1),F1,F2,[],[]⟩ (im 9)):=aa (by unfold aB;rw [if_neg h1,if_neg h2,if_pos (Or.inl h3),if_pos hi,if_pos h0,if_pos h3]);have e9:(aU now p [] (0,[]) ai ai).cc=p.code:=rfl;rw [e9,if_pos h3] at C;have HO:Hid (Fit 0 (aU now p [] (0,[]) ai ai) ⟨ee e (bF (gr e) (ar p.data).1),F1,F2,[],[]⟩):=aa ((uh HF).2.1.asks (gK (eF (uh HF).1.ask) _));clear h hE hs h0 hi h1 h2 h3 e9;go_enter func160,ntmps160
    go_wp2_with fail
    refine (uh C).mono ?_;rintro r z1 ⟨hl,rfl⟩;have H1:=aa hl;clear hl C;go_wp2
    refine bodyPost_ret (v:=.tuple #[.int .i64 9,.int .i64 0]) (by simp [results,results160,go_sem]) rfl ?_;exact ⟨_,_,9,0,rfl,uh H1,fun _=>⟨uh HH,by decide,uh HO,fun h=>absurd h (by decide),fun h=>absurd h (by decide),rfl⟩,fun h=>absurd rfl h⟩
   ·have C:Hid (Calls prog 183 #[.pointer (some ⟨B,0,none⟩)] q fun r q'=>Lay 182 w0 w1 B (aU now p [] (0,[]) ai ai) ⟨e,F1,F2,[],[]⟩ v1 v2 ai ai q'∧r=.returned (.tuple #[.int .i64 0,.int .i64 (ar p.data).2])):=aa (qH h hs hE hi h0);have HH:Hid (aB now p e F1 F2=bA (ar p.data).2):=aa (by unfold aB;rw [if_neg h1,if_neg h2,if_pos (Or.inl h3),if_pos hi,if_neg h0]);have HZ:=aa h0;clear h hE hs h0 hi h1 h2 h3;go_enter func160,ntmps160
    go_wp2_with fail
    refine (uh C).mono ?_;rintro r z1 ⟨hl,rfl⟩;have H1:=aa hl;clear hl C;go_wp2
    refine bodyPost_ret (v:=.tuple #[.int .i64 0,.int .i64 (ar p.data).2]) (by simp [results,results160,go_sem]) rfl ?_;exact ⟨_,_,0,_,rfl,uh H1,fun h=>absurd h (uh HZ),fun _=>uh HH⟩
  ·have C:=aa (qG h hi);have HH:Hid (aB now p e F1 F2=bA 8):=aa (by unfold aB;rw [if_neg h1,if_neg h2,if_pos (Or.inl h3),if_neg hi]);clear h hE hs hi h1 h2 h3;go_enter func160,ntmps160
   go_wp2_with fail
   refine (uh C).mono ?_;rintro r z1 ⟨hl,rfl⟩;have H1:=aa hl;clear hl C;go_wp2
   refine bodyPost_ret (v:=.tuple #[.int .i64 0,.int .i64 8]) (by simp [results,results160,go_sem]) rfl ?_;exact ⟨_,_,0,8,rfl,uh H1,fun h=>absurd h (by decide),fun _=>uh HH⟩
 by_cases h4:p.code=4
 ·rw [h4] at c31;by_cases hi:p.id=e.id
  ·by_cases h0:(ar p.data).2=0
   ·have C:=aa (rc h hs hE hi (uh HF).1.ask h0);have HH:Hid (aB now p e F1 F2=bj (aU now p [] (0,[]) ai ai) ⟨ee e (gI (gr e) (ar p.data).1),F1,F2,[],[]⟩ (im 9)):=aa (by unfold aB;rw [if_neg h1,if_neg h2,if_pos (Or.inr h4),if_pos hi,if_pos h0,if_neg h3]);have e9:(aU now p [] (0,[]) ai ai).cc=p.code:=rfl;rw [e9,if_neg h3] at C;have HO:Hid (Fit 0 (aU now p [] (0,[]) ai ai) ⟨ee e (gI (gr e) (ar p.data).1),F1,F2,[],[]⟩):=aa ((uh HF).2.1.asks (nf (eF (uh HF).1.ask) _));clear h hE hs h0 hi h1 h2 h3 h4 e9;go_enter func160,ntmps160
    go_wp2_with fail
    refine (uh C).mono ?_;rintro r z1 ⟨hl,rfl⟩;have H1:=aa hl;clear hl C;go_wp2
    refine bodyPost_ret (v:=.tuple #[.int .i64 9,.int .i64 0]) (by simp [results,results160,go_sem]) rfl ?_;exact ⟨_,_,9,0,rfl,uh H1,fun _=>⟨uh HH,by decide,uh HO,fun h=>absurd h (by decide),fun h=>absurd h (by decide),rfl⟩,fun h=>absurd rfl h⟩
   ·have C:Hid (Calls prog 183 #[.pointer (some ⟨B,0,none⟩)] q fun r q'=>Lay 182 w0 w1 B (aU now p [] (0,[]) ai ai) ⟨e,F1,F2,[],[]⟩ v1 v2 ai ai q'∧r=.returned (.tuple #[.int .i64 0,.int .i64 (ar p.data).2])):=aa (qH h hs hE hi h0);have HH:Hid (aB now p e F1 F2=bA (ar p.data).2):=aa (by unfold aB;rw [if_neg h1,if_neg h2,if_pos (Or.inr h4),if_pos hi,if_neg h0]);have HZ:=aa h0;clear h hE hs h0 hi h1 h2 h3 h4;go_enter func160,ntmps160
    go_wp2_with fail
    refine (uh C).mono ?_;rintro r z1 ⟨hl,rfl⟩;have H1:=aa hl;clear hl C;go_wp2
    refine bodyPost_ret (v:=.tuple #[.int .i64 0,.int .i64 (ar p.data).2]) (by simp [results,results160,go_sem]) rfl ?_;exact ⟨_,_,0,_,rfl,uh H1,fun h=>absurd h (uh HZ),fun _=>uh HH⟩
  ·have C:=aa (qG h hi);have HH:Hid (aB now p e F1 F2=bA 8):=aa (by unfold aB;rw [if_neg h1,if_neg h2,if_pos (Or.inr h4),if_neg hi]);clear h hE hs hi h1 h2 h3 h4;go_enter func160,ntmps160
   go_wp2_with fail
   refine (uh C).mono ?_;rintro r z1 ⟨hl,rfl⟩;have H1:=aa hl;clear hl C;go_wp2
   refine bodyPost_ret (v:=.tuple #[.int .i64 0,.int .i64 8]) (by simp [results,results160,go_sem]) rfl ?_;exact ⟨_,_,0,8,rfl,uh H1,fun h=>absurd h (by decide),fun _=>uh HH⟩
 have h34:¬ (p.code=3∨p.code=4):=fun h=>h.elim h3 h4
 by_cases h5:p.code=5
 ·rw [h5] at c31;have HH:Hid (aB now p e F1 F2=bj (aU now p [] (0,[]) ai ai) ⟨e,F1,F2,[],[]⟩ (im 10)):=aa (by unfold aB;rw [if_neg h1,if_neg h2,if_neg h34,if_neg (fun h=>absurd (h5.symm.trans h.1) (by decide)),if_pos h5]);clear h hE hs;go_enter func160,ntmps160
  go_wp2
  refine bodyPost_ret (v:=.tuple #[.int .i64 10,.int .i64 0]) (by simp [results,results160,go_sem]) rfl ?_;exact ⟨_,_,10,0,rfl,uh HL,fun _=>⟨uh HH,by decide,(uh HF).2.1,fun h=>absurd h (by decide),fun h=>absurd h (by decide),rfl⟩,fun h=>absurd rfl h⟩
 by_cases h6:p.code=6
 ·rw [h6] at c31;have HH:Hid (aB now p e F1 F2=bj (aU now p [] (0,[]) ai ai) ⟨e,F1,F2,[],[]⟩ (im 11)):=aa (by unfold aB;rw [if_neg h1,if_neg h2,if_neg h34,if_neg (fun h=>absurd (h6.symm.trans h.1) (by decide)),if_neg h5,if_pos h6]);clear h hE hs;go_enter func160,ntmps160
  go_wp2
  refine bodyPost_ret (v:=.tuple #[.int .i64 11,.int .i64 0]) (by simp [results,results160,go_sem]) rfl ?_;exact ⟨_,_,11,0,rfl,uh HL,fun _=>⟨uh HH,by decide,(uh HF).2.1,fun h=>absurd h (by decide),fun h=>absurd h (by decide),rfl⟩,fun h=>absurd rfl h⟩
 by_cases h7:p.code=7
 ·rw [h7] at c31;have C:=aa (xF h hs);have e9:(aU now p [] (0,[]) ai ai).cd=p.data:=rfl;rw [e9] at C;clear h hE hs e9;by_cases hz:p.data.size=0
  ·have HH:Hid (aB now p e F1 F2=bA 4):=aa (by unfold aB;rw [if_neg h1,if_neg h2,if_neg h34,if_pos ⟨h7,hz⟩]);rw [if_pos hz,if_pos hz] at C;clear hz h1 h2 h3 h4 h34 h5 h6 h7;go_enter func160,ntmps160
   go_wp2_with fail
   refine (uh C).mono ?_;rintro r z1 ⟨hw,rfl⟩;replace hw:=hw.symm;subst hw;clear C;go_wp2
   refine bodyPost_ret (v:=.tuple #[.int .i64 0,.int .i64 4]) (by simp [results,results160,go_sem]) rfl ?_;exact ⟨_,_,0,4,rfl,uh HL,fun h=>absurd h (by decide),fun _=>uh HH⟩
  ·rw [if_neg hz,if_neg hz] at C;by_cases hh:f_ p.data=true
   ·have HH:Hid (aB now p e F1 F2=bj (aU now p [] (0,[]) ai ai) ⟨e,F1,F2,[],[]⟩ (im 14)):=aa (by unfold aB;rw [if_neg h1,if_neg h2,if_neg h34,if_neg (fun h=>hz h.2),if_neg h5,if_neg h6,if_pos h7,if_pos hh]);rw [if_pos hh] at C;clear hz hh h1 h2 h3 h4 h34 h5 h6 h7;go_enter func160,ntmps160
    go_wp2_with fail
    refine (uh C).mono ?_;rintro r z1 ⟨hw,rfl⟩;replace hw:=hw.symm;subst hw;clear C;go_wp2
    refine bodyPost_ret (v:=.tuple #[.int .i64 14,.int .i64 0]) (by simp [results,results160,go_sem]) rfl ?_;exact ⟨_,_,14,0,rfl,uh HL,fun _=>⟨uh HH,by decide,(uh HF).2.1,fun h=>absurd h (by decide),fun h=>absurd h (by decide),rfl⟩,fun h=>absurd rfl h⟩
   ·have HH:Hid (aB now p e F1 F2=bj (aU now p [] (0,[]) ai ai) ⟨e,F1,F2,[],[]⟩ (im 13)):=aa (by unfold aB;rw [if_neg h1,if_neg h2,if_neg h34,if_neg (fun h=>hz h.2),if_neg h5,if_neg h6,if_pos h7,if_neg hh]);rw [if_neg hh] at C;clear hz hh h1 h2 h3 h4 h34 h5 h6 h7;go_enter func160,ntmps160
    go_wp2_with fail
    refine (uh C).mono ?_;rintro r z1 ⟨hw,rfl⟩;replace hw:=hw.symm;subst hw;clear C;go_wp2
    refine bodyPost_ret (v:=.tuple #[.int .i64 13,.int .i64 0]) (by simp [results,results160,go_sem]) rfl ?_;exact ⟨_,_,13,0,rfl,uh HL,fun _=>⟨uh HH,by decide,(uh HF).2.1,fun h=>absurd h (by decide),fun h=>absurd h (by decide),rfl⟩,fun h=>absurd rfl h⟩
 by_cases h9:p.code=9
 ·rw [h9] at c31;have HH:Hid (aB now p e F1 F2=bj (aU now p [] (0,[]) ai ai) ⟨e,F1,F2,[],[]⟩ (im 15)):=aa (by unfold aB;rw [if_neg h1,if_neg h2,if_neg h34,if_neg (fun h=>absurd (h9.symm.trans h.1) (by decide)),if_neg h5,if_neg h6,if_neg h7,if_pos (Or.inl h9)]);clear h hE hs;go_enter func160,ntmps160
  go_wp2
  refine bodyPost_ret (v:=.tuple #[.int .i64 15,.int .i64 0]) (by simp [results,results160,go_sem]) rfl ?_;exact ⟨_,_,15,0,rfl,uh HL,fun _=>⟨uh HH,by decide,(uh HF).2.1,fun h=>absurd h (by decide),fun h=>absurd h (by decide),rfl⟩,fun h=>absurd rfl h⟩
 by_cases h10:p.code=10
 ·rw [h10] at c31;have HH:Hid (aB now p e F1 F2=bj (aU now p [] (0,[]) ai ai) ⟨e,F1,F2,[],[]⟩ (im 15)):=aa (by unfold aB;rw [if_neg h1,if_neg h2,if_neg h34,if_neg (fun h=>absurd (h10.symm.trans h.1) (by decide)),if_neg h5,if_neg h6,if_neg h7,if_pos (Or.inr (Or.inl h10))]);clear h hE hs;go_enter func160,ntmps160
  go_wp2
  refine bodyPost_ret (v:=.tuple #[.int .i64 15,.int .i64 0]) (by simp [results,results160,go_sem]) rfl ?_;exact ⟨_,_,15,0,rfl,uh HL,fun _=>⟨uh HH,by decide,(uh HF).2.1,fun h=>absurd h (by decide),fun h=>absurd h (by decide),rfl⟩,fun h=>absurd rfl h⟩
 by_cases h11:p.code=11
 ·rw [h11] at c31;have HH:Hid (aB now p e F1 F2=bj (aU now p [] (0,[]) ai ai) ⟨e,F1,F2,[],[]⟩ (im 15)):=aa (by unfold aB;rw [if_neg h1,if_neg h2,if_neg h34,if_neg (fun h=>absurd (h11.symm.trans h.1) (by decide)),if_neg h5,if_neg h6,if_neg h7,if_pos (Or.inr (Or.inr h11))]);clear h hE hs;go_enter func160,ntmps160
  go_wp2
  refine bodyPost_ret (v:=.tuple #[.int .i64 15,.int .i64 0]) (by simp [results,results160,go_sem]) rfl ?_;exact ⟨_,_,15,0,rfl,uh HL,fun _=>⟨uh HH,by decide,(uh HF).2.1,fun h=>absurd h (by decide),fun h=>absurd h (by decide),rfl⟩,fun h=>absurd rfl h⟩
 have HH:Hid (aB now p e F1 F2=bj (aU now p [] (0,[]) ai ai) ⟨e,F1,F2,[],[]⟩ (im 12)):=aa (by unfold aB;rw [if_neg h1,if_neg h2,if_neg h34,if_neg (fun h=>h7 h.1),if_neg h5,if_neg h6,if_neg h7,if_neg (fun h=>h.elim h9 (fun h=>h.elim h10 h11))]);have b1:(p.code == 1)=false:=beq_eq_false_iff_ne.2 h1;have b2:(p.code == 2)=false:=beq_eq_false_iff_ne.2 h2;have b3:(p.code == 3)=false:=beq_eq_false_iff_ne.2 h3;have b4:(p.code == 4)=false:=beq_eq_false_iff_ne.2 h4;have b5:(p.code == 5)=false:=beq_eq_false_iff_ne.2 h5;have b6:(p.code == 6)=false:=beq_eq_false_iff_ne.2 h6;have b7:(p.code == 7)=false:=beq_eq_false_iff_ne.2 h7;have b9:(p.code == 9)=false:=beq_eq_false_iff_ne.2 h9;have b10:(p.code == 10)=false:=beq_eq_false_iff_ne.2 h10;have b11:(p.code == 11)=false:=beq_eq_false_iff_ne.2 h11;clear h hE hs h1 h2 h3 h4 h34 h5 h6 h7 h9 h10 h11;go_enter func160,ntmps160
 go_wp2
 refine bodyPost_ret (v:=.tuple #[.int .i64 12,.int .i64 0]) (by simp [results,results160,go_sem]) rfl ?_;exact ⟨_,_,12,0,rfl,uh HL,fun _=>⟨uh HH,by decide,(uh HF).2.1,fun h=>absurd h (by decide),fun h=>absurd h (by decide),rfl⟩,fun h=>absurd rfl h⟩
end Go.Proofs.YtjebigodbnefiaaGreatDoor
namespace Go.Proofs.YtjebigodbnefiaaGreatDoor
open Go.RowKit Go.Proofs.Tryz
end Go.Proofs.YtjebigodbnefiaaGreatDoor
