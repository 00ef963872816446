/- Verd VerdOf WkB WkM EndNw -/
import Derived.Test.YtjdgiimfpkideaaGreatDoorS03
import Derived.Test.YtjdgiimfpkideaaGreatDoorCln
import Derived.Test.YtjdgiimfpkideaaGreatDoorS06
set_option maxHeartbeats 4000000
set_option maxRecDepth 100000
namespace Go.Proofs.YtjdgiimfpkideaaGreatDoor
open Go.RowKit Go.Proofs.Tryz
variable {w q W w' q2:World} {R C O cs:Array Value} {E B base size n:Nat} {x0 x1 x2 v:Value} {T e:TypeId} {xs:List Value}
theorem pM(t:ByteArray)(w:World)(ht:t.size<=20):Calls prog 144 #[t] w fun e w'=>e=.returned (.string t)/\Below w w w':=by
 have C:=aa (Any.stringslite_Clone Tryz.laysCln t w (by omega));go_enter func144,ntmps144
 go_wp2_with fail
 refine C.out.mono ?_;rintro e w1⟨rfl,hb⟩;go_wp2
 go_ret
 exact⟨rfl,hb⟩
theorem iB(k:Int)(t:ByteArray)(w:World)(ht:t.size<=20):Calls prog 133 #[.agg #[k,t]] w fun e w'=>e=.returned (.agg #[k,t])/\Below w w w':=by
 obtain⟨hs,q0,q1,hb0⟩:=br w (.cells #[k,t] 105) (.cells #[(0:Int),.string ⟨#[]⟩] 105);have HQ:=aa (zA hs (zA q0 (zA q1 hb0)));have C:=aa fun v=>pM t v ht
 clear hs q0 q1 hb0;go_enter func133,ntmps133
 go_wp2_with fail
 refine bb (fun q=>q.heap.size=w.heap.size+1+1/\q.heap[w.heap.size]?=some (.cells #[k,t] 105)/\q.heap[w.heap.size+1]?=some (.cells #[(0:Int),.string ⟨#[]⟩] 105)/\Below w w q) HQ.out ?_;rintro q⟨hs,h0,h1,hb⟩;obtain⟨c0,c1,_,_⟩:=av h0;have HH:=aa (zA hs (zA h0 (zA h1 hb)));clear hs h0 h1 hb HQ
 go_region_with (first
  | (go_at_call 144;refine(uh C _).mono ?_;rintro e w3⟨rfl,hb3⟩
     have hz:q.heap.size=w.heap.size+1+1:=HH.out.1;have hr3:=(hb3.block w (by show w.heap.size<q.heap.size;omega)).trans HH.out.2.1;have ho3:=(hb3.block (w.heap.size+1) (by show w.heap.size+1<q.heap.size;omega)).trans HH.out.2.2.1;obtain⟨k0,k1,_,_⟩:=av hr3;obtain⟨o0,o1,p0,p1⟩:=av ho3;have hbb:Below w w w3:=HH.out.2.2.2.trans ((show Below q q w3 from⟨hb3.os,hb3.tape,hb3.output,hb3.size,hb3.block⟩).mono (by omega));have HX:=aa (zA ho3 hbb);clear hr3 ho3 hb3 hbb hz))
 all_goals
  go_wp2
  refine bodyPost_ret (v:=.agg #[k,t]) (by simp[results,results133,asAddr,jO (aM HX.out.1 k t)]) rfl ⟨rfl,?_⟩;exact(HX.out.2.setCell (p:=(w.heap.size+1,0)) (Nat.le_succ _) _).setCell (p:=(w.heap.size+1,1)) (Nat.le_succ _) _
structure JudR(m a g:Nat)(p c d:Bool)(k:Int)(s f f2 f3 f4 f5 j:Nat)(cd:Nat->Int)(bt:Nat->Nat)(tx:Nat->ByteArray):Prop where
 fd:Instr.findNow (.int .i64) k cI.toList 0=some (some (j,aZ s f f2 f3 f4 f5))
 cf:∀args W,(callFunc f2 args).run prog W=.ok (.enter f2 args) W
 jd:∀(n:Nat) v,n<4294967296->Calls prog f2 #[cN m a g p c d,n] v fun e w'=>e=.returned (.tuple #[.int .i64 (cd n),.int .i64 (bt n:Nat)])/\Below v v w'
 nb:∀(n:Nat) v,Calls prog 218 #[.int .i64 (bt n:Nat),s] v fun e w'=>e=.returned (.string (tx n))/\Below v v w'
theorem sg(w:World)(a b c d:Obj):((((w.alloc a).alloc b).alloc c).alloc d).heap.size=w.heap.size+1+1+1+1/\((((w.alloc a).alloc b).alloc c).alloc d).heap[w.heap.size]?=some a/\((((w.alloc a).alloc b).alloc c).alloc d).heap[w.heap.size+1]?=some b /\
  ((((w.alloc a).alloc b).alloc c).alloc d).heap[w.heap.size+1+1]?=some c/\((((w.alloc a).alloc b).alloc c).alloc d).heap[w.heap.size+1+1+1]?=some d/\Below w w ((((w.alloc a).alloc b).alloc c).alloc d):=by
 have s1:(w.alloc a).heap.size=w.heap.size+1:=by simp
 have s2:((w.alloc a).alloc b).heap.size=w.heap.size+1+1:=by simp
 have s3:(((w.alloc a).alloc b).alloc c).heap.size=w.heap.size+1+1+1:=by simp
 have e1:=zF w a;have e2:=zF (w.alloc a) b;have e3:=zF ((w.alloc a).alloc b) c;have e4:=zF (((w.alloc a).alloc b).alloc c) d;rw[s1]at e2;rw[s2]at e3;rw[s3]at e4;refine⟨by simp,?_,?_,?_,e4,((((zC _ _).alloc (zD _) _).alloc (by omega) _).alloc (by omega) _).alloc (by omega) _⟩
 .rw [zG _ _ _ (by omega),zG _ _ _ (by omega),zG _ _ _ (by omega)];exact e1
 .rw [zG _ _ _ (by omega),zG _ _ _ (by omega)];exact e2
 .rw [zG _ _ _ (by omega)];exact e3
structure VdS(w:World)(R C O V:Array Value)(q:World):Prop where
 r:q.heap[w.heap.size]?=some (.cells R 191)
 c:q.heap[w.heap.size+1]?=some (.cells C 24)
 o:q.heap[w.heap.size+1+1]?=some (.cells O 105)
 v:q.heap[w.heap.size+1+1+1]?=some (.cells V 264)
 b:Below w w q
theorem VdS.lt{V:Array Value}(h:VdS w R C O V q):w.heap.size+1+1+1<q.heap.size:=(ge.1 h.v).1
theorem VdS.step{V:Array Value}{q':World}(h:VdS w R C O V q)(hb:Below q q q'):VdS w R C O V q':=by
 have hl:=h.lt;exact⟨(hb.block _ (by omega)).trans h.r,(hb.block _ (by omega)).trans h.c,(hb.block _ (by omega)).trans h.o,(hb.block _ (by omega)).trans h.v,h.b.trans (hb.mono h.b.size)⟩
theorem VdS.drew{V:Array Value}(h:VdS w R C O V q):VdS w R C O V q.drew:=⟨h.r,h.c,h.o,h.v,h.b.drew⟩
theorem wv:(prog.info? 264).map (·.size)=some 3:=by kernel_rfl
theorem nG(h:W.heap[E]?=some (.cells #[x0,x1,x2] 264)):(loadVar 264 (E,0)).run prog W=.ok (.agg #[x0,x1,x2]) W :=
 run_loadVar_row (P:=prog) _ _ 264 264 #[x0,x1,x2] (0,0) _ h underlying264 rfl wv
theorem nH{z0 z1 z2:Value}(h:W.heap[E]?=some (.cells #[z0,z1,z2] T))(x0 x1 x2:Value):(((W.setCell (E,0) x0).setCell (E,1) x1).setCell (E,2) x2).heap[E]?=some (.cells #[x0,x1,x2] T) :=
 zH _ _ 2 _ _ x2 (zH _ _ 1 _ _ x1 (zH _ _ 0 _ _ x0 h))
theorem jj(h:w.heap[B]?=some (.cells #[x0,x1,x2] T)):w.cell? (B,0)=some x0/\w.cell? (B,1)=some x1/\w.cell? (B,2)=some x2/\w.frozen? (B,0)=false/\w.frozen? (B,1)=false/\w.frozen? (B,2)=false :=
 ⟨cv h,cv h,cv h,aX h _,aX h _,aX h _⟩
theorem uK(m a g:Nat)(p c d:Bool)(k:Int)(t:ByteArray)(s f f2 f3 f4 f5 j:Nat)(cd:Nat->Int)(bt:Nat->Nat)(tx:Nat->ByteArray)(w:World)(hJ:JudR m a g p c d k s f f2 f3 f4 f5 j cd bt tx)(ht:t.size<=4):Calls prog 209 #[aZ s f f2 f3 f4 f5,cN m a g p c d,.agg #[k,t]] w fun e w' =>
   e=.returned (.agg #[.int .i64 (cd (da t.data.toList)),k,.string (if cd (da t.data.toList)==3 then tx (da t.data.toList)else t)])/\Below w w w':=by
 have HN:=aa fun v=>i7 k t v ht
 have hn:=eM t.data.toList (by rw[bC];exact ht);generalize da t.data.toList=n at*;have HJ:=aa fun v=>hJ.jd n v hn
 have HB:=aa fun v=>hJ.nb n v
 have HC:=aa fun v=>iB k t v (by omega)
 have hcf:=hJ.cf;clear hJ hn;generalize cd n=x at*;generalize bt n=y at*;generalize tx n=z at*;obtain⟨hzz,q0,q1,q2,q3,hb0⟩:=sg w (.cells #[s,cY f,cY f2,cY f3,cY f4,cY f5] 191) (.cells #[m,a,g,p,c,d] 24) (.cells #[k,t] 105) (.cells #[(0:Int),(0:Int),.string ⟨#[]⟩] 264);have HQ:=aa (VdS.mk q0 q1 q2 q3 hb0);clear q0 q1 q2 q3 hb0 hzz;go_enter func209,ntmps209
 go_wp2_with fail
 refine bb _ HQ.out ?_;clear HQ;rintro q hq;obtain⟨r0,r1,r2,r3,r4,r5⟩:=aJ hq.r;obtain⟨c0,c1,c2,c3,c4,c5⟩:=aJ hq.c;obtain⟨o0,o1,_,_⟩:=av hq.o;have HH:=aa hq;clear hq;go_cut [7,8] (fun u v wx=>u=.int .i64 x/\v=.int .i64 y/\VdS w #[s,cY f,cY f2,cY f3,cY f4,cY f5] #[m,a,g,p,c,d] #[k,t] #[(0:Int),(0:Int),.string ⟨#[]⟩] wx)
 case first =>
  go_region_held3 (fun z=>z.cell? (w,2)=some (cY f2)/\z.cell? (w.heap.size+1,0)=some (.int .i64 m)/\z.cell? (w.heap.size+1,1)=some (.int .i64 a)/\z.cell? (w.heap.size+1,2)=some (.int .i64 g)/\z.cell? (w.heap.size+1,3)=some (.bool p)/\z.cell? (w.heap.size+1,4)=some (.bool c)/\z.cell? (w.heap.size+1,5)=some (.bool d)/\z.cell? ⟨w.heap.size+1+1,0,none⟩=some (.int .i64 k)/\z.cell? ⟨w.heap.size+1+1,1,none⟩=some (t:V))
   (first|(exact uh K3)|(exact uh K4)|go_keep)
   (first
   | (go_at_call 143;refine(uh HN _).mono ?_;rintro e w3⟨rfl,hb3⟩
      have h3:=HH.out.drew.step hb3;obtain⟨_,_,r2,_,_,_⟩:=aJ h3.r;obtain⟨c0,c1,c2,c3,c4,c5⟩:=aJ h3.c;obtain⟨o0,o1,_,_⟩:=av h3.o;have K3:=aa (zA r2 (zA c0 (zA c1 (zA c2 (zA c3 (zA c4 (zA c5 (zA o0 o1))))))));have H3:=aa h3;clear h3 hb3 r2 c0 c1 c2 c3 c4 c5 o0 o1)
   | (refine(uh HJ _).mono ?_;rintro e w4⟨rfl,hb4⟩
      have h4:=H3.out.step hb4;obtain⟨_,_,r2,_,_,_⟩:=aJ h4.r;obtain⟨c0,c1,c2,c3,c4,c5⟩:=aJ h4.c;obtain⟨o0,o1,_,_⟩:=av h4.o;have K4:=aa (zA r2 (zA c0 (zA c1 (zA c2 (zA c3 (zA c4 (zA c5 (zA o0 o1))))))));have H4:=aa h4;clear h4 hb4 r2 c0 c1 c2 c3 c4 c5 o0 o1))
  all_goals
   go_wp2_with fail
   go_meet;exact⟨rfl,rfl,uh H4⟩
 case rest =>
  obtain⟨hu,hv,hq⟩:=hcut;subst hu hv;clear HH HN HJ hcf r0 r1 r2 r3 r4 r5 c0 c1 c2 c3 c4 c5 o0 o1;obtain⟨r0,_,_,_,_,_⟩:=aJ hq.r;obtain⟨o0,o1,_,_⟩:=av hq.o;obtain⟨v0,v1,v2,_,_,_⟩:=jj hq.v;have HH:=aa hq;clear hq;cases hx:(x==(3:Int))
  .clear HB;go_wp2_with fail
   refine(uh HC _).mono ?_;rintro e w3⟨rfl,hb3⟩;have h3:=HH.out.step hb3;obtain⟨v0,v1,v2,f0,f1,f2⟩:=jj h3.v;have H3:=aa h3;clear h3 hb3;go_wp2
   refine bodyPost_ret (v:=.agg #[x,k,t]) (by simp[results,results209,asAddr,nG (nH H3.out.v x k t)]) rfl ⟨by first|rfl|(rw[hx];rfl),?_⟩;exact((H3.out.b.setCell (p:=⟨w.heap.size+1+1+1,0,none⟩) (by simp;omega) _).setCell (p:=⟨w.heap.size+1+1+1,1,none⟩) (by simp;omega) _).setCell (p:=⟨w.heap.size+1+1+1,2,none⟩) (by simp;omega) _
  .clear HC;have hne1:¬(w.heap.size=w.heap.size+1+1+1):=by omega
   have hne2:¬(w.heap.size+1+1+1=w.heap.size):=by omega
   go_upto_region 3 with fail
   go_region_held3 (fun z=>z.cell? (w,0)=some (.int .i64 s)/\z.cell? ⟨w.heap.size+1+1,0,none⟩=some (k:V))
    (first|(exact uh K3)|go_keep)
    (first
    | (go_at_call 218;refine(uh HB _).mono ?_;rintro e w3⟨rfl,hb3⟩
       have h3:=HH.out.drew.step hb3;obtain⟨r0,_,_,_,_,_⟩:=aJ h3.r;obtain⟨o0,_,_,_⟩:=av h3.o;obtain⟨v0,v1,v2,f0,f1,f2⟩:=jj h3.v;have K3:=aa (zA r0 o0);have H3:=aa h3;clear h3 hb3))
   all_goals
    go_wp2
    refine bodyPost_ret (v:=.agg #[x,k,z]) (by simp[results,results209,asAddr,nG (nH H3.out.v x k z)]) rfl ⟨by first|rfl|(rw[hx];rfl),?_⟩;exact((H3.out.b.setCell (p:=⟨w.heap.size+1+1+1,0,none⟩) (by simp;omega) _).setCell (p:=⟨w.heap.size+1+1+1,1,none⟩) (by simp;omega) _).setCell (p:=⟨w.heap.size+1+1+1,2,none⟩) (by simp;omega) _
structure St where
 e:En
 F1:List Op.Opt
 F2:List Op.Opt
 sn:List Op.Pk
 tl:List ByteArray
structure Cx where
 now:Int
 cc:Int
 ci:Int
 cd:ByteArray
 hd:List Op.Opt
 ac:Int
 ao:List Op.Opt
 vh:Value
 va:Value
abbrev lF(c:Cx)(e:En)(v1 v2 vs vt:Value):List Value:=[.int .i64 e.m1,.int .i64 e.a1,.int .i64 e.g1,.bool e.p1,.bool e.c1,.bool e.d1,.int .i64 e.m2,.int .i64 e.a2,.int .i64 e.g2,.bool e.p2,.bool e.c2,.bool e.d2,.int .i64 e.st,.int .i64 e.tr,.int .i64 e.du,.int .i64 e.id,.int .i64 e.fl,v1,v2,.bool e.up,.int .i64 e.i1,.int .i64 e.i2,.bool e.i3,.bool e.i4,.bool e.i5,.int .i64 e.o1,.int .i64 e.o2,.bool e.o3,.bool e.o4,.bool e.o5,.int .i64 c.now,.int .i64 c.cc,.int .i64 c.ci,.string c.cd,c.vh,.int .i64 c.ac,c.va,vs,vt]
def Ap(v v':Value):Prop:=∀g,v.ownBlock=some g->v'.ownBlock≠some g
theorem Ap.symm{v':Value}(h:Ap v v'):Ap v' v:=fun g hg e=>h g e hg
theorem Ap.none(v:Value)(n m:Nat):Ap (.slice none n m) v:=fun g hg=>by cases hg
def Tt(T:TypeId):Prop:=T≠105/\T≠85/\T≠9
structure Lay(T:TypeId)(w0 w1:World)(B:Nat)(c:Cx)(s:St)(v1 v2 vs vt:Value)(q:World):Prop where
 row:q.heap[B]?=some (.cells (lF c s.e v1 v2 vs vt).toArray T)
 o1:q.ownsRow w0 105 2 v1 s.F1.length (aj s.F1)
 o2:q.ownsRow w0 105 2 v2 s.F2.length (aj s.F2)
 os:q.ownsRow w1 85 3 vs s.sn.length (ae s.sn)
 ot:q.ownsRow w1 9 1 vt s.tl.length (a_ s.tl)
 oh:q.ownsRow w0 105 2 c.vh c.hd.length (aj c.hd)
 ha:HoldsO q c.va c.ao
 hB:w0.heap.size<=B
 tt:Tt T
 ap:Ap v1 v2
 aph:Ap v1 c.vh
 lo:Below w0 w0 w1
 nr:Nr B w1 q
theorem aq(h:w.ownsRow base e size v n xs)(hB:w.heap[B]?=some (.cells cs T))(hT:T≠e):v.ownBlock≠some B:=by
 rcases h.2 with⟨hv,_⟩|⟨g,cap,cur,hv,_,hg,_⟩
 .rw [hv];simp[Value.ownBlock]
 .rw [hv];intro e1;have e2:g=B:=by simpa[Value.ownBlock]using e1
  subst e2;rw[hB]at hg;injection hg with hg;injection hg with _ h2 _;exact hT h2
theorem zV{b1 b2:Nat}{e1 e2:TypeId}{s1 s2:Nat}{v1 v2:Value}{n1 n2:Nat}{x1 x2:List Value}(h1:w.ownsRow b1 e1 s1 v1 n1 x1)(h2:w.ownsRow b2 e2 s2 v2 n2 x2)(hT:e1≠e2):Ap v1 v2:=by
 intro g hg;rcases h1.2 with⟨hv,_⟩|⟨g',cap,cur,hv,_,hgg,_⟩
 .rw [hv]at hg;simp[Value.ownBlock]at hg
 .rw [hv]at hg;have e:g'=g:=by simpa[Value.ownBlock]using hg
  subst e;exact aq h2 hgg hT
theorem bZ(h:w.ownsRow base e size v n xs)(hk:∀g,v.ownBlock=some g->w'.heap[g]?=w.heap[g]?):w'.ownsRow base e size v n xs:=by
 refine⟨h.1,h.2.imp id ?_⟩;rintro⟨g,cap,cur,hv,hb,hg,rest⟩;exact⟨g,cap,cur,hv,hb,(hk g (by rw[hv];rfl)).trans hg,rest⟩
theorem aP(h:w.ownsRow base e size v n xs)(hb:Below w w w'):w'.ownsRow base e size v n xs :=
 bZ h fun g hg=>hb.block g (h.lt g hg).2
theorem aE{base':Nat}(h:w.ownsRow base e size v n xs)(hb:base'<=base):w.ownsRow base' e size v n xs :=
 ⟨h.1,h.2.imp id fun⟨g,cap,cur,h1,h2,h3⟩=>⟨g,cap,cur,h1,zE hb h2,h3⟩⟩
theorem bS{F:List Op.Opt}(h:HoldsO w v F)(hB:w.heap[B]?=some (.cells cs T))(hT:T≠105)(hk:∀k,k<w.heap.size->k≠B->w'.heap[k]?=w.heap[k]?):HoldsO w' v F:=by
 rcases h with⟨ad,cp,e,e0⟩|⟨g,cp,cur,e,q1,q2⟩
 .exact Or.inl ⟨ad,cp,e,e0⟩
 .refine Or.inr ⟨g,cp,cur,e,(hk g (ge.1 q1).1 fun e2=>?_).trans q1,q2⟩;subst e2;rw[hB]at q1;injection q1 with q1;injection q1 with _ h2 _;exact hT h2
section
variable {T:TypeId} {w0 w1:World} {B:Nat} {c:Cx} {s:St} {v1 v2 vs vt:Value} {q q':World}
theorem Lay.lt(h:Lay T w0 w1 B c s v1 v2 vs vt q):B<q.heap.size:=(ge.1 h.row).1
theorem Lay.hh(h:Lay T w0 w1 B c s v1 v2 vs vt q):HoldsO q c.vh c.hd:=HoldsO.own h.oh
theorem Lay.cell(h:Lay T w0 w1 B c s v1 v2 vs vt q){i:Nat}(hi:(lF c s.e v1 v2 vs vt)[i]?=some v):q.cell? (B,i)=some v:=by
 rw[cr h.row,List.getElem?_toArray];exact hi
theorem Lay.frz(h:Lay T w0 w1 B c s v1 v2 vs vt q)(i:Nat):q.frozen? (B,i)=false:=Go.Proofs.YtjdgiimfpkideaaGreatDoor.aX h.row i
theorem Lay.low(h:Lay T w0 w1 B c s v1 v2 vs vt q):Below w0 w0 q :=
 ⟨h.nr.os.trans h.lo.os,h.nr.tape.trans h.lo.tape,h.nr.output.trans h.lo.output,zE h.lo.size h.nr.size,fun b hb=>(h.nr.block b (Nat.lt_of_lt_of_le hb h.lo.size) fun e=>by have:=h.hB;omega).trans (h.lo.block b hb)⟩
theorem Lay.step(h:Lay T w0 w1 B c s v1 v2 vs vt q)(hb:Below q q q'):Lay T w0 w1 B c s v1 v2 vs vt q' :=
 ⟨(hb.block _ h.lt).trans h.row,aP h.o1 hb,aP h.o2 hb,aP h.os hb,aP h.ot hb,aP h.oh hb,h.ha.below hb rfl,h.hB,h.tt,h.ap,h.aph,h.lo,h.nr.of_below hb⟩
theorem Lay.setRaw(h:Lay T w0 w1 B c s v1 v2 vs vt q)(i:Nat)(v:Value)(e':En)(he:(lF c s.e v1 v2 vs vt).set i v=lF c e' v1 v2 vs vt):Lay T w0 w1 B c {s with e:=e'} v1 v2 vs vt (q.setCell (B,i) v):=by
 have hr:=zH q B i _ _ v h.row;rw[List.setIfInBounds_toArray,he]at hr;have hk:∀k,k≠B->(q.setCell (B,i) v).heap[k]?=q.heap[k]?:=fun k hk=>heap_setCell_other q _ _ _ hk
 refine⟨hr,bZ h.o1 fun g hg=>hk g fun e=>aq h.o1 h.row h.tt.1 (e▸hg),bZ h.o2 fun g hg=>hk g fun e=>aq h.o2 h.row h.tt.1 (e▸hg),bZ h.os fun g hg=>hk g fun e=>aq h.os h.row h.tt.2.1 (e▸hg),bZ h.ot fun g hg=>hk g fun e=>aq h.ot h.row h.tt.2.2 (e▸hg),bZ h.oh fun g hg=>hk g fun e=>aq h.oh h.row h.tt.1 (e▸hg),bS h.ha h.row h.tt.1 fun k _=>hk k,h.hB,h.tt,h.ap,h.aph,h.lo,h.nr.setCell i v⟩
theorem Lay.ofNr(h:Lay T w0 w1 B c s v1 v2 vs vt q){e':En}(hr:q'.heap[B]?=some (.cells (lF c e' v1 v2 vs vt).toArray T))(hn:Nr B q q'):Lay T w0 w1 B c {s with e:=e'} v1 v2 vs vt q':=by
 have hk:∀k,k<q.heap.size->k≠B->q'.heap[k]?=q.heap[k]?:=hn.block;refine⟨hr,bZ h.o1 fun g hg=>hk g (h.o1.lt g hg).2 fun e=>aq h.o1 h.row h.tt.1 (e▸hg),bZ h.o2 fun g hg=>hk g (h.o2.lt g hg).2 fun e=>aq h.o2 h.row h.tt.1 (e▸hg),bZ h.os fun g hg=>hk g (h.os.lt g hg).2 fun e=>aq h.os h.row h.tt.2.1 (e▸hg),bZ h.ot fun g hg=>hk g (h.ot.lt g hg).2 fun e=>aq h.ot h.row h.tt.2.2 (e▸hg),bZ h.oh fun g hg=>hk g (h.oh.lt g hg).2 fun e=>aq h.oh h.row h.tt.1 (e▸hg),bS h.ha h.row h.tt.1 hk,h.hB,h.tt,h.ap,h.aph,h.lo,h.nr.trans hn⟩
theorem Lay.new1(h:Lay T w0 w1 B c s v1 v2 vs vt q)(hb:Below q q q')(v:Value)(F:List Op.Opt)(ho:q'.ownsRow q 105 2 v F.length (aj F)):Lay T w0 w1 B c {s with F1:=F} v v2 vs vt (q'.setCell (B,17) v):=by
 have h':=h.step hb;have hr:=zH q' B 17 _ _ v h'.row;rw[List.setIfInBounds_toArray]at hr;have hk:∀k,k≠B->(q'.setCell (B,17) v).heap[k]?=q'.heap[k]?:=fun k hk=>heap_setCell_other q' _ _ _ hk
 have hs:=h.low.size;refine⟨hr,bZ (aE ho hs) fun g hg=>hk g fun e=>?_,bZ h'.o2 fun g hg=>hk g fun e=>aq h'.o2 h'.row h.tt.1 (e▸hg),bZ h'.os fun g hg=>hk g fun e=>aq h'.os h'.row h.tt.2.1 (e▸hg),bZ h'.ot fun g hg=>hk g fun e=>aq h'.ot h'.row h.tt.2.2 (e▸hg),bZ h'.oh fun g hg=>hk g fun e=>aq h'.oh h'.row h.tt.1 (e▸hg),bS h'.ha h'.row h.tt.1 fun k _=>hk k,h.hB,h.tt,fun g hg e=>?_,fun g hg e=>?_,h.lo,h'.nr.setCell 17 v⟩
 .exact aq ho h'.row h.tt.1 (e▸hg)
 .have h1:=(ho.lt g hg).1;have h2:=(h.o2.lt g e).2;omega
 .have h1:=(ho.lt g hg).1;have h2:=(h.oh.lt g e).2;omega
theorem Lay.rebase(h:Lay T w0 w1 B c s v1 v2 () () q)(hs:s.sn=[])(ht:s.tl=[]):Lay T w0 q B c s v1 v2 () () q :=
 ⟨h.row,h.o1,h.o2,by rw[hs];exact World.ownsRow_nil _ _ _ _,by rw[ht];exact World.ownsRow_nil _ _ _ _,h.oh,h.ha,h.hB,h.tt,h.ap,h.aph,h.low,Nr.refl _ _⟩
theorem Lay.put(h:Lay T w0 w1 B c s v1 v2 vs vt q)(o:Obj)(hg:(q.alloc o).grownBy q2 vs.ownBlock)(v:Value)(P:List Op.Pk)(ho:q2.ownsRow w1 85 3 v P.length (ae P)):Lay T w0 w1 B c {s with sn:=P} v1 v2 v vt (q2.setCell (B,37) v):=by
 have h':=h.step ((zC q q).alloc (zD _) o);have n0:=aq h'.os h'.row h.tt.2.1;have r2:q2.heap[B]?=some (.cells (lF c s.e v1 v2 vs vt).toArray T):=(hg.block B h'.lt (fun e=>n0 e.symm)).trans h'.row;have hr:=zH q2 B 37 _ _ v r2;rw[List.setIfInBounds_toArray]at hr;have hk:∀k,k≠B->(q2.setCell (B,37) v).heap[k]?=q2.heap[k]?:=fun k hk=>heap_setCell_other q2 _ _ _ hk
 have k1:∀{bs:Nat}{e:TypeId}{size:Nat}{u:Value}{n:Nat}{xs:List Value},(q.alloc o).ownsRow bs e size u n xs->T≠e->85≠e->(q2.setCell (B,37) v).ownsRow bs e size u n xs:=by
  intro bs e size u n xs hu ht hp;have a2:=zV hu h'.os (fun e=>hp e.symm);have h3:=World.ownsRow.kept hu hg (by cases hv:u.ownBlock with|none=>exact Or.inl rfl|some g=>exact Or.inr fun e=>a2 g hv e.symm);exact bZ h3 fun g hg=>hk g fun e=>aq h3 r2 ht (e▸hg)
 have k2:∀{u:Value}{F:List Op.Opt},HoldsO (q.alloc o) u F->HoldsO (q2.setCell (B,37) v) u F:=by
  intro u F hu;have h3:HoldsO q2 u F:=by
   rcases hu with⟨ad,cp,e,e0⟩|⟨g,cp,cur,e,q1,r1⟩
   .exact Or.inl ⟨ad,cp,e,e0⟩
   .exact Or.inr ⟨g,cp,cur,e,(hg.block g (ge.1 q1).1 fun e2=>aq h'.os q1 (by decide) e2.symm).trans q1,r1⟩
  exact bS h3 r2 h.tt.1 fun k _=>hk k
 refine⟨hr,k1 h'.o1 h.tt.1 (by decide),k1 h'.o2 h.tt.1 (by decide),bZ ho fun g hg=>hk g fun e=>aq ho r2 h.tt.2.1 (e▸hg),k1 h'.ot h.tt.2.2 (by decide),k1 h'.oh h.tt.1 (by decide),k2 h'.ha,h.hB,h.tt,h.ap,h.aph,h.lo,?_⟩;refine Nr.setCell ?_ 37 v;have hl:=h'.nr;exact⟨hg.os.trans hl.os,hg.tape.trans hl.tape,hg.output.trans hl.output,zE hl.size hg.size,fun b hb hn=>(hg.block b (Nat.lt_of_lt_of_le hb hl.size) fun e=>by have:=(h'.os.lt b e.symm).1;omega).trans (hl.block b hb hn)⟩
theorem Lay.say(h:Lay T w0 w1 B c s v1 v2 vs vt q)(o:Obj)(hg:(q.alloc o).grownBy q2 vt.ownBlock)(v:Value)(P:List ByteArray)(ho:q2.ownsRow w1 9 1 v P.length (a_ P)):Lay T w0 w1 B c {s with tl:=P} v1 v2 vs v (q2.setCell (B,38) v):=by
 have h':=h.step ((zC q q).alloc (zD _) o);have n0:=aq h'.ot h'.row h.tt.2.2;have r2:q2.heap[B]?=some (.cells (lF c s.e v1 v2 vs vt).toArray T):=(hg.block B h'.lt (fun e=>n0 e.symm)).trans h'.row;have hr:=zH q2 B 38 _ _ v r2;rw[List.setIfInBounds_toArray]at hr;have hk:∀k,k≠B->(q2.setCell (B,38) v).heap[k]?=q2.heap[k]?:=fun k hk=>heap_setCell_other q2 _ _ _ hk
 have k1:∀{bs:Nat}{e:TypeId}{size:Nat}{u:Value}{n:Nat}{xs:List Value},(q.alloc o).ownsRow bs e size u n xs->T≠e->9≠e->(q2.setCell (B,38) v).ownsRow bs e size u n xs:=by
  intro bs e size u n xs hu ht hp;have a2:=zV hu h'.ot (fun e=>hp e.symm);have h3:=World.ownsRow.kept hu hg (by cases hv:u.ownBlock with|none=>exact Or.inl rfl|some g=>exact Or.inr fun e=>a2 g hv e.symm);exact bZ h3 fun g hg=>hk g fun e=>aq h3 r2 ht (e▸hg)
 have k2:∀{u:Value}{F:List Op.Opt},HoldsO (q.alloc o) u F->HoldsO (q2.setCell (B,38) v) u F:=by
  intro u F hu;have h3:HoldsO q2 u F:=by
   rcases hu with⟨ad,cp,e,e0⟩|⟨g,cp,cur,e,q1,r1⟩
   .exact Or.inl ⟨ad,cp,e,e0⟩
   .exact Or.inr ⟨g,cp,cur,e,(hg.block g (ge.1 q1).1 fun e2=>aq h'.ot q1 (by decide) e2.symm).trans q1,r1⟩
  exact bS h3 r2 h.tt.1 fun k _=>hk k
 refine⟨hr,k1 h'.o1 h.tt.1 (by decide),k1 h'.o2 h.tt.1 (by decide),k1 h'.os h.tt.2.1 (by decide),bZ ho fun g hg=>hk g fun e=>aq ho r2 h.tt.2.2 (e▸hg),k1 h'.oh h.tt.1 (by decide),k2 h'.ha,h.hB,h.tt,h.ap,h.aph,h.lo,?_⟩;refine Nr.setCell ?_ 38 v;have hl:=h'.nr;exact⟨hg.os.trans hl.os,hg.tape.trans hl.tape,hg.output.trans hl.output,zE hl.size hg.size,fun b hb hn=>(hg.block b (Nat.lt_of_lt_of_le hb hl.size) fun e=>by have:=(h'.ot.lt b e.symm).1;omega).trans (hl.block b hb hn)⟩
end
def d8(t:ByteArray):ByteArray:=if 250<t.size then t.extract 0 250 else t
theorem gY(t:ByteArray)(w:World)(ht:t.size<=100000):Calls prog 104 #[t,(250:Int)] w fun e w'=>e=.returned (.string (d8 t))/\w'=w:=by
 unfold d8;by_cases h:250<t.size
 .have d:(250:Int)<(t.size:Int):=by omega
  have d2:(250:Int)<=(t.size:Int):=by omega
  rw[if_pos h];go_enter func104,ntmps104
  go_wp2
  go_ret
  exact⟨rfl,rfl⟩
 .have d:¬((250:Int)<(t.size:Int)):=by omega
  rw[if_neg h];go_enter func104,ntmps104
  go_wp2
  go_ret
  exact⟨rfl,rfl⟩
theorem pS(y:Int)(w:World):Calls prog 103 #[(3:Int),y] w fun e w'=>e=.returned (.int .i64 (min 3 y))/\w'=w:=by
 by_cases h:3<=y
 .rw [Int.min_eq_left h];by_cases h0:y=3
  .subst h0;go_enter func103,ntmps103
   go_wp2
   go_ret
   exact⟨rfl,rfl⟩
  .have h1:3<y:=by omega
   have h2:¬(y<3):=by omega
   go_enter func103,ntmps103
   go_wp2
   go_ret
   exact⟨rfl,rfl⟩
 .rw [Int.min_eq_right (by omega)];have h1:y<3:=by omega
  have h2:¬(3<y):=by omega
  go_enter func103,ntmps103
  go_wp2
  go_ret
  exact⟨rfl,rfl⟩
def ag:En:=⟨0,0,0,false,false,false,0,0,0,false,false,false,0,0,0,0,0,false,0,0,false,false,false,0,0,false,false,false⟩
def sE(m a g:Int)(p c d:Bool):En:=⟨m,a,g,p,c,d,m,a,g,p,c,d,0,0,-1,0,0,false,0,0,false,false,false,0,0,false,false,false⟩
def eP(m a g:Int)(p c d:Bool):En:=if aK m a g=true then sE m a g p c d else ag
theorem jl(m a g:Int)(p c d:Bool)(w:World):Calls prog 27 #[.agg #[m,a,g,p,c,d]] w fun r w'=>r=.returned (.agg (aA (eP m a g p c d) () ()))/\Below w w w':=by
 have C:=aa fun v=>dO m a g p c d v
 obtain⟨_,hA,hR,hb⟩:=br w (.cells #[m,a,g,p,c,d] 24) (.cells #[(0:Int),(0:Int),(0:Int),false,false,false,(0:Int),(0:Int),(0:Int),false,false,false,(0:Int),(0:Int),(0:Int),(0:Int),(0:Int),(),(),false,(0:Int),(0:Int),false,false,false,(0:Int),(0:Int),false,false,false] 32);have H0:=aa (zA hA (zA hR hb));clear hA hR hb;unfold eP;cases hq:aK m a g
 .rw [if_neg (by decide)];rw[hq]at C;show Calls prog 27 #[.agg #[m,a,g,p,c,d]] w fun r w'=>r=.returned (.agg #[(0:Int),(0:Int),(0:Int),false,false,false,(0:Int),(0:Int),(0:Int),false,false,false,(0:Int),(0:Int),(0:Int),(0:Int),(0:Int),(),(),false,(0:Int),(0:Int),false,false,false,(0:Int),(0:Int),false,false,false])/\Below w w w'
  go_enter func27,ntmps27
  go_wp2_with fail
  refine(uh C _).mono ?_;rintro r w1⟨rfl,hb1⟩;obtain⟨hA,hR,hb⟩:=uh H0;have hR1:=(hb1.block (w.heap.size+1) (by simp)).trans hR;have hB1:=hb.trans (hb1.mono hb.size);have H1:=aa (zA hR1 hB1);clear hA hR hb hR1 hB1 hb1 H0 C;go_upto_region 2 with fail
  apply wp_region_lit
  refine wpList_buildTo rfl 32 _ rfl (some 6) rfl #[(0:Int),(0:Int),(0:Int),false,false,false,(0:Int),(0:Int),(0:Int),false,false,false,(0:Int),(0:Int),(0:Int),(0:Int),(0:Int),(),(),false,(0:Int),(0:Int),false,false,false,(0:Int),(0:Int),false,false,false] (by as_aux_lemma=>kernel_rfl) ?_;refine wpList_store_rowTo rfl 32 (.tmp 2) (.tmp 6) rfl rfl (w.heap.size+1) #[(0:Int),(0:Int),(0:Int),false,false,false,(0:Int),(0:Int),(0:Int),false,false,false,(0:Int),(0:Int),(0:Int),(0:Int),(0:Int),(),(),false,(0:Int),(0:Int),false,false,false,(0:Int),(0:Int),false,false,false] rfl rfl 32 _ H1.out.1 aL rfl (by kernel_rfl) ?_;apply wpList_nil
  simp only[Act.put,List.setIfInBounds_toArray,List.set_cons_zero,List.set_cons_succ];go_wp2
  exact bodyPost_ret (v:=.agg #[(0:Int),(0:Int),(0:Int),false,false,false,(0:Int),(0:Int),(0:Int),false,false,false,(0:Int),(0:Int),(0:Int),(0:Int),(0:Int),(),(),false,(0:Int),(0:Int),false,false,false,(0:Int),(0:Int),false,false,false]) (by simp[results,results27,asAddr,ja (setRow_heap w1 (w.heap.size+1) _ #[(0:Int),(0:Int),(0:Int),false,false,false,(0:Int),(0:Int),(0:Int),false,false,false,(0:Int),(0:Int),(0:Int),(0:Int),(0:Int),(),(),false,(0:Int),(0:Int),false,false,false,(0:Int),(0:Int),false,false,false] _ _ H1.out.1)]) rfl ⟨rfl,am H1.out.2 (by omega) _⟩
 .rw [if_pos rfl];rw[hq]at C;show Calls prog 27 #[.agg #[m,a,g,p,c,d]] w fun r w'=>r=.returned (.agg #[m,a,g,p,c,d,m,a,g,p,c,d,(0:Int),(0:Int),.int .i64 (-1),(0:Int),(0:Int),(),(),false,(0:Int),(0:Int),false,false,false,(0:Int),(0:Int),false,false,false])/\Below w w w'
  go_enter func27,ntmps27
  go_wp2_with fail
  refine(uh C _).mono ?_;rintro r w1⟨rfl,hb1⟩;obtain⟨hA,hR,hb⟩:=uh H0;have hA1:=(hb1.block w (by simp;omega)).trans hA;have hR1:=(hb1.block (w.heap.size+1) (by simp)).trans hR;have hB1:=hb.trans (hb1.mono hb.size);have H1:=aa (zA hA1 (zA hR1 hB1));clear hA hR hb hA1 hR1 hB1 hb1 H0 C;go_upto_region 3 with fail
  apply wp_region_lit
  refine wpList_load_row rfl 24 (.tmp 1) rfl w rfl 24 #[m,a,g,p,c,d] (0,0) _ H1.out.1 underlying24 rfl (by kernel_rfl) ?_;refine wpList_load_row rfl 24 (.tmp 1) rfl w rfl 24 #[m,a,g,p,c,d] (0,0) _ H1.out.1 underlying24 rfl (by kernel_rfl) ?_;refine wpList_buildTo rfl 32 _ rfl (some 9) rfl #[m,a,g,p,c,d,m,a,g,p,c,d,(0:Int),(0:Int),.int .i64 (-1),(0:Int),(0:Int),(),(),false,(0:Int),(0:Int),false,false,false,(0:Int),(0:Int),false,false,false] (by as_aux_lemma=>kernel_rfl) ?_;refine wpList_store_rowTo rfl 32 (.tmp 2) (.tmp 9) rfl rfl (w.heap.size+1) #[m,a,g,p,c,d,m,a,g,p,c,d,(0:Int),(0:Int),.int .i64 (-1),(0:Int),(0:Int),(),(),false,(0:Int),(0:Int),false,false,false,(0:Int),(0:Int),false,false,false] rfl rfl 32 _ H1.out.2.1 aL rfl (by kernel_rfl) ?_;apply wpList_nil
  simp only[Act.put,List.setIfInBounds_toArray,List.set_cons_zero,List.set_cons_succ];go_wp2
  exact bodyPost_ret (v:=.agg #[m,a,g,p,c,d,m,a,g,p,c,d,(0:Int),(0:Int),.int .i64 (-1),(0:Int),(0:Int),(),(),false,(0:Int),(0:Int),false,false,false,(0:Int),(0:Int),false,false,false]) (by simp[results,results27,asAddr,ja (setRow_heap w1 (w.heap.size+1) _ #[m,a,g,p,c,d,m,a,g,p,c,d,(0:Int),(0:Int),.int .i64 (-1),(0:Int),(0:Int),(),(),false,(0:Int),(0:Int),false,false,false,(0:Int),(0:Int),false,false,false] _ _ H1.out.2.1)]) rfl ⟨rfl,am H1.out.2.2 (by omega) _⟩
end Go.Proofs.YtjdgiimfpkideaaGreatDoor
