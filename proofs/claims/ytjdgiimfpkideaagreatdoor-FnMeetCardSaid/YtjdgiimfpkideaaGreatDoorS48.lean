/- FmT -/
import Derived.Test.YtjdgiimfpkideaaGreatDoorS44
import Derived.Test.YtjdgiimfpkideaaGreatDoorS45
import Derived.Test.YtjdgiimfpkideaaGreatDoorS46
import Derived.Test.YtjdgiimfpkideaaGreatDoorS47
set_option maxHeartbeats 16000000
set_option maxRecDepth 100000
set_option linter.unusedSimpArgs false
namespace Go.Proofs.YtjdgiimfpkideaaGreatDoor
open Go.RowKit Go.Proofs.Tryz
variable {q q' w:World} {B A C:Nat} {o:MO} {cs:Array Value} {u:Value} {L:List Int} {m1 a1 g1 m2 a2 g2:Int} {p1 c1 d1 p2 c2 d2:Bool}
def Rq(W:World)(o:MO)(cs:Array Value):Prop:=∃(x1 x2 x3 x4:Option Addr)(y1 y2 y3 y4:Nat),cs=(cV (aA o.a.e (x1,o.a.F1.length,y1) (x2,o.a.F2.length,y2)).toList (aA o.b.e (x3,o.b.F1.length,y3) (x4,o.b.F2.length,y4)).toList o.cd).toArray /\
 HoldsO W (x1,o.a.F1.length,y1) o.a.F1/\HoldsO W (x2,o.a.F2.length,y2) o.a.F2/\HoldsO W (x3,o.b.F1.length,y3) o.b.F1/\HoldsO W (x4,o.b.F2.length,y4) o.b.F2
section
variable {W W':World} {o:MO} {cs:Array Value}
theorem Rq.of{dj:Bool}{base:Nat}{l:List Value}(h:ye dj base W o l):Rq W o l.toArray:=by
 obtain⟨ca,cb,rfl,⟨x1,x2,y1,y2,rfl,h1,h2,_⟩,⟨x3,x4,y3,y4,rfl,h3,h4,_⟩,_⟩:=h;exact⟨x1,x2,x3,x4,y1,y2,y3,y4,rfl,HoldsO.own h1,HoldsO.own h2,HoldsO.own h3,HoldsO.own h4⟩
theorem Rq.below(h:Rq W o cs)(hb:Below W W W'):Rq W' o cs:=by
 obtain⟨x1,x2,x3,x4,y1,y2,y3,y4,e,h1,h2,h3,h4⟩:=h;exact⟨x1,x2,x3,x4,y1,y2,y3,y4,e,h1.below hb rfl,h2.below hb rfl,h3.below hb rfl,h4.below hb rfl⟩
theorem Rq.len(h:Rq W o cs):cs.size=61:=by
 obtain⟨x1,x2,x3,x4,y1,y2,y3,y4,e,_⟩:=h;rw[e];exact gN _ _ _ _ _ _ _
theorem Rq.one(h:Rq W o cs):cs.all (·.oneCell')=true:=by
 obtain⟨x1,x2,x3,x4,y1,y2,y3,y4,e,_⟩:=h;rw[e];exact Bm _ _ _ _ _ _ _ _ _ _ _ _ _ _ _
end
structure Kv(q:World)(B:Nat)(o:MO)(cs:Array Value):Prop where
 m:q.heap[B]?=some (.cells cs 34)
 r:Rq q o cs
theorem Kv.up(h:Kv q B o cs)(hb:Below q q q'):Kv q' B o cs :=
 ⟨(hb.block _ (ge.1 h.m).1).trans h.m,h.r.below hb⟩
structure Kf(w:World)(A C:Nat)(ca cb:Array Value)(u:Value)(L:List Int)(q:World):Prop where
 a:q.heap[A]?=some (.cells ca 24)
 b:q.heap[C]?=some (.cells cb 24)
 x:HoldsI q u L
 low:Below w w q
theorem Kf.up{ca cb:Array Value}(h:Kf w A C ca cb u L q)(hb:Below q q q'):Kf w A C ca cb u L q' :=
 ⟨(hb.block _ (ge.1 h.a).1).trans h.a,(hb.block _ (ge.1 h.b).1).trans h.b,h.x.below hb rfl,h.low.trans (hb.mono h.low.size)⟩
theorem Kf.cells(h:Kf w A C (tI m1 a1 g1 p1 c1 d1) (tI m2 a2 g2 p2 c2 d2) u L q):q.cell? (A,0)=some (.int .i64 m1)/\q.cell? (A,1)=some (.int .i64 a1)/\q.cell? (A,2)=some (.int .i64 g1)/\q.cell? (A,3)=some (.bool p1)/\q.cell? (A,4)=some (.bool c1)/\q.cell? (A,5)=some (.bool d1)/\q.cell? (C,0)=some (.int .i64 m2)/\q.cell? (C,1)=some (.int .i64 a2)/\q.cell? (C,2)=some (.int .i64 g2)/\q.cell? (C,3)=some (.bool p2)/\q.cell? (C,4)=some (.bool c2)/\q.cell? (C,5)=some (.bool d2):=by
 refine⟨?_,?_,?_,?_,?_,?_,?_,?_,?_,?_,?_,?_⟩;all_goals first|(rw[cr h.a];rfl)|(rw[cr h.b];rfl)
structure Mf(ca cb:Cf)(o o2 o3:MO):Prop where
 cd:o.cd=0
 z:o3.a.e.up=true/\o3.b.e.up=true/\LinesOk ca cb o3.a.e o3.b.e
 y:((o2.a.e.up&&o2.b.e.up)=true/\LinesOk ca cb o2.a.e o2.b.e)\/((o2.a.e.up&&o2.b.e.up)=false/\(o2.a.e.st=3\/o2.b.e.st=3))
theorem Ck{st:Bool}{o2 o3:MO}(hL:L.length<=99)(h1:eC m1 a1 g1 p1 c1 d1 m2 a2 g2 p2 c2 d2 L st=o)(h2:eC m1 a1 g1 p1 c1 d1 m2 a2 g2 p2 c2 d2 L true=o2)(h3:eC m1 a1 g1 p1 c1 d1 m2 a2 g2 p2 c2 d2 [] true=o3):o.cd=1\/(aK m1 a1 g1=true/\aK m2 a2 g2=true/\Mf (Bx m1 a1 g1 p1 c1 d1) (Bx m2 a2 g2 p2 c2 d2) o o2 o3):=by
 subst h1 h2 h3;by_cases h:aK m1 a1 g1=true/\aK m2 a2 g2=true
 .right
  have e:∀(K:List Int)(s:Bool),K.length<=99->eC m1 a1 g1 p1 c1 d1 m2 a2 g2 p2 c2 d2 K s=⟨(jX m1 a1 g1 p1 c1 d1 m2 a2 g2 p2 c2 d2 K s).a,(jX m1 a1 g1 p1 c1 d1 m2 a2 g2 p2 c2 d2 K s).b,0⟩:=by
   intro K s hK;unfold eC;rw[if_neg (by omega),if_pos h]
  rw[e L st hL,e L true hL,e [] true (by decide)];have hz:=De (p1:=p1) (c1:=c1) (d1:=d1) (p2:=p2) (c2:=c2) (d2:=d2) h.1 h.2;have hy:=DU (p1:=p1) (c1:=c1) (d1:=d1) (p2:=p2) (c2:=c2) (d2:=d2) h.1 h.2 L hL;dsimp only at hz hy;generalize jX m1 a1 g1 p1 c1 d1 m2 a2 g2 p2 c2 d2 L true=w2 at hy|-;generalize jX m1 a1 g1 p1 c1 d1 m2 a2 g2 p2 c2 d2 [] true=w3 at hz|-;exact⟨h.1,h.2,rfl,hz,hy⟩
 .left
  unfold eC;rw[if_neg (by omega),if_neg h]
theorem Dh(hL:L.length<=99)(st:Bool):(eC m1 a1 g1 p1 c1 d1 m2 a2 g2 p2 c2 d2 L st).a.F1.length<=20/\(eC m1 a1 g1 p1 c1 d1 m2 a2 g2 p2 c2 d2 L st).a.F2.length<=20/\(eC m1 a1 g1 p1 c1 d1 m2 a2 g2 p2 c2 d2 L st).b.F1.length<=20/\(eC m1 a1 g1 p1 c1 d1 m2 a2 g2 p2 c2 d2 L st).b.F2.length<=20:=by
 unfold eC;rw[if_neg (by omega)];split
 .next h=>exact Dg h.1 h.2 L hL st
 .exact ⟨Nat.zero_le _,Nat.zero_le _,Nat.zero_le _,Nat.zero_le _⟩
theorem lf{ops:Array Oper}{rest:List Oper}{op:Oper}{a:Act}{Q:Exit->Act->World->Prop}(hw:Region.wanted op (yielded ops a.tmps)=true)(ty:TypeId)(x:Operand)(ho:op.op=.load ty x)(b o:Nat)(hx:a.eval x=.pointer (some (b,o)))(cs:List Value)(d:TypeDesc)(hc:w.rangeAt b o cs)(hu:prog.underlying ty=some d)(hd:d.isRow=true)(hi:(prog.info? ty).map (·.size)=some cs.length)(h:wpList prog ops Q rest (a.put op.dst (.agg cs.toArray)) w):wpList prog ops Q (op::rest) a w :=
 wpList_step fun K hK=>by rw[if_pos hw];exact wp_load_mid ty x ho b o hx cs d hc hu hd hi (hK _ _ h)
theorem Kv.parts(h:Kv q B o cs):∃v1 v2 v3 v4,HoldsO q v1 o.a.F1/\HoldsO q v2 o.a.F2/\HoldsO q v3 o.b.F1/\HoldsO q v4 o.b.F2/\cs=(cV (aA o.a.e v1 v2).toList (aA o.b.e v3 v4).toList o.cd).toArray:=by
 obtain⟨x1,x2,x3,x4,y1,y2,y3,y4,e,h1,h2,h3,h4⟩:=h.r;exact⟨_,_,_,_,h1,h2,h3,h4,e⟩
theorem DV{bx bw:Nat}{c1 c2:Array Value}(h1:Kv q bx o c1)(h2:Kv q bw o c2)(hl:o.a.F1.length<=20/\o.a.F2.length<=20/\o.b.F1.length<=20/\o.b.F2.length<=20)(hL:yd)(hC:G7):∃xa xb wa wb:Array Value,xa.size=30/\xb.size=30/\wa.size=30/\wb.size=30/\∀W,Below q q W ->
   W.rangeAt bx 0 xa.toList/\W.rangeAt bx 30 xb.toList/\W.cell? (bx,60)=some (.int .i64 o.cd)/\W.rangeAt bw 0 wa.toList/\W.rangeAt bw 30 wb.toList/\W.cell? (bw,60)=some (o.cd:V) /\
   (Calls prog 8 #[.agg xa,.agg wa] W fun r w'=>r=.returned (.bool true)/\Below W W w')/\(Calls prog 8 #[.agg xb,.agg wb] W fun r w'=>r=.returned (.bool true)/\Below W W w'):=by
 obtain⟨v1,v2,v3,v4,a1,a2,a3,a4,e1⟩:=h1.parts;obtain⟨u1,u2,u3,u4,b1,b2,b3,b4,e2⟩:=h2.parts;refine⟨aA o.a.e v1 v2,aA o.b.e v3 v4,aA o.a.e u1 u2,aA o.b.e u3 u4,rfl,rfl,rfl,rfl,fun W hb=>?_⟩;have g1:=(h1.up hb).m;have g2:=(h2.up hb).m;rw[e1]at g1;rw[e2]at g2;obtain⟨r1,r2,r3⟩:=yb rfl rfl g1;obtain⟨t1,t2,t3⟩:=yb rfl rfl g2;exact⟨r1,r2,r3,t1,t2,t3,Cq o.a.e v1 v2 u1 u2 _ _ W (by omega) (by omega) (a1.below hb rfl) (a2.below hb rfl) (b1.below hb rfl) (b2.below hb rfl) hL hC,
  Cq o.b.e v3 v4 u3 u4 _ _ W (by omega) (by omega) (a3.below hb rfl) (a4.below hb rfl) (b3.below hb rfl) (b4.below hb rfl) hL hC⟩
theorem DW{W:World}{E:Nat}{T:TypeId}(h:W.heap[E]?=some (.cells cs T)):W.rangeAt E 0 cs.toList:=by
 intro j u hu;rw[cr h,Nat.zero_add];rw[Array.getElem?_toList]at hu;exact hu
theorem EF{m a g:Int}(h:aK m a g=true):a=((a.toNat:Nat):Int)/\a.toNat<4294967296:=by
 simp only[aK,bh,zK,decide_eq_true_eq]at h;omega
theorem A3(h:Rq q o cs)(hl:LinesOk (Bx m1 a1 g1 p1 c1 d1) (Bx m2 a2 g2 p2 c2 d2) o.a.e o.b.e)(k1:aK m1 a1 g1=true)(k2:aK m2 a2 g2=true)(hN:G8)(w:World):Calls prog 9 #[.agg cs,.agg (tI m1 a1 g1 p1 c1 d1),.agg (tI m2 a2 g2 p2 c2 d2)] w fun r w'=>r=.returned (.bool true)/\Below w w w':=by
 obtain⟨x1,x2,x3,x4,y1,y2,y3,y4,e,_⟩:=h;obtain⟨oa,ob,cd⟩:=o;obtain⟨ea,ga,gb,gl⟩:=oa;obtain⟨eb,fa,fb,fl⟩:=ob;obtain⟨am1,aa1,ag1,ap1,ac1,ad1,am2,aa2,ag2,ap2,ac2,ad2,ast,atr,adu,aid,afl,aup,i1,i2,i3,i4,i5,o1,o2,o3,o4,o5⟩:=ea;obtain⟨bm1,ba1,bg1,bp1,bc1,bd1,bm2,ba2,bg2,bp2,bc2,bd2,bst,btr,bdu,bid,bfl,bup,j1,j2,j3,j4,j5,t1,t2,t3,t4,t5⟩:=eb;obtain⟨⟨q1,q2,q3,q4,q5⟩,⟨r1,r2,r3,r4,r5⟩,s1,s2,s3,s4,s5,s6,⟨ka,s7,s8,s9⟩,⟨kb,s10,s11,s12⟩⟩:=hl;dsimp only[Bx]at q1 q2 q3 q4 q5 r1 r2 r3 r4 r5 s1 s2 s3 s4 s5 s6 s7 s9 s10 s12;subst q1 q2 q3 q4 q5 r1 r2 r3 r4 r5;subst s7 s10;obtain⟨f1,f2⟩:=EF k1;obtain⟨f3,f4⟩:=EF k2;generalize a1.toNat=n1 at*;generalize a2.toNat=n2 at*;subst f1 f3 e
 exact EP _ i1 j1 ka kb i3 i4 i5 j3 j4 j5 m1 g1 n1 p1 c1 d1 m2 g2 n2 p2 c2 d2 ⟨rfl,rfl,rfl,rfl,rfl⟩ ⟨rfl,rfl,rfl,rfl,rfl⟩ ⟨rfl,rfl,rfl,rfl,rfl⟩ ⟨rfl,rfl,rfl,rfl,rfl⟩
  ⟨fun z=>by rw[(s1 z).1,(s1 z).2];rfl,fun z=>by rw[(s2 z).1,(s2 z).2];rfl,fun z=>by rw[(s3 z).1,(s3 z).2];rfl,fun z=>by rw[(s4 z).1,(s4 z).2];rfl,fun z=>by rw[(s5 z).1,(s5 z).2];rfl,fun z=>by rw[(s6 z).1,(s6 z).2];rfl⟩ ⟨s8,f2,s9⟩ ⟨s11,f4,s12⟩ hN w
theorem Kv.look(h:Kv q B o cs):∃ca cb:Array Value,ca.size=30/\cb.size=30/\ca[12]?=some (.int .i64 o.a.e.st)/\cb[12]?=some (.int .i64 o.b.e.st)/\∀W,Below q q W->W.rangeAt B 0 ca.toList/\W.rangeAt B 30 cb.toList/\W.cell? (B,19)=some (.bool o.a.e.up)/\W.cell? (B,49)=some (.bool o.b.e.up):=by
 obtain⟨v1,v2,v3,v4,_,_,_,_,e⟩:=h.parts;refine⟨aA o.a.e v1 v2,aA o.b.e v3 v4,rfl,rfl,rfl,rfl,fun W hb=>?_⟩;have g:=(h.up hb).m;rw[e]at g;obtain⟨r1,r2,r3⟩:=yb rfl rfl g;refine⟨r1,r2,?_,?_⟩
 .rw [cr g];rfl
 .rw [cr g];rfl
theorem G6(w:World)(sl:Value)(m:Nat)(hm:m<=maxLen)(hD:Dat w w sl m)(tb:EvT w/\NxT w/\SpT w/\Et w)(hL:yd)(hC:G7)(hN:G8):Calls prog 3 #[sl] w fun e w'=>e=.returned (.bool true)/\Below w w w':=by
 obtain⟨sa,sc,rfl⟩:=hD.1;have CD:=aa (FA w _ m hm hD);have TB:=aa fun W (hb:Below w w W)=>(⟨tb.1.below hb,tb.2.1.below hb,tb.2.2.1.below hb,tb.2.2.2.below hb tb.2.2.2.lt⟩:EvT W/\NxT W/\SpT W/\Et W)
 have EQ:=aa (zA hL (zA hC hN));clear hD tb hL hC hN;unfold maxLen at hm;go_enter func3,ntmps3
 by_cases hbig:1048576<m
 .have d0:(1048576:Int)<(m:Int):=by omega
  clear hbig;go_wp2
  go_ret
  exact⟨rfl,zC _ _⟩
 have d0:¬((1048576:Int)<(m:Int)):=by omega
 clear hbig;go_wp2_with fail
 refine CD.out.mono ?_;rintro e w1⟨m1,a1,g1,p1,c1,d1,m2,a2,g2,p2,c2,d2,u,L,st,rfl,hL99,ho1,_,hb1⟩;obtain⟨ya,yc,rfl⟩:=af ho1;obtain⟨_,n0,n1,n2⟩:=br w1 (.cells uA 24) (.cells uA 24);have HN:=aa (zA n0 ((bH _ w1 (w1.heap.size+1) (tI m1 a1 g1 p1 c1 d1) (by omega)).trans n1));have hbN:Below w1 w1 ((((w1.alloc (.cells uA 24)).alloc (.cells uA 24)).setRow w1 (tI m1 a1 g1 p1 c1 d1)).setRow (w1.heap.size+1) (tI m2 a2 g2 p2 c2 d2)):=am (am n2 (zD _) _) (Nat.le_succ _) _;have HB:=aa hbN;have HL0:=aa (HoldsI.own ho1);have HB1:=aa hb1;clear n0 n1 n2 ho1 hbN hb1 CD
 go_upto_region 4 with(first
  | (refine wpList_store_rowTo rfl 24 (.tmp 3) (.tmp 17) rfl rfl w1 (tI m1 a1 g1 p1 c1 d1) rfl rfl 24 uA HN.out.1 xE rfl (by kernel_rfl) ?_)
  | (refine wpList_store_rowTo rfl 24 (.tmp 4) (.tmp 18) rfl rfl (w1.heap.size+1) (tI m2 a2 g2 p2 c2 d2) rfl rfl 24 uA HN.out.2 xE rfl (by kernel_rfl) ?_))
 refine bb (fun q=>Kf w w1 (w1.heap.size+1) (tI m1 a1 g1 p1 c1 d1) (tI m2 a2 g2 p2 c2 d2) (ya,L.length,yc) L q) ?_ ?_
 .exact ⟨(bH _ _ _ _ (by omega)).trans (setRow_heap _ _ _ _ _ _ HN.out.1),setRow_heap _ _ _ _ _ _ HN.out.2,HL0.out.below HB.out rfl,HB1.out.trans (HB.out.mono HB1.out.size)⟩
 intro q1 hq1;have K1:=aa hq1;clear hq1 HN HB HL0 HB1;generalize w1.heap.size+1=C at K1|-;generalize w1.heap.size=A at K1|-;have CI:=aa fun(s:Bool) (W:World) (hb:Below q1 q1 W)=>ru m1 a1 g1 p1 c1 d1 m2 a2 g2 p2 c2 d2 s W (show L.length<=1048576 by omega) (K1.out.x.below hb rfl) (uh TB W (K1.out.low.trans (hb.mono K1.out.low.size)))
 have CN:=aa fun(W:World) (hb:Below q1 q1 W)=>ru (x:=none) (y:=0) (L:=[]) m1 a1 g1 p1 c1 d1 m2 a2 g2 p2 c2 d2 true W (by decide) (Or.inl ⟨none,0,rfl,rfl⟩) (uh TB W (K1.out.low.trans (hb.mono K1.out.low.size)))
 have CS:=aa fun(W:World) (hb:Below q1 q1 W)=>rv m1 a1 g1 p1 c1 d1 m2 a2 g2 p2 c2 d2 st W (show L.length<=1048576 by omega) (K1.out.x.below hb rfl) trivial
 have BQ:=aa (zC q1 q1);have hl1:=Dh (m1:=m1) (a1:=a1) (g1:=g1) (p1:=p1) (c1:=c1) (d1:=d1) (m2:=m2) (a2:=a2) (g2:=g2) (p2:=p2) (c2:=c2) (d2:=d2) hL99 st;have HLEN:=aa hl1;clear hl1 TB;have S1:=aa (zA K1.out BQ.out);clear K1 BQ;obtain⟨o,ho⟩ := ex (eC m1 a1 g1 p1 c1 d1 m2 a2 g2 p2 c2 d2 L st);obtain⟨o2,ho2⟩:∃o,eC m1 a1 g1 p1 c1 d1 m2 a2 g2 p2 c2 d2 L true=o:=⟨_,rfl⟩;obtain⟨o3,ho3⟩:∃o,eC m1 a1 g1 p1 c1 d1 m2 a2 g2 p2 c2 d2 [] true=o:=⟨_,rfl⟩;have CX:=aa (uh CI st);have CY:=aa (uh CI true);rw[ho]at CX CS HLEN;rw[ho2]at CY;rw[ho3]at CN;have HF:=aa (Ck hL99 ho ho2 ho3);clear CI ho ho2 ho3;obtain⟨kA0,kA1,kA2,kA3,kA4,kA5,kC0,kC1,kC2,kC3,kC4,kC5⟩:=S1.out.1.cells;go_wp2_with fail
 refine(uh CX q1 S1.out.2).mono ?_;rintro e w2⟨lw2,rfl,hx,hb⟩;have RX:=aa (Rq.of hx);have S2:=aa (zA (S1.out.1.up hb) (S1.out.2.trans (hb.mono S1.out.2.size)));clear hx hb S1 kA0 kA1 kA2 kA3 kA4 kA5 kC0 kC1 kC2 kC3 kC4 kC5;have hsz:=RX.out.len;have hon:=RX.out.one;go_upto_region 5 with(refine wpList_store_rowTo rfl 34 (.tmp 7) (.tmp 25) rfl rfl w2 lw2.toArray rfl rfl 34 cm (zF w2 _) (by rw[hsz];exact bf) (by rw[hsz];rfl) hon ?_)
 refine bb (fun q=>Kf w A C (tI m1 a1 g1 p1 c1 d1) (tI m2 a2 g2 p2 c2 d2) (ya,L.length,yc) L q/\Below q1 q1 q/\Kv q w2 o lw2.toArray) ?_ ?_
 .have hb:Below w2 w2 ((w2.alloc (.cells cm 34)).setRow w2 lw2.toArray):=am ((zC _ _).alloc (zD _) _) (zD _) _;exact⟨S2.out.1.up hb,S2.out.2.trans (hb.mono S2.out.2.size),⟨setRow_heap _ _ _ _ _ _ (zF w2 _),RX.out.below hb⟩⟩
 intro q3 hq;have S3:=aa hq;generalize w2.heap.size=bx at S3|-;clear hq hsz hon RX S2;obtain⟨kA0,kA1,kA2,kA3,kA4,kA5,kC0,kC1,kC2,kC3,kC4,kC5⟩:=S3.out.1.cells;go_wp2_with fail
 refine(uh CS q3 S3.out.2.1).mono ?_;rintro e w4⟨lw4,rfl,hx,hb⟩;have RW:=aa (Rq.of hx);have S4:=aa (⟨S3.out.1.up hb,S3.out.2.1.trans (hb.mono S3.out.2.1.size),S3.out.2.2.up hb⟩:_/\_/\_);clear hx hb S3 kA0 kA1 kA2 kA3 kA4 kA5 kC0 kC1 kC2 kC3 kC4 kC5;have hsz:=RW.out.len;have hon:=RW.out.one;go_upto_region 6 with(refine wpList_store_rowTo rfl 34 (.tmp 8) (.tmp 30) rfl rfl w4 lw4.toArray rfl rfl 34 cm (zF w4 _) (by rw[hsz];exact bf) (by rw[hsz];rfl) hon ?_)
 refine bb (fun q=>Kf w A C (tI m1 a1 g1 p1 c1 d1) (tI m2 a2 g2 p2 c2 d2) (ya,L.length,yc) L q/\Below q1 q1 q/\Kv q w4 o lw4.toArray/\Kv q bx o lw2.toArray) ?_ ?_
 .have hb:Below w4 w4 ((w4.alloc (.cells cm 34)).setRow w4 lw4.toArray):=am ((zC _ _).alloc (zD _) _) (zD _) _;exact⟨S4.out.1.up hb,S4.out.2.1.trans (hb.mono S4.out.2.1.size),⟨setRow_heap _ _ _ _ _ _ (zF w4 _),RW.out.below hb⟩,S4.out.2.2.up hb⟩
 intro q5 hq;have S5:=aa hq;generalize w4.heap.size=bw at S5|-;clear hq hsz hon RW S4;obtain⟨xa,xb,wa,wb,l1,l2,l3,l4,HQ⟩:=DV S5.out.2.2.2 S5.out.2.2.1 HLEN.out EQ.out.1 EQ.out.2.1;have H5:=aa HQ;clear HQ HLEN;obtain⟨kr1,kr2,kx,kr3,kr4,kw,_⟩:=uh H5 q5 (zC _ _);have R5:=aa (zA kr1 kr3);clear kr1 kr2 kr3 kr4
 go_wp2_with (first
  | (refine lf (by rfl) 32 (.tmp 37) rfl bx 0 rfl xa.toList _ R5.out.1 underlying32 rfl (by rw[Array.length_toList,l1];exact aL) ?_)
  | (refine lf (by rfl) 32 (.tmp 39) rfl bw 0 rfl wa.toList _ R5.out.2 underlying32 rfl (by rw[Array.length_toList,l3];exact aL) ?_))
 clear R5 kx kw;refine(uh H5 q5 (zC _ _)).2.2.2.2.2.2.1.mono ?_;rintro e w6⟨rfl,hb⟩;have B6:=aa hb;have S6:=aa (zA (S5.out.1.up hb) (S5.out.2.1.trans (hb.mono S5.out.2.1.size)));clear hb S5;obtain⟨_,kr2,kx,_,kr4,kw,_⟩:=uh H5 w6 B6.out;have R5:=aa (zA kr2 kr4);clear kr2 kr4
 go_wp2_with (first
  | (refine lf (by rfl) 32 (.tmp 45) rfl bx 30 rfl xb.toList _ R5.out.1 underlying32 rfl (by rw[Array.length_toList,l2];exact aL) ?_)
  | (refine lf (by rfl) 32 (.tmp 47) rfl bw 30 rfl wb.toList _ R5.out.2 underlying32 rfl (by rw[Array.length_toList,l4];exact aL) ?_))
 clear R5 kx kw;refine(uh H5 w6 B6.out).2.2.2.2.2.2.2.mono ?_;rintro e w7⟨rfl,hb⟩;have B7:=aa (B6.out.trans (hb.mono B6.out.size));have S7:=aa (zA (S6.out.1.up hb) (S6.out.2.trans (hb.mono S6.out.2.size)));clear hb S6 B6;obtain⟨_,_,kx,_,_,kw,_⟩:=uh H5 w7 B7.out;clear H5 B7 l1 l2 l3 l4;rcases uh HF with hcd|⟨hk1,hk2,hcd,hz,hy⟩
 .rw [hcd]at kx kw;clear HF hcd CY CN EQ;go_wp2_with fail
  go_ret
  exact⟨rfl,S7.out.1.low⟩
 rw[hcd]at kx kw;have HZ:=aa hz;have HY:=aa hy;have HK:=aa (zA hk1 hk2);clear HF hcd hz hy hk1 hk2;obtain⟨kA0,kA1,kA2,kA3,kA4,kA5,kC0,kC1,kC2,kC3,kC4,kC5⟩:=S7.out.1.cells;go_wp2_with fail
 refine(uh CY w7 S7.out.2).mono ?_;rintro e w8⟨lw8,rfl,hx,hb⟩;have RX:=aa (Rq.of hx);have S8:=aa (zA (S7.out.1.up hb) (S7.out.2.trans (hb.mono S7.out.2.size)));clear hx hb S7 kx kw CY kA0 kA1 kA2 kA3 kA4 kA5 kC0 kC1 kC2 kC3 kC4 kC5;have hsz:=RX.out.len;have hon:=RX.out.one;go_upto_region 9 with(refine wpList_store_rowTo rfl 34 (.tmp 9) (.tmp 70) rfl rfl w8 lw8.toArray rfl rfl 34 cm (zF w8 _) (by rw[hsz];exact bf) (by rw[hsz];rfl) hon ?_)
 refine bb (fun q=>Kf w A C (tI m1 a1 g1 p1 c1 d1) (tI m2 a2 g2 p2 c2 d2) (ya,L.length,yc) L q/\Below q1 q1 q/\Kv q w8 o2 lw8.toArray) ?_ ?_
 .have hb:Below w8 w8 ((w8.alloc (.cells cm 34)).setRow w8 lw8.toArray):=am ((zC _ _).alloc (zD _) _) (zD _) _;exact⟨S8.out.1.up hb,S8.out.2.trans (hb.mono S8.out.2.size),⟨setRow_heap _ _ _ _ _ _ (zF w8 _),RX.out.below hb⟩⟩
 intro q9 hq;have S9:=aa hq;generalize w8.heap.size=yv at S9|-;clear hq hsz hon RX S8;generalize lw8.toArray=cy at S9|-;obtain⟨kA0,kA1,kA2,kA3,kA4,kA5,kC0,kC1,kC2,kC3,kC4,kC5⟩:=S9.out.1.cells;go_wp2_with fail
 refine(uh CN q9 S9.out.2.1).mono ?_;rintro e w10⟨lw10,rfl,hx,hb⟩;have RW:=aa (Rq.of hx);have S10:=aa (⟨S9.out.1.up hb,S9.out.2.1.trans (hb.mono S9.out.2.1.size),S9.out.2.2.up hb⟩:_/\_/\_);clear hx hb S9 CN kA0 kA1 kA2 kA3 kA4 kA5 kC0 kC1 kC2 kC3 kC4 kC5;have hsz:=RW.out.len;have hon:=RW.out.one;go_upto_region 10 with(refine wpList_store_rowTo rfl 34 (.tmp 10) (.tmp 73) rfl rfl w10 lw10.toArray rfl rfl 34 cm (zF w10 _) (by rw[hsz];exact bf) (by rw[hsz];rfl) hon ?_)
 refine bb (fun q=>Kf w A C (tI m1 a1 g1 p1 c1 d1) (tI m2 a2 g2 p2 c2 d2) (ya,L.length,yc) L q/\Kv q w10 o3 lw10.toArray/\Kv q yv o2 cy) ?_ ?_
 .have hb:Below w10 w10 ((w10.alloc (.cells cm 34)).setRow w10 lw10.toArray):=am ((zC _ _).alloc (zD _) _) (zD _) _;exact⟨S10.out.1.up hb,⟨setRow_heap _ _ _ _ _ _ (zF w10 _),RW.out.below hb⟩,S10.out.2.2.up hb⟩
 intro q11 hq;have S11:=aa hq;generalize w10.heap.size=zv at S11|-;clear hq hsz hon RW S10;generalize lw10.toArray=cz at S11|-;obtain⟨kA0,kA1,kA2,kA3,kA4,kA5,kC0,kC1,kC2,kC3,kC4,kC5⟩:=S11.out.1.cells;obtain⟨_,_,_,_,_,_,HQ⟩:=S11.out.2.1.look;obtain⟨_,_,ku1,ku2⟩:=HQ q11 (zC _ _);clear HQ;rw[HZ.out.1]at ku1;rw[HZ.out.2.1]at ku2;have LZ:=aa S11.out.2.1.m;have lz:(prog.info? 34).map (·.size)=some cz.toList.length:=by rw[Array.length_toList,S11.out.2.1.r.len];exact bf
 go_wp2_with (refine lf (by rfl) 34 (.tmp 10) rfl zv 0 rfl cz.toList _ (DW LZ.out) underlying34 rfl lz ?_)
 clear ku1 ku2 LZ lz kA0 kA1 kA2 kA3 kA4 kA5 kC0 kC1 kC2 kC3 kC4 kC5;refine(A3 S11.out.2.1.r HZ.out.2.2 HK.out.1 HK.out.2 EQ.out.2.2 q11).mono ?_;rintro e w12⟨rfl,hb⟩;have S12:=aa (zA (S11.out.1.up hb) (S11.out.2.2.up hb));clear hb S11 HZ;obtain⟨ca,cb,l1,l2,ks1,ks2,HQ⟩:=S12.out.2.look;have HV:=aa HQ;obtain⟨_,_,ku1,ku2⟩:=HQ w12 (zC _ _);clear HQ;rcases uh HY with⟨hu,hl⟩|⟨hu,hst⟩
 .rw [zK]at hu;rw[hu.1]at ku1;rw[hu.2]at ku2;have HLn:=aa hl;clear hu hl HY HV ks1 ks2;obtain⟨kA0,kA1,kA2,kA3,kA4,kA5,kC0,kC1,kC2,kC3,kC4,kC5⟩:=S12.out.1.cells;have LZ:=aa S12.out.2.m;have lz:(prog.info? 34).map (·.size)=some cy.toList.length:=by rw[Array.length_toList,S12.out.2.r.len];exact bf
  go_wp2_with (refine lf (by rfl) 34 (.tmp 9) rfl yv 0 rfl cy.toList _ (DW LZ.out) underlying34 rfl lz ?_)
  clear ku1 ku2 LZ lz kA0 kA1 kA2 kA3 kA4 kA5 kC0 kC1 kC2 kC3 kC4 kC5;refine(A3 S12.out.2.r HLn.out HK.out.1 HK.out.2 EQ.out.2.2 w12).mono ?_;rintro e w13⟨rfl,hb⟩;go_wp2_with fail
  go_ret
  exact⟨rfl,S12.out.1.low.trans (hb.mono S12.out.1.low.size)⟩
 .have HST:=aa hst;clear hst HY HK EQ;generalize o2.a.e.up=u1 at*;generalize o2.b.e.up=u2 at*;generalize o2.a.e.st=s1 at*;generalize o2.b.e.st=s2 at*;have R5:=aa (uh HV w12 (zC _ _)).1;have CO:=aa (Ev ca s1 ks1);have CP:=aa (Ev cb s2 ks2);clear ks1 ks2;have hu3:u1=false\/(u1=true/\u2=false):=by
   revert hu
   cases u1<;>cases u2<;>decide
  clear hu;rcases hu3 with rfl|⟨rfl,rfl⟩
  all_goals
   go_wp2_with (refine lf (by rfl) 32 (.tmp 103) rfl yv 0 rfl ca.toList _ R5.out underlying32 rfl (by rw[Array.length_toList,l1];exact aL) ?_)
   clear R5 ku1 ku2;refine(uh CO w12).mono ?_;rintro e w13⟨rfl,hb⟩;have L13:=aa (S12.out.1.low.trans (hb.mono S12.out.1.low.size));have R6:=aa (uh HV w13 hb).2.1;clear hb S12 HV CO;cases hs:(s1==2||s1==3)
   .have hs2:(s2==2||s2==3)=true:=by
     rcases uh HST with h|h
     .rw [h]at hs;exact absurd hs (by decide)
     .rw [h];decide
    rw[hs2]at CP;clear HST hs hs2;go_wp2_with (refine lf (by rfl) 32 (.tmp 107) rfl yv 30 rfl cb.toList _ R6.out underlying32 rfl (by rw[Array.length_toList,l2];exact aL) ?_)
    refine(uh CP w13).mono ?_;rintro e w14⟨rfl,hb⟩;go_wp2_with fail
    go_ret
    exact⟨rfl,L13.out.trans (hb.mono L13.out.size)⟩
   .clear HST hs CP R6;go_wp2_with fail
    go_ret
    exact⟨rfl,uh L13⟩
end Go.Proofs.YtjdgiimfpkideaaGreatDoor
