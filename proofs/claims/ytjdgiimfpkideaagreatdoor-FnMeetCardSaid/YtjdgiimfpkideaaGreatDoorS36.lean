/- MtF MtG MtS -/
import Derived.Test.YtjdgiimfpkideaaGreatDoorS32
set_option maxHeartbeats 8000000
set_option maxRecDepth 100000
namespace Go.Proofs.YtjdgiimfpkideaaGreatDoor
open Go.RowKit Go.Proofs.Tryz
variable {w W W' q:World} {base size n b i B:Nat} {e T:TypeId} {v vs v' sv xv:Value} {xs ca cl X Z:List Value} {s:Sd} {L M:List Op.Pk} {o:EO} {a:Act} {Q:Exit->Act->World->Prop} {P:Value->World->Prop}
theorem jY{w':World}(h:w.ownsRow base e size v n xs)(hb:∀(g:Nat)(cur:Array Value),w.heap[g]?=some (.cells cur e)->w'.heap[g]?=w.heap[g]?):w'.ownsRow base e size v n xs :=
 ⟨h.1,h.2.imp id fun⟨g,cap,cur,h1,h2,h3,h4⟩=>⟨g,cap,cur,h1,h2,(hb g cur h3).trans h3,h4⟩⟩
theorem dV{b':Nat}(h:w.ownsRow b e size v n xs)(hb:b'<=b):w.ownsRow b' e size v n xs :=
 ⟨h.1,h.2.imp id fun⟨g,cap,cur,h1,h2,h3⟩=>⟨g,cap,cur,h1,zE hb h2,h3⟩⟩
def EnM(base:Nat)(W:World)(ca:List Value)(s:Sd):Prop:=∃(x1 x2:Option Addr)(y1 y2:Nat),ca=(aA s.e (x1,s.F1.length,y1) (x2,s.F2.length,y2)).toList/\W.ownsRow base 105 2 (x1,s.F1.length,y1) s.F1.length (aj s.F1)/\W.ownsRow base 105 2 (x2,s.F2.length,y2) s.F2.length (aj s.F2)/\Ap (x1,s.F1.length,y1) (.slice x2 s.F2.length y2)/\s.F1.length<=100000/\s.F2.length<=100000
theorem EnM.len(h:EnM base W ca s):ca.length=30:=by
 obtain⟨x1,x2,y1,y2,rfl,_⟩:=h;rfl
theorem EnM.one(h:EnM base W ca s):ca.toArray.all (·.oneCell')=true:=by
 obtain⟨x1,x2,y1,y2,rfl,_⟩:=h;exact nN _ _ _ _ _ _ _
theorem EnM.keep(h:EnM base W ca s)(k:∀(g:Nat)(cur:Array Value),W.heap[g]?=some (.cells cur 105)->W'.heap[g]?=W.heap[g]?):EnM base W' ca s:=by
 obtain⟨x1,x2,y1,y2,rfl,h1,h2,l⟩:=h;exact⟨x1,x2,y1,y2,rfl,jY h1 k,jY h2 k,l⟩
theorem EnM.ln(h:EnM base W ca s)(l:List Op.Pk):EnM base W ca (dN s l):=h
def kK(ca:List Value)(g:Nat):Prop:=(∃v,ca[17]?=some v/\v.ownBlock=some g)\/∃v,ca[18]?=some v/\v.ownBlock=some g
theorem EnM.blk(h:EnM base W ca s)(g:Nat)(hg:kK ca g):base<=g/\g<W.heap.size:=by
 obtain⟨x1,x2,y1,y2,rfl,h1,h2,_⟩:=h;rcases hg with⟨v,e,hv⟩|⟨v,e,hv⟩
 .have e':some (Value.slice x1 s.F1.length y1)=some v:=e;cases e';exact h1.lt g hv
 .have e':some (Value.slice x2 s.F2.length y2)=some v:=e;cases e';exact h2.lt g hv
def Nb9(W:World)(ca ca':List Value):Prop:=∀g,kK ca' g->kK ca g\/W.heap.size<=g
theorem Nb9.refl(W:World)(ca:List Value):Nb9 W ca ca:=fun _ h=>Or.inl h
structure Sl(base:Nat)(T:TypeId)(W:World)(B:Nat)(X Z:List Value)(s:Sd)(ca:List Value)(v:Value):Prop where
 wr:Wr base T W B (X++ca) Z v s.ln
 en:EnM base W ca s
 nO:T≠105
section
variable {base:Nat} {T:TypeId} {W W':World} {B:Nat} {X Z ca:List Value} {s:Sd} {v v':Value}
theorem Sl.row(h:Sl base T W B X Z s ca v):W.heap[B]?=some (.cells (X++ca++([v]++Z)).toArray T):=by
 rw[<- List.append_assoc];exact h.wr.row
theorem Sl.keepO(h:Sl base T W B X Z s ca v)(f:Fr B v v' W W'):∀(g:Nat)(cur:Array Value),W.heap[g]?=some (.cells cur 105)->W'.heap[g]?=W.heap[g]?:=fun g cur hg=>by
 refine f.same g (ge.1 hg).1 (fun e=>?_) (fun e=>?_)
 .rw [e,h.wr.row]at hg;injection hg with hg;injection hg with _ hg;exact h.nO hg
 .obtain ⟨_,_,_,cur',h2⟩:=h.wr.ownB g e;rw[hg]at h2;injection h2 with h2;injection h2 with _ h2;exact absurd h2 (by decide)
theorem Sl.below(h:Sl base T W B X Z s ca v)(hb:Below W W W'):Sl base T W' B X Z s ca v :=
 ⟨h.wr.below hb,h.en.keep (h.keepO (Fr.of_below (v:=v) (B:=B) hb)),h.nO⟩
theorem Sl.line(h:Sl base T W B X Z s ca v)(f:Fr B v v' W W')(w:Wr base T W' B (X++ca) Z v' L):Sl base T W' B X Z (dN s L) ca v' :=
 ⟨w,(h.en.keep (h.keepO f)).ln L,h.nO⟩
theorem Sl.setE(h:Sl base T W B X Z s ca v){cb:List Value}{s':Sd}(he:EnM base W cb s')(hl:s'.ln=s.ln):Sl base T (W.setCells B X.length cb) B X Z s' cb v/\Fr B v v W (W.setCells B X.length cb):=by
 have f:=Fr.cells (B:=B) v v W (fun _ hg=>Or.inl hg) X.length cb;have r:=cH ca cb X ([v]++Z) W h.row (by rw[he.len,h.en.len]);refine⟨⟨⟨by rw[r,<- List.append_assoc],?_,by rw[hl];exact h.wr.le,zE h.wr.bs f.size,h.wr.nT⟩,he.keep (h.keepO f),h.nO⟩,f⟩;rw[hl];exact h.wr.hk.keep fun g cur hg _ _=>bu (h.wr.ownB g hg).1 cb _ W
end
def AnE(b:Nat)(W:World)(o:EO)(cl:List Value)(vs:Value):Prop:=∃(x1 x2 a3 a4:Option Addr)(y1 y2 c3 c4:Nat),cl=(aC o.e (x1,o.F1.length,y1) (x2,o.F2.length,y2) (a3,o.sn.length,c3) (a4,o.tl.length,c4) o.cd).toList/\vs=.slice a3 o.sn.length c3/\W.ownsRow b 105 2 (x1,o.F1.length,y1) o.F1.length (aj o.F1)/\W.ownsRow b 105 2 (x2,o.F2.length,y2) o.F2.length (aj o.F2)/\Ap (x1,o.F1.length,y1) (.slice x2 o.F2.length y2)/\HoldsP W vs o.sn
theorem AnE.len(h:AnE b W o cl vs):cl.length=33:=by
 obtain⟨x1,x2,a3,a4,y1,y2,c3,c4,rfl,_⟩:=h;kernel_rfl
theorem AnE.one(h:AnE b W o cl vs):cl.toArray.all (·.oneCell')=true:=by
 obtain⟨x1,x2,a3,a4,y1,y2,c3,c4,rfl,_⟩:=h;exact aG _ _ _ _ _ _ _ _ _ _ _ _ _ _
theorem AnE.cd(h:AnE b W o cl vs):cl[32]?=some (.int .i64 o.cd)/\cl[30]?=some vs:=by
 obtain⟨x1,x2,a3,a4,y1,y2,c3,c4,rfl,rfl,_⟩:=h;exact⟨by kernel_rfl,by kernel_rfl⟩
theorem AnE.en(h:AnE b W o cl vs)(hB:EoB o)(L:List Op.Pk)(hb:base<=b):EnM base W (cl.take 30) ⟨o.e,o.F1,o.F2,L⟩:=by
 obtain⟨x1,x2,a3,a4,y1,y2,c3,c4,rfl,rfl,h1,h2,ap,_⟩:=h;exact⟨x1,x2,y1,y2,by kernel_rfl,dV h1 hb,dV h2 hb,ap,zE hB.l1 (by decide),zE hB.l2 (by decide)⟩
theorem AnE.form(h:AnE b W o cl vs):∃a c,vs=.slice a o.sn.length c:=by
 obtain⟨x1,x2,a3,a4,y1,y2,c3,c4,rfl,rfl,_⟩:=h;exact⟨_,_,rfl⟩
theorem AnE.hp(h:AnE b W o cl vs):HoldsP W vs o.sn:=by
 obtain⟨x1,x2,a3,a4,y1,y2,c3,c4,rfl,rfl,_,_,_,h⟩:=h;exact h
theorem AnE.of{r:Ending}(h:EvA W o r q):∃cl vs,r=.returned (.agg cl.toArray)/\AnE W q o cl vs/\(∀g,vs.ownBlock=some g->W.heap.size<=g)/\Below W W q:=by
 obtain⟨v1,v2,vs,vt,e,o1,o2,os,ot,ap,lo⟩:=h;obtain⟨a1,p1,e1⟩:=af o1;obtain⟨a2,p2,e2⟩:=af o2;obtain⟨a3,p3,e3⟩:=af os;obtain⟨a4,p4,e4⟩:=af ot;subst e1 e2 e3 e4;exact⟨_,_,by rw[e,Array.toArray_toList],⟨a1,a2,a3,a4,p1,p2,p3,p4,rfl,rfl,o1,o2,ap,HoldsP.own os⟩,fun g hg=>(os.lt g hg).1,lo⟩
structure Fo(base:Nat)(T:TypeId)(W0:World)(B E:Nat)(X Z:List Value)(s:Sd)(v:Value)(o:EO)(cl:List Value)(vs:Value)(ca:List Value)(s1:Sd)(y:World):Prop where
 sl:∃ca' v',Sl base T y B X Z s1 ca' v'/\Fr B v v' W0 y/\(ca'=ca\/ca'=cl.take 30)
 er:y.heap[E]?=some (.cells cl.toArray 74)
 hp:HoldsP y vs o.sn
section
variable {base:Nat} {T:TypeId} {W0:World} {B E:Nat} {X Z:List Value} {v:Value} {o:EO} {cl:List Value} {vs:Value} {y:World}
theorem te(hE:W0.heap[E]?=some (.cells cl.toArray 74))(hp:HoldsP W0 vs o.sn)(hT:T≠85/\T≠74)(hB:∃c,W0.heap[B]?=some (.cells c T))(hv:∀g,v.ownBlock=some g->∃c,W0.heap[g]?=some (.cells c 85))(hap:∀g,vs.ownBlock=some g->v.ownBlock≠some g)(f:Fr B v v' W0 y):y.heap[E]?=some (.cells cl.toArray 74)/\HoldsP y vs o.sn:=by
 obtain⟨c,hB⟩:=hB;refine⟨(f.same E (ge.1 hE).1 (fun e=>?_) (fun e=>?_)).trans hE,hp.imp id fun⟨g,cp,cur,e,q1,q2⟩=>⟨g,cp,cur,e,(f.same g (ge.1 q1).1 (fun e=>?_) (hap g (by rw[e];rfl))).trans q1,q2⟩⟩
 .rw [e,hB]at hE;injection hE with hE;injection hE with _ hE;exact hT.2 hE
 .obtain ⟨c',h'⟩:=hv E e;rw[hE]at h';injection h' with h';injection h' with _ h';exact absurd h' (by decide)
 .rw [e,hB]at q1;injection q1 with q1;injection q1 with _ q1;exact hT.1 q1
end
theorem tJ{g:Nat}{cur:Array Value}(h:W.heap[g]?=some (.cells cur 85))(hc:∀j,j<L.length*3->cur[j]?=(ae L)[j]?)(hi:i<L.length):W.cell? ⟨g,i*3,none⟩=some (.int .i64 L[i].code)/\W.cell? ⟨g,i*3+1,none⟩=some (.int .i64 L[i].id)/\W.cell? ⟨g,i*3+2,none⟩=some (.string L[i].data):=by
 have key:∀(L:List Op.Pk)(i:Nat)(hi:i<L.length),(ae L)[i*3]?=some (.int .i64 L[i].code)/\(ae L)[i*3+1]?=some (.int .i64 L[i].id)/\(ae L)[i*3+2]?=some (.string L[i].data):=by
  intro L;induction L with
  | nil=>intro i hi;simp at hi
  | cons p L ih =>
   intro i hi;have e:ae (p::L)=.int .i64 p.code :: .int .i64 p.id :: .string p.data::ae L:=rfl;cases i with
   | zero=>exact⟨rfl,rfl,rfl⟩
   | succ i =>
    have:=ih i (by simpa using hi)
    rw[e,show(i+1)*3=i*3+1+1+1 by omega];exact this
 obtain⟨k0,k1,k2⟩:=key L i hi;exact⟨by rw[cr h,hc _ (by omega)];exact k0,by rw[cr h,hc _ (by omega)];exact k1,by rw[cr h,hc _ (by omega)];exact k2⟩
theorem tf(h:Sl base T W B X Z s ca v)(hTE:T≠74)(hA:AnE b W o cl vs)(hbb:base<=b)(hK:ve o)(hap:∀g,vs.ownBlock=some g->v.ownBlock≠some g):Calls prog 62 #[(B,X.length),.agg cl.toArray] W fun e W'=>e=.returned (.tuple #[])/\∃ca' v',Sl base T W' B X Z (be s o) ca' v'/\Fr B v v' W W'/\(ca'=ca\/ca'=cl.take 30):=by
 obtain⟨s1,hs1⟩:∃s1:Sd,(if o.cd=0 then⟨o.e,o.F1,o.F2,s.ln⟩else s)=s1:=⟨_,rfl⟩;have hl1:s1.ln=s.ln:=by rw[<- hs1];split<;>rfl
 have hfin:be s o=dN s1 ((s.ln++o.sn.take o.sn.length).take 40):=by
  rw[List.take_length];unfold be;split
  .rename_i h0
   rw[<- hs1,if_pos h0];rfl
  .rename_i h0
   rw[<- hs1,if_neg h0,hK.1 h0,List.append_nil,List.take_of_length_le h.wr.le];rfl
 have h00:dN s1 ((s.ln++o.sn.take 0).take 40)=s1:=by
  rw[List.take_zero,List.append_nil,List.take_of_length_le h.wr.le,<- hl1];rfl
 have hb:Below W W (W.alloc (.cells cl.toArray 74)):=(zC _ _).alloc (zD _) _;have hE:=zF W (.cells cl.toArray 74);have h0:=h.below hb;have hp0:HoldsP (W.alloc (.cells cl.toArray 74)) vs o.sn:=hA.hp.imp id fun⟨g,cp,cur,e,q1,q2⟩=>⟨g,cp,cur,e,(hb.block g (ge.1 q1).1).trans q1,q2⟩
 have hen:EnM base (W.alloc (.cells cl.toArray 74)) (cl.take 30) ⟨o.e,o.F1,o.F2,s.ln⟩:=(hA.en hK.2 s.ln hbb).keep fun g cur hg=>hb.block g (ge.1 hg).1
 have HK0:=aa fun(y:World) (v':Value) (f:Fr B v v' (W.alloc (.cells cl.toArray 74)) y)=>te hE hp0 ⟨h.wr.nT,hTE⟩ ⟨_,h0.wr.row⟩ (fun g hg=>(h0.wr.ownB g hg).2.2.2) hap f
 have hlen:=hA.len;have hone:=hA.one;have hcd:=hA.cd;obtain⟨a3,c3,hvs⟩:=hA.form;have hsn:o.sn.length<=100:=hK.2.l3;have HS:=aa (zA h0 (zA hen (zA hE hp0)));have HB:=aa hb;have hXl:(X++ca).length=X.length+30:=by rw[List.length_append,h.en.len]
 clear h h0 hen hp0 hb hA hE;subst hvs;generalize hWW:W.alloc (.cells cl.toArray 74)=W0 at HS HB HK0;generalize hEE:W.heap.size=E at HS HB HK0;generalize hk:X.length=k at*;go_enter func62,ntmps62
 go_upto_region 1 with(refine Great.wpList_allocTo rfl (some 3) rfl (W,0) (.cells cl.toArray 74) (by simp[go_sem]) ?_)
 rw[hWW,hEE];have hS:W0.drew.rangeAt E 0 cl:=Bi HS.out.2.2.1;refine wp_region_held_drew (S:=fun z=>z.rangeAt E 0 cl) (by kernel_rfl) hS (fun hHeld=>?_);refine tt 0 1 ?_;refine t2 2 ?_;refine t4 3 (.agg cl.toArray) rfl (yieldsIf_load_mid (by rfl) 74 (.tmp 3) rfl E 0 rfl cl _ (fun _ h=>h) underlying74 rfl (by rw[hlen];exact aw)) ?_;try simp only[Act.put,sA,sZ,sS,gA,gZ,gS]
 refine r3 4 fun K hK=>?_
 have CB:=td (W:=W0.drew) HS.out.1.row HS.out.1.en.len cl o.cd hlen hone hcd.1;rw[hk]at CB;go_simp;refine CB.mono ?_;rintro e y⟨rfl,W1,hb1,hy⟩;have H1:Hid (∃ca1,Sl base T y B X Z s1 ca1 v/\Fr B v v W0 y/\(ca1=ca\/ca1=cl.take 30)):=aa (by
  have hd:Below W0 W0 W1:=(zC W0 W0).drew.trans hb1;have h1:=HS.out.1.below hd;by_cases c0:o.cd=0
  .rw [if_pos c0,<- hk]at hy;obtain⟨h2,h3⟩:=h1.setE (HS.out.2.1.keep fun g cur hg=>hd.block g (ge.1 hg).1) rfl;rw[<- hs1,if_pos c0,hy];exact⟨_,h2,(Fr.of_below hd).trans h3,Or.inr rfl⟩
  .rw [if_neg c0]at hy;rw[<- hs1,if_neg c0,hy];exact⟨_,h1,Fr.of_below hd,Or.inl rfl⟩)
 have FO:Hid (Fo base T W0 B E X Z s v o cl (a3,o.sn.length,c3) ca s1 y):=aa (by
  obtain⟨ca1,h1,h2,h5⟩:=uh H1;obtain⟨h3,h4⟩:=uh HK0 y v h2;exact⟨⟨ca1,v,h1,h2,h5⟩,h3,h4⟩)
 clear hb1 hy H1 CB;refine ro hK (Bi FO.out.er) fun _=>?_
 clear hK K hHeld hS;refine dn ?_ _;have c30:y.cell? (E,30)=some (.slice a3 o.sn.length c3):=by rw[cr FO.out.er,List.getElem?_toArray];exact hcd.2
 rw[<- h00]at FO;generalize hn:o.sn.length=n at*;go_wp2_with fail
 clear c30;go_loopw [14] (fun p wr=>∃i:Nat,i<=n/\p=.int .i64 i/\Fo base T W0 B E X Z s v o cl (a3,n,c3) ca (dN s1 ((s.ln++o.sn.take i).take 40)) wr) (fun p _=>n-(intOf p).toNat)
 case atStart=>exact⟨0,Nat.zero_le _,rfl,uh FO⟩
 case round =>
  obtain⟨i,hi,rfl,hF⟩:=hrel;clear FO;by_cases hlt:i<n
  .have d1:(i:Int)<(n:Int):=by omega
   obtain⟨ca',v',hsl,hf,hor⟩:=hF.sl;obtain⟨g,ea3,cur,q1,q3⟩ : ∃g,a3=some ⟨g,0,none⟩/\∃cur,wr.heap[g]?=some (.cells cur 85)/\∀j,j<n*3->cur[j]?=(ae o.sn)[j]?:=by
    rcases hF.hp with⟨ad,cp,e,e2⟩|⟨g,cp,cur,e,q1,_,q3⟩
    .rw [e2]at hn;simp at hn;omega
    .injection e with e _ _;exact⟨g,e,cur,q1,fun j hj=>q3 j (by rw[hn];exact hj)⟩
   subst ea3;have hi2:i<o.sn.length:=by omega
   obtain⟨x0,x1,x2⟩:=tJ q1 (by rw[hn];exact q3) hi2;have hput:Hid (∀z:World,Below wr wr z->Calls prog 81 #[(B,k+30),.agg #[.int .i64 o.sn[i].code,.int .i64 o.sn[i].id,.string o.sn[i].data]] z fun e W'=>e=.returned (.tuple #[])/\Fo base T W0 B E X Z s v o cl (.slice (some (g,0)) n c3) ca (dN s1 ((s.ln++o.sn.take (i+1)).take 40)) W'):=aa fun z hz=>by
    have hw:=(hsl.below hz).wr;have hl9:(X++ca').length=k+30:=by rw[List.length_append,hsl.en.len,hk]
    rw[<- hl9];refine(xN hw o.sn[i]).mono ?_;rintro e W'⟨rfl,v2,hw2,hf2⟩;have e40:=xM s.ln o.sn i hi2;have hfr:=hf.trans ((Fr.of_below hz).trans hf2);have h3:=hsl.line ((Fr.of_below hz).trans hf2) hw2;obtain⟨k1,k2⟩:=uh HK0 W' v2 hfr;rw[show(dN s1 ((s.ln++o.sn.take i).take 40)).ln=(s.ln++o.sn.take i).take 40 from rfl,e40]at h3;exact⟨rfl,⟨ca',v2,h3,hfr,hor⟩,k1,k2⟩
   clear hsl hf hF q1 q3 hor;generalize o.sn[i]=p at*;obtain⟨pc,pi,pd⟩:=p;dsimp only at x0 x1 x2 hput;go_upto_region 5 with fail
   have hbz:Below wr wr (wr.alloc (.cells #[pc,pi,pd] 85)):=(zC _ _).alloc (zD _) _;have hN:=zF wr (.cells #[pc,pi,pd] 85);have HZ:=aa (zA hbz hN);clear hbz hN;generalize wr.alloc (.cells #[pc,pi,pd] 85)=z at HZ|-;have hNz:=HZ.out.1.size;generalize wr.heap.size=N at HZ hput hNz|-;refine wp_region_held_drew (S:=fun _=>True) (by kernel_rfl) trivial (fun hHeld=>?_);have y0:z.drew.cell? (N,0)=some (.int .i64 pc):=by rw[cr (w:=z.drew) HZ.out.2];rfl
   have y1:z.drew.cell? (N,1)=some (.int .i64 pi):=by rw[cr (w:=z.drew) HZ.out.2];rfl
   have y2:z.drew.cell? (N,2)=some (.string pd):=by rw[cr (w:=z.drew) HZ.out.2];rfl
   have hbd:Below N wr z.drew:=HZ.out.1.trans ((zC _ _).drew.mono hNz);refine tt 0 1 ?_;refine t2 2 ?_;refine r3 3 fun K hK=>?_
   go_simp;refine ro hK trivial fun _=>?_
   clear hK K;refine r3 4 fun K hK=>?_
   go_simp;refine(uh hput z.drew hbd).mono ?_;rintro e z2⟨rfl,hF2⟩;have HF2:=aa hF2;clear hF2;refine ro hK trivial fun _=>?_
   clear hK K;refine dn ?_ _;go_wp2_with fail
   go_roundw
   case rel=>exact⟨i+1,by omega,by go_num,uh HF2⟩
   case measure=>simp[intOf];omega
  .have e:i=n:=by omega
   subst e;have d1:¬((i:Int)<(i:Int)):=by omega
   have HF:=aa hF;clear hF;go_wp2_with fail
   refine zI ?_;obtain⟨ca',v',hsl,hf,hor⟩:=HF.out.sl;refine⟨rfl,ca',v',?_,?_,hor⟩
   .first|exact hsl|(rw[hfin];exact hsl)
   .rw [<- hEE]at HB;exact(Fr.of_below HB.out).trans hf
def Lo(base:Nat)(W:World):Prop:=∃w0:World,w0.heap.size=base/\(EvT w0/\NxT w0/\SpT w0/\Et w0)/\Below base w0 W
theorem Lo.tabs(h:Lo base W):EvT W/\NxT W/\SpT W/\Et W:=by
 obtain⟨w0,rfl,⟨h1,h2,h3,h4⟩,hb⟩:=h;exact⟨h1.below hb,h2.below hb,h3.below hb,h4.below hb h4.lt⟩
theorem Lo.step(h:Lo base W)(hb:Below base W W'):Lo base W':=by
 obtain⟨w0,e,ht,h0⟩:=h;exact⟨w0,e,ht,h0.trans hb⟩
theorem Fr.low(f:Fr B v v' W W')(hB:base<=B)(hv:∀g,v.ownBlock=some g->base<=g)(hs:base<=W.heap.size):Below base W W' :=
 ⟨f.os,f.tape,f.output,f.size,fun k hk=>f.same k (by omega) (by omega) (fun e=>by have:=hv k e;omega)⟩
theorem Lo.fr(h:Lo base W)(hs:Sl base T W B X Z s ca v)(hB:base<=B)(f:Fr B v v' W W'):Lo base W' :=
 h.step (f.low hB (fun g hg=>(hs.wr.ownB g hg).2.1) hs.wr.bs)
theorem Lo.le(h:Lo base W):base<=W.heap.size:=by
 obtain⟨w0,rfl,_,hb⟩:=h;exact hb.size
def vB(W:World)(o:EO)(r:Ending)(q:World):Prop:=∃cl vs,r=.returned (.agg cl.toArray)/\AnE W q o cl vs/\(∀g,vs.ownBlock=some g->W.heap.size<=g)/\Below W W q
theorem cDo(h:EnM b W ca s)(hL:Lo base W)(t:ByteArray)(now:Int):Calls prog 63 #[.agg ca.toArray,t,now] W fun r q=>vB W (kC s.e s.F1 s.F2 t now) r q:=by
 obtain⟨x1,x2,y1,y2,rfl,o1,o2,_,l1,l2⟩:=h;have h1:=HoldsO.own o1;have h2:=HoldsO.own o2;obtain⟨t1,t2,t3,_⟩:=hL.tabs;rw[Array.toArray_toList];exact(u_ s.e x1 x2 y1 y2 s.F1 s.F2 t now W (by omega) (by omega) h1 h2 t1 t2 t3).mono fun r q hq=>AnE.of hq
theorem xR(h:EnM b W ca s)(hL:Lo base W)(now:Int):Calls prog 91 #[.agg ca.toArray,now] W fun r q=>vB W (dq s.e s.F1 s.F2 now) r q:=by
 obtain⟨x1,x2,y1,y2,rfl,o1,o2,_,l1,l2⟩:=h;have h1:=HoldsO.own o1;have h2:=HoldsO.own o2;obtain⟨t1,t2,t3,_⟩:=hL.tabs;rw[Array.toArray_toList];exact(qL s.e x1 x2 y1 y2 s.F1 s.F2 now W (by omega) (by omega) h1 h2 t1 t2 t3).mono fun r q hq=>AnE.of hq
theorem tK(h:EnM b W ca s)(hL:Lo base W)(p:Op.Pk)(now:Int):Calls prog 67 #[.agg ca.toArray,.agg #[p.code,p.id,p.data],now] W fun r q=>vB W (bn s.e s.F1 s.F2 p now) r q:=by
 obtain⟨x1,x2,y1,y2,rfl,o1,o2,_,l1,l2⟩:=h;have h1:=HoldsO.own o1;have h2:=HoldsO.own o2;obtain⟨t1,t2,t3,t4⟩:=hL.tabs;rw[Array.toArray_toList];exact(qM s.e x1 x2 y1 y2 s.F1 s.F2 p now W (by omega) (by omega) h1 h2 t1 t2 t3 t4).mono fun r q hq=>AnE.of hq
theorem th(h:Sl base T W B X Z s ca v)(hTE:T≠74)(hK:ve o)(hA:AnE W q o cl vs)(hf:∀g,vs.ownBlock=some g->W.heap.size<=g)(hb:Below W W q):Calls prog 62 #[(B,X.length),.agg cl.toArray] q fun e W'=>e=.returned (.tuple #[])/\∃ca' v',Sl base T W' B X Z (be s o) ca' v'/\Fr B v v' W W'/\Nb9 W ca ca':=by
 refine(tf (h.below hb) hTE hA h.wr.bs hK (fun g hg e=>?_)).mono ?_
 .have h1:=hf g hg;have h2:=(h.wr.ownB g e).2.2.1;omega
 .rintro e W' ⟨rfl,ca',v',h1,h2,h3⟩;refine⟨rfl,ca',v',h1,(Fr.of_below hb).trans h2,fun g hg=>?_⟩;rcases h3 with rfl|rfl
  .exact Or.inl hg
  .exact Or.inr ((hA.en hK.2 [] (zD _)).blk g hg).1
theorem xS(h:Sl base T W B X Z s ca v)(hTE:T≠74)(hL:Lo base W)(t:ByteArray)(now:Int):Calls prog 39 #[(B,X.length),t,now] W fun e W'=>e=.returned (.tuple #[])/\∃ca' v',Sl base T W' B X Z (oe s t now) ca' v'/\Fr B v v' W W'/\Nb9 W ca ca':=by
 have C1:=aa (cDo h.en hL t now);have C2:=aa fun q cl vs (hA:AnE W q (kC s.e s.F1 s.F2 t now) cl vs) (hf:∀g,vs.ownBlock=some g->W.heap.size<=g) (hb:Below W W q)=>th h hTE (lW _ _ _ _ _) hA hf hb
 have R:=aa (aS h.row);have hl:=h.en.len;clear h hL;have hu:∀a:Sd,be s (kC s.e s.F1 s.F2 t now)=a->be s (kC s.e s.F1 s.F2 t now)=a:=fun _ h=>h
 clear hu;unfold oe;generalize kC s.e s.F1 s.F2 t now=o at*;generalize X.length=k at*;go_enter func39,ntmps39
 go_wp2_with (refine wpList_load_mid rfl 32 (.tmp 9) rfl B k rfl ca _ R.out underlying32 rfl (by rw[hl];exact aL) ?_)
 refine C1.out.mono ?_;rintro r q⟨cl,vs,rfl,hA,hf,hb⟩;have HA:=aa (zA hA (zA hf hb));clear hA hf hb;go_wp2_with fail
 refine(uh C2 q cl vs HA.out.1 HA.out.2.1 HA.out.2.2).mono ?_;rintro e W'⟨rfl,hq⟩;have HQ:=aa hq;clear hq;go_wp2_with fail
 refine zI ?_;exact⟨rfl,uh HQ⟩
theorem Dx(h:Sl base T W B X Z s ca v)(hTE:T≠74)(hL:Lo base W)(now:Int):Calls prog 66 #[(B,X.length),now] W fun e W'=>e=.returned (.tuple #[])/\∃ca' v',Sl base T W' B X Z (gd s now) ca' v'/\Fr B v v' W W'/\Nb9 W ca ca':=by
 have C1:=aa (xR h.en hL  now);have C2:=aa fun q cl vs (hA:AnE W q (dq s.e s.F1 s.F2 now) cl vs) (hf:∀g,vs.ownBlock=some g->W.heap.size<=g) (hb:Below W W q)=>th h hTE (kD _ _ _ _) hA hf hb
 have R:=aa (aS h.row);have hl:=h.en.len;clear h hL;have hu:∀a:Sd,be s (dq s.e s.F1 s.F2 now)=a->be s (dq s.e s.F1 s.F2 now)=a:=fun _ h=>h
 clear hu;unfold gd;generalize dq s.e s.F1 s.F2 now=o at*;generalize X.length=k at*;go_enter func66,ntmps66
 go_wp2_with (refine wpList_load_mid rfl 32 (.tmp 7) rfl B k rfl ca _ R.out underlying32 rfl (by rw[hl];exact aL) ?_)
 refine C1.out.mono ?_;rintro r q⟨cl,vs,rfl,hA,hf,hb⟩;have HA:=aa (zA hA (zA hf hb));clear hA hf hb;go_wp2_with fail
 refine(uh C2 q cl vs HA.out.1 HA.out.2.1 HA.out.2.2).mono ?_;rintro e W'⟨rfl,hq⟩;have HQ:=aa hq;clear hq;go_wp2_with fail
 refine zI ?_;exact⟨rfl,uh HQ⟩
theorem fh{b2 N cp:Nat}{s:Value}{D F:List Op.Pk}(ty:TypeId)(hn:n=D.length)(hc:n<=cp)(hv:W.ownsRow base 85 3 (.slice (some (N,0)) n cp) n (ae D))(hs:HoldsK W b2 s F)(hD:D.length<=1000)(hF:F.length<=1000)(hbase:base<=W.heap.size):∃v' W',(Builtin.append_ #[60,60] ty #[.slice (some (N,0)) n cp,s]).run prog W=.ok v' W'/\HoldsK W' base v' (D++F)/\W.grownBy W' (some N):=by
 obtain⟨i,hi,hz,hsz,hby⟩:=AF;subst hn;rcases hs with⟨rfl,rfl⟩|⟨g,o,cs,cur,rfl,h2,h3,h4,h5,h6⟩
 .rw [List.append_nil];exact⟨_,_,dW ty _ none _ _ 0 hc,HoldsK.own hv,⟨rfl,rfl,rfl,zD _,fun _ _ _=>rfl⟩⟩
 .obtain ⟨v',W',h1,r1,r2,_⟩:=run_append_own (P:=prog) W base 60 ty 85 i _ 3 32 underlying60 hi hz hsz hby rfl (by decide) _ D.length (ae D) hv (g,o) F.length cs (ae F) (aF F) (fun j u hu=>by
   have hj:j<F.length*3:=by have:=(List.getElem?_eq_some_iff.1 hu).1;rw[aF]at this;exact this
   rw[Addr.add_lit,cr h2,h6 j hj];exact hu) (cL F) (by unfold maxLen;omega) (by omega) hbase
  refine⟨v',W',h1,HoldsK.own (by rw[List.length_append,aR];exact r1),r2⟩
theorem me{ops:Array Oper}{rest:List Oper}{o:Oper}(hgd:o.guard=none)(s x:Operand)(ho:o.op=.call {callee:=.builtin .append,args:=#[s,x],argTypes:=#[60,60]})(hs:a.eval s=sv)(hx:a.eval x=xv)(hr:∀ty,∃v' w',(Builtin.append_ #[60,60] ty #[sv,xv]).run prog W=.ok v' w'/\P v' w')(h:∀v' w',P v' w'->wpList prog ops Q rest (a.put o.dst v') w'):wpList prog ops Q (o::rest) a W:=by
 refine wpList_plain hgd fun K hK=>?_
 obtain⟨v',w',hr,hp⟩:=hr o.type;unfold Oper.wp execOp;simp only[ho,resolve,invoke,builtin,Sem.run_bind,Sem.run_pure,Result.andThen_ok,List.map_toArray,List.map_cons,List.map_nil,hs,hx,hr];exact hK _ _ (h v' w' hp)
theorem bG{o:Oper}{K:Act->World->Prop}(s x:Operand)(ho:o.op=.call {callee:=.builtin .append,args:=#[s,x],argTypes:=#[60,60]})(hs:a.eval s=sv)(hx:a.eval x=xv)(hr:∀ty,∃v' w',(Builtin.append_ #[60,60] ty #[sv,xv]).run prog W=.ok v' w'/\P v' w')(h:∀v' w',P v' w'->K (a.put o.dst v') w'):o.wp prog a W K Q:=by
 obtain⟨v',w',hr,hp⟩:=hr o.type;unfold Oper.wp execOp;simp only[ho,resolve,invoke,builtin,Sem.run_bind,Sem.run_pure,Result.andThen_ok,List.map_toArray,List.map_cons,List.map_nil,hs,hx,hr];exact h v' w' hp
theorem kH(W:World)(D:List Op.Pk)(hD:D.length<=1000):(W.alloc (.cells (ae D).toArray 85)).ownsRow W 85 3 (.slice (some (W,0)) D.length D.length) D.length (ae D) :=
 ⟨aF D,Or.inr ⟨W.heap.size,D.length,_,rfl,zD _,zF W _,zD _,by unfold maxLen;omega,by rw[List.size_toArray,aF],by rw[List.take_of_length_le (by rw[<- List.size_toArray];exact Nat.le_of_eq (by rw[List.size_toArray,aF]))]⟩⟩
def Gw(v v':Value)(W W':World):Prop:=∀B,Fr B v v' W W'
theorem Gw.trans{v'':Value}{W'':World}(h:Gw v v' W W')(k:Gw v' v'' W' W''):Gw v v'' W W'':=fun B=>(h B).trans (k B)
theorem Gw.of_below(h:Below W W W'):Gw v v W W':=fun _=>Fr.of_below h
theorem Gw.at(h:Gw v v' W W')(k:Nat)(hk:k<W.heap.size)(hv:v.ownBlock≠some k):W'.heap[k]?=W.heap[k]?:=(h (k+1)).same k hk (by omega) hv
theorem Gw.low(h:Gw v v' W W')(hv:∀g,v.ownBlock=some g->base<=g)(hb:base<=W.heap.size):Below base W W' :=
 ⟨(h 0).os,(h 0).tape,(h 0).output,(h 0).size,fun k hk=>h.at k (by omega) fun e=>by have:=hv k e;omega⟩
theorem HoldsK.lo(h:HoldsK W base v L)(g:Nat)(hg:v.ownBlock=some g):base<=g/\g<W.heap.size:=by
 rcases h with⟨rfl,_⟩|⟨g',o,cp,cur,rfl,h2,h3,_⟩
 .cases hg
 .cases hg;exact⟨h3,(ge.1 h2).1⟩
theorem HoldsK.below(h:HoldsK W base v L)(hb:Below W W W'):HoldsK W' base v L:=h.keep fun g _ hg _ _=>hb.block g (h.lo g hg).2
theorem HoldsK.mono(h:HoldsK W b v L)(hb:base<=b):HoldsK W base v L :=
 h.imp id fun⟨g,o,cp,cur,e,h2,h3,h4⟩=>⟨g,o,cp,cur,e,h2,zE hb h3,h4⟩
theorem om{p:Op.Pk}{P:List Op.Pk}(hk:HoldsK W base v (p::P))(hl:P.length<=1000):Calls prog 53 #[v] W fun e W'=>∃v',e=.returned v'/\HoldsK W' W v' P/\Below W W W':=by
 obtain⟨g,o,cp,e,_⟩:=hk.first;obtain⟨b,hb1,hb2,hs⟩:=kg g o P.length cp;rw[e]at hk;obtain⟨p',P',e2,_,hk'⟩:=hk.tail hb1 hb2;cases e2;subst e;have hb:Below W W (W.alloc (.cells #[] 85)):=(zC _ _).alloc (zD _) _;have HR:Hid (∀ty,∃v' w',(Builtin.append_ #[60,60] ty #[.slice (some (W,0)) 0 0,.slice (some b) P.length cp]).run prog (W.alloc (.cells #[] 85))=.ok v' w'/\(HoldsK w' W v' P/\Below W W w')):=aa fun ty=>by
  obtain⟨v',w',h1,h2,h3⟩:=fh (base:=W.heap.size) (D:=[]) (F:=P) ty rfl (zD 0) (kH W [] (by simp)) (hk'.below hb) (by simp) hl (by simp);exact⟨v',w',h1,h2,hb.trans ⟨h3.os,h3.tape,h3.output,h3.size,fun k hk=>h3.block k (by simp;omega) (fun e=>by cases e;omega)⟩⟩
 clear hk hk' hb1 hb2 hb;go_enter func53,ntmps53
 go_wp2_with (refine me rfl _ _ rfl rfl rfl HR.out ?_;intro v' w' hP)
 have HP:=aa hP;clear hP;go_wp2
 go_ret
 exact⟨_,rfl,uh HP⟩
theorem tm(L M:List Op.Pk)(i:Nat)(h:(L++M.take i).length<=40)(he:i=M.length\/40<=(L++M.take i).length):(L++M).take 40=L++M.take i:=by
 rcases he with rfl|he
 .rw [List.take_length]at h|-;exact List.take_of_length_le h
 .have e:L++M=(L++M.take i)++M.drop i:=by rw[List.append_assoc,List.take_append_drop]
  rw[e,List.take_append_of_le_length he,List.take_of_length_le h]
structure PutI(base:Nat)(v:Value)(L M:List Op.Pk)(W:World)(i n:Nat)(x:Value)(wr:World):Prop where
 ln:(L++M.take i).length=n
 hk:HoldsK wr base x (L++M.take i)
 gw:Gw v x W wr
theorem PutI.next{x:Value}{wr:World}(h:PutI base v L M W i n x wr)(hi:i<M.length)(hn:n<40)(_:M.length<=1000)(hbase:base<=W.heap.size)(ty:TypeId):∃v' w',(Builtin.append_ #[60,60] ty #[x,.slice (some (wr,0)) 1 1]).run prog (wr.alloc (.cells #[.int .i64 M[i].code,.int .i64 M[i].id,.string M[i].data] 85))=.ok v' w'/\PutI base v L M W (i+1) (n+1) v' w':=by
 have hb:Below wr wr (wr.alloc (.cells #[.int .i64 M[i].code,.int .i64 M[i].id,.string M[i].data] 85)):=(zC _ _).alloc (zD _) _;have hs:HoldsP (wr.alloc (.cells #[.int .i64 M[i].code,.int .i64 M[i].id,.string M[i].data] 85)) (.slice (some (wr,0)) 1 1) [M[i]]:=by
  refine Or.inr ⟨_,1,_,rfl,zF _ _,zD 3,fun j hj=>?_⟩;have:j=0\/j=1\/j=2:=by simp at hj;omega
  rcases this with rfl|rfl|rfl<;>rfl
 have hl:=h.ln;have hbw:base<=wr.heap.size:=zE hbase (h.gw 0).size;obtain⟨v',w',h1,h2,h3,h4⟩:=eX (base:=base) ty (h.hk.below hb) hs (by omega) (by simp) (zE hbw hb.size);have e:(L++M.take i)++[M[i]]=L++M.take (i+1):=by rw[List.append_assoc,List.take_append_getElem hi]
 rw[e]at h2;refine⟨v',w',h1,⟨?_,h2,(h.gw.trans (Gw.of_below hb)).trans fun _=>Fr.grown h3 h4⟩⟩;rw[<- e,List.length_append,hl];rfl
theorem tM(hv:HoldsK W base v L)(hs:HoldsP W sv M)(hL:L.length<=40)(hM:M.length<=1000)(hap:∀g,sv.ownBlock=some g->v.ownBlock≠some g)(hbase:base<=W.heap.size):Calls prog 50 #[v,sv] W fun e W'=>∃v',e=.returned v'/\HoldsK W' base v' ((L++M).take 40)/\Gw v v' W W':=by
 obtain⟨sa,sc,hsf⟩:∃a c,sv=.slice a M.length c:=by
  rcases hs with⟨a,c,rfl,rfl⟩|⟨g,cp,cur,rfl,_⟩
  .exact ⟨_,_,rfl⟩
  .exact ⟨_,_,rfl⟩
 obtain⟨va,vc,hvf⟩:=hv.form;have HE:=aa (tm L M);subst hsf;have H0:Hid (PutI base v L M W 0 L.length (va,L.length,vc) W):=aa ⟨by simp,by rw[<- hvf];simpa using hv,by rw[<- hvf];exact Gw.of_below (zC _ _)⟩;have HX:Hid (∀i wr n x,PutI base v L M W i n x wr->∀hi:i<M.length,∃g,sa=some ⟨g,0,none⟩/\wr.cell? ⟨g,i*3,none⟩=some (.int .i64 M[i].code)/\wr.cell? ⟨g,i*3+1,none⟩=some (.int .i64 M[i].id)/\wr.cell? ⟨g,i*3+2,none⟩=some (.string M[i].data)):=aa fun i wr n x h hi=>by
  rcases hs with⟨ad,cp,e,e2⟩|⟨g,cp,cur,e,q1,_,q3⟩
  .rw [e2]at hi;simp at hi
  .injection e with e _ _;have hg:(Value.slice sa M.length sc).ownBlock=some g:=by rw[e];rfl
   exact⟨g,e,tJ ((h.gw.at g (ge.1 q1).1 (hap g hg)).trans q1) q3 hi⟩
 have HNx:=aa fun i wr n x (h:PutI base v L M W i n x wr) (hi:i<M.length) (hn:n<40)=>h.next hi hn hM hbase
 rw[show(#[v,Value.slice sa M.length sc]:Array Value)=#[.slice va L.length vc,.slice sa M.length sc]by rw[hvf]];clear hs hap hv hvf;go_enter func50,ntmps50
 obtain⟨m,hm⟩ := ex M.length;obtain⟨n0,hn0⟩ := ex L.length;rw[hm,hn0];rw[hn0]at H0 hL;go_wp2_with fail
 go_loopw [0,5] (fun x y wr=>∃(i n:Nat)(xa:Option Addr)(xc:Nat),i<=m/\y=.int .i64 i/\x=.slice xa n xc/\n<=40/\PutI base v L M W i n x wr) (fun _ y _=>m-(intOf y).toNat)
 case atStart=>exact⟨0,n0,va,vc,Nat.zero_le _,rfl,rfl,hL,uh H0⟩
 case round =>
  obtain⟨i,n,xa,xc,hi,rfl,rfl,hn,hK⟩:=hrel;have HK:=aa hK;clear hK H0;by_cases hlt:i<m
  .have d1:(i:Int)<(m:Int):=by omega
   by_cases h40:n<40
   .have d2:(n:Int)<40:=by omega
    have hiM:i<M.length:=by omega
    obtain⟨g,eg,x0,x1,x2⟩:=uh HX i wr n _ HK.out hiM;subst eg;have HR:=aa (uh HNx i wr n _ HK.out hiM h40);generalize M[i]=p at*;obtain⟨pc,pi,pd⟩:=p;dsimp only at x0 x1 x2 HR;clear HX HNx HE;go_wp2_with (refine me rfl _ _ rfl rfl rfl HR.out ?_;intro v' w' hP)
    obtain⟨a',c',e'⟩:=hP.hk.form;rw[hP.ln]at e';subst e';have HP:=aa hP;clear hP HR;go_wp2_with fail
    go_roundw
    case rel=>exact⟨i+1,n+1,a',c',by omega,by go_num,rfl,by omega,uh HP⟩
    case measure=>simp[intOf];omega
   .have d2:¬((n:Int)<40):=by omega
    go_wp2_with fail
    go_ret
    refine⟨_,rfl,?_,HK.out.gw⟩;rw[uh HE i (by rw[HK.out.ln];exact hn) (Or.inr (by rw[HK.out.ln];omega))];exact HK.out.hk
  .have e:i=m:=by omega
   subst e;have d1:¬((i:Int)<(i:Int)):=by omega
   go_wp2_with fail
   go_ret
   refine⟨_,rfl,?_,HK.out.gw⟩;rw[uh HE i (by rw[HK.out.ln];exact hn) (Or.inl hm.symm)];exact HK.out.hk
end Go.Proofs.YtjdgiimfpkideaaGreatDoor
