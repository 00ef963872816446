/- FmP FmQ FmR -/
import Derived.Test.YtjdgiimfpkideaaGreatDoorS43
namespace Go.Proofs.YtjdgiimfpkideaaGreatDoor
open Go.RowKit Go.Proofs.Tryz
variable {n now nw g m a:Int} {ca cb c0 cx cy:Cf} {w:Mw} {x y:Sd} {z p c d:Bool} {fx fy:Fe} {xy yx:List Fp} {gx gy:Gh} {s:Fs}
def Qb(ca cb:Cf)(w:Mw):Prop:=∃s d d' ga ts lb own0,Qi ca cb w s d d' ga ts lb own0
theorem Fz{n:Nat}(hn:Bp n):(∀ev,(ev=6\/ev=7\/ev=8\/ev=11)->n=6\/n=8->(ch n ev).2.2=false)/\(∀ev,(ev=8\/ev=9)->n=3->(ch n ev).2.2=false):=by
 constructor
 .rintro ev (rfl|rfl|rfl|rfl) (rfl|rfl)<;>rfl
 .rintro ev (rfl|rfl) rfl<;>rfl
theorem Hs(hi:Iw ca cb n w)(hn:n<=250)(h:Qb ca cb w):Qb ca cb (aI w):=by
 obtain⟨s,d,d',ga,ts,lb,own0,Q⟩:=h;unfold aI;split
 .exact ⟨s,d,d',ga,ts,lb,own0,Q⟩
 .next p r hl =>
  have hnw:=hi.nw;have hnow:0<=w.now/\w.now<=900000000:=⟨hnw.1,by omega⟩;have hn':0<=w.now/\w.now<=1000000000:=⟨hnw.1,by omega⟩;have hidb:w.b.e.id<255:=by have:=hi.ib;omega
  have hpa:=jW Q.gs.g.ok;have hpb:=jW hi.gb.g.ok;have hidy:0<=w.b.e.id/\w.b.e.id<255:=⟨hpb.2.2.2.1.1,hidb⟩;obtain⟨j1,j2,d2,j3,j4⟩:=AB hnow Q.gs hi.gb Q.iva Q.ivb hl hidb;have hpm:p∈w.a.ln:=by rw[hl];exact List.mem_cons_self ..
  have hcd:=Q.iva.cd p hpm;have hrp:=Q.ivb.rp p hpm;have R:=Q.rb;have B:=bk Q.sm;have tsc:=Fz R.ns
  have u1:p.code≠1->s.u=true->∃l1 l2,r=l1++mj w.a::l2/\NoR l1/\NoR l2/\(w.a.e.st=6\/w.a.e.st=8)/\w.now+2<=w.a.e.du:=by
   intro hp hu;obtain⟨l1,l2,e1,e2,e3,e4,e5⟩:=Q.u1 hu;rw[hl]at e1;cases l1 with
   | nil =>
    injection e1 with e6 _;rw[e6]at hp;exact absurd rfl hp
   | cons x l1 =>
    injection e1 with _ e6;exact⟨l1,l2,e6,fun q hq=>e2 q (List.mem_cons_of_mem _ hq),e3,e4,e5⟩
  have u0:s.u=false->NoR r:=fun hu q hq=>Q.u0 hu q (by rw[hl];exact List.mem_cons_of_mem _ hq)
  have nilAl:∀{b':Sd}(g:Gh),g=ga\/jB .N ([]:List Fp)=false->Al (Pr cb ca b' (dN w.a r) g) [] []:=fun _ _=>.nil
  have other:fk w.b p w.now=w.b->p.code≠1->Qb ca cb ⟨dN w.a r,fk w.b p w.now,w.now⟩:=by
   intro e hp;rw[e]at j3 j4|-;refine⟨s,d2,d',ga,ts,lb,own0,j3,j4,Q.gs.ln r,Q.rb,Q.sm,Q.ln,Q.tp,Q.own,Q.al.imp fun q c _ hq=>?_,Q.ng,Q.ku,Q.mt,Q.jy,u1 hp,u0⟩;cases c<;>exact hq
  have hRsc:∀ev,(ev=6\/ev=7\/ev=8\/ev=11)->(ch s.f.st ev).2.2=true->jB .R own0=false:=by
   intro ev hev hs;cases q:jB .R own0
   .rfl
   .rw [<- Q.has (by decide)]at q;have:=tsc.1 ev hev (B.r q).1
    rw[hs]at this;cases this
  have matched:p.id=w.b.e.id->p.id<=d'->s.mt=true:=by
   intro e1 e2;cases q:s.mt
   .have:=Q.mt q
    omega
   .rfl
  have frN:∀ev,s.mt=true->(ev=8\/ev=9)->∀o∈vj (kU s.f ev++[]),(⟨lh (io s.f ev),s.own++o,s.u,s.mt && !(ch s.f.st ev).2.2⟩:Bs)∈B0:=by
   intro ev hmt hev o ho;rw[List.append_nil]at ho;refine B.nx _ ?_;unfold Fx;rw[if_pos hmt,if_pos hmt];rcases hev with rfl|rfl
   .exact List.mem_append.2 (Or.inr (List.mem_append.2 (Or.inl (List.mem_flatMap.2 ⟨o,ho,List.mem_cons_self ..⟩))))
   .exact List.mem_append.2 (Or.inr (List.mem_append.2 (Or.inr (List.mem_append.2 (Or.inl (List.mem_flatMap.2 ⟨o,ho,List.mem_cons_self ..⟩))))))
  have frT:∀ev,s.mt=true->s.f.st=3->(ev=8\/ev=9)->(⟨lh (io s.f ev),s.own,s.u,s.mt && !(ch s.f.st ev).2.2⟩:Bs)∈B0/\(⟨lh (io s.f ev),Ch s.own,s.u,s.mt && !(ch s.f.st ev).2.2⟩:Bs)∈B0:=by
   intro ev hmt h3 hev;have h0:([]:List Fp)∈vj (kU s.f ev):=by
    have:=zY (kU s.f ev) 0
    simpa using this
   constructor
   .have:=frN ev hmt hev [] (by rw[List.append_nil];exact h0)
    rw[List.append_nil]at this;exact this
   .refine B.nx _ ?_;unfold Fx;rw[if_pos hmt,if_pos hmt];rcases hev with rfl|rfl
    .refine List.mem_append.2 (Or.inr (List.mem_append.2 (Or.inl (List.mem_flatMap.2 ⟨[],h0,List.mem_cons_of_mem _ ?_⟩))));rw[if_pos h3];exact List.mem_cons_self ..
    .refine List.mem_append.2 (Or.inr (List.mem_append.2 (Or.inr (List.mem_append.2 (Or.inl (List.mem_flatMap.2 ⟨[],h0,List.mem_cons_of_mem _ ?_⟩))))));rw[if_pos h3];exact List.mem_cons_self ..
  rcases hcd.2 with hc|hc|hc|hc|hc
  ·
   have hu:s.u=true:=by
    cases q:s.u
    .exact absurd hc (Q.u0 q p hpm)
    .rfl
   obtain⟨l1,l2,e1,e2,e3,e4,e5⟩:=Q.u1 hu;have hp:p=mj w.a/\NoR r:=by
    rw[hl]at e1;cases l1 with
    | nil =>
     injection e1 with e6 e7;exact⟨e6,by rw[e7];exact e3⟩
    | cons x l1 =>
     injection e1 with e6 _;rw[e6]at hc;exact absurd hc (e2 x (List.mem_cons_self ..))
   have hF1:w.a.F1=jD (gr w.a.e):=Q.gs.g.fa (by omega);have hpe:p=⟨1,w.a.e.id,co (Op.bytes (jD (gr w.a.e)))⟩:=by rw[hp.1];unfold mj;rw[hF1]
   have hkn:xQ own0=false:=by rw[<- Q.kn];exact B.u hu
   have hNn:=(uz hkn).2;by_cases ha:mh (mv cb) (gr w.b.e).g w.b.e.fl (gr w.a.e)=2
   .obtain ⟨k1,k2,k3,k4,k5⟩:=Ad R hn' hpa.2.2.2.1 Q.gs.g.ask.ok ha;rw[<- hpe]at k1 k2 k3 k4 k5;obtain⟨s',ga',lb',own',Q'⟩:=Q.act (rpF:=[.K]) (ga1:=ga) (u':=false) k1 k2 hi.lb hidy j3 j4 (Or.inr hkn) (fun g _=>.cons (show _=_/\_=_ from⟨by rw[<- hF1];rfl,by rw[k3];exact hF1.symm⟩) .nil) (fun q=>by cases q) (Or.inl (by rw[k5])) (fun _=>⟨e4,e5⟩) (hRsc 6 (by decide)) (fun q=>by cases q) (fun _=>hp.2) (fun o ho=>B.nx _ (by
     unfold Fx;rw[if_pos hu];exact List.mem_append.2 (Or.inr (List.mem_append.2 (Or.inr (List.mem_append.2 (Or.inr (List.mem_append.2 (Or.inl (List.mem_map.2 ⟨o,ho,rfl⟩))))))))))
    exact⟨s',d2,d',ga',ts,lb',own',Q'⟩
   .obtain ⟨L,hL,hL3,hL4,hLn,k1,k2,k3,k4,k5⟩:=Ae R hn' hpa.2.2.2.1 Q.gs.g.ask.ok ha;rw[<- hpe]at k1 k2 k3 k4 k5;obtain⟨s',ga',lb',own',Q'⟩:=Q.act (rpF:=[.N]) (ga1:=some ((gr w.b.e).g,w.b.e.fl)) (u':=false) k1 k2 hi.lb hidy j3 j4 (Or.inr hkn) (fun g hg=>.cons (by
      rcases hg with rfl|hg
      .exact ⟨(gr w.b.e).g,w.b.e.fl,L,rfl,rfl,ha,hL,hL3,hL4,hLn ca Q.gs.g.ask⟩
      .cases hg) .nil) (fun _=>⟨hNn,rfl,by
      rintro⟨g0,k0,e,_,hg⟩;injection e with e;injection e with e1 e2;subst e1;rw[k5];exact(vx.1 hg).2⟩) (Or.inl (by rw[k5])) (fun _=>⟨e4,e5⟩) (hRsc 7 (by decide)) (fun q=>by cases q) (fun _=>hp.2) (fun o ho=>B.nx _ (by
     unfold Fx;rw[if_pos hu];exact List.mem_append.2 (Or.inr (List.mem_append.2 (Or.inr (List.mem_append.2 (Or.inr (List.mem_append.2 (Or.inr (List.mem_map.2 ⟨o,ho,rfl⟩))))))))))
    exact⟨s',d2,d',ga',ts,lb',own',Q'⟩
  ·
   have hp1:p.code≠1:=by omega
   obtain⟨k1,k2⟩:=hrp.1 hc;by_cases hi2:p.id=w.b.e.id
   .have hmt:=matched hi2 k1;have hpe:p=⟨2,w.b.e.id,co (Op.bytes w.b.F1)⟩:=by rw[pF p,hc,hi2,(k2 hi2).1]
    obtain⟨e1,e2,e3,e4,e5⟩:=Af R hn';rw[<- hpe]at e1 e2 e3 e4 e5;by_cases h3:s.f.st=3
    .rw [if_pos h3]at e2;obtain⟨m1,m2⟩:=frT 8 hmt h3 (Or.inl rfl);obtain⟨s',ts',Q'⟩:=Q.actT h3 e1 e2 ⟨rfl,rfl⟩ hi.lb j3 j4 (tsc.2 8 (Or.inl rfl) h3) (u1 hp1) u0 m1 m2;exact⟨s',d2,d',ga,ts',[],[],Q'⟩
    .rw [if_neg h3]at e2;obtain⟨s',ga',lb',own',Q'⟩:=Q.act (rpF:=[]) (ga1:=ga) (u':=s.u) e1 e2 hi.lb hidy j3 j4 (Or.inl e3) nilAl (fun q=>by cases q) (Or.inl (by rw[e5])) (fun q=>absurd rfl q) (hRsc 8 (by decide)) (u1 hp1) u0 (frN 8 hmt (Or.inl rfl));exact⟨s',d2,d',ga',ts,lb',own',Q'⟩
   .exact other (ox R hn' hcd.1 (Or.inl hc) hi2) hp1
  .have hp1:p.code≠1:=by omega
   obtain⟨k1,L,hL,k3,k4⟩:=hrp.2 (Or.inl hc);by_cases hi2:p.id=w.b.e.id
   .have hmt:=matched hi2 k1;have hpe:p=⟨3,w.b.e.id,co (Op.bytes L)⟩:=by rw[pF p,hc,hi2,k3]
    obtain⟨e1,e2,e3,e4,e5⟩:=uy R hn' (cd:=3) (Or.inl rfl) hL (fun _=>k4 hc);rw[<- hpe]at e1 e2 e3 e4 e5;have hR0:jB .R own0=false:=by
     cases q:jB .R own0
     .rfl
     .rw [<- Q.has (by decide)]at q;have:=(B.r q).2
      rw[hmt]at this;cases this
    have hrb:Bq own0=false:=by
     cases q:Bq own0
     .rfl
     .have:=(vF q).1
      rw[hR0]at this;cases this
    by_cases h3:s.f.st=3
    .rw [if_pos h3]at e2;obtain⟨m1,m2⟩:=frT 9 hmt h3 (Or.inr rfl);obtain⟨s',ts',Q'⟩:=Q.actT h3 e1 e2 ⟨rfl,rfl⟩ hi.lb j3 j4 (tsc.2 9 (Or.inr rfl) h3) (u1 hp1) u0 m1 m2;exact⟨s',d2,d',ga,ts',[],[],Q'⟩
    .rw [if_neg h3]at e2;obtain⟨s',ga',lb',own',Q'⟩:=Q.act (rpF:=[]) (ga1:=ga) (u':=s.u) e1 e2 hi.lb hidy j3 j4 (Or.inl e3) nilAl (fun q=>by cases q) (Or.inr hrb) (fun q=>absurd rfl q) (fun _=>hR0) (u1 hp1) u0 (frN 9 hmt (Or.inr rfl));exact⟨s',d2,d',ga',ts,lb',own',Q'⟩
   .exact other (ox R hn' hcd.1 (Or.inr (Or.inl hc)) hi2) hp1
  .have hp1:p.code≠1:=by omega
   obtain⟨k1,L,hL,k3,k4⟩:=hrp.2 (Or.inr hc);by_cases hi2:p.id=w.b.e.id
   .have hmt:=matched hi2 k1;have hpe:p=⟨4,w.b.e.id,co (Op.bytes L)⟩:=by rw[pF p,hc,hi2,k3]
    obtain⟨e1,e2,e3,e4,e5⟩:=uy R hn' (cd:=4) (Or.inr rfl) hL (fun q=>absurd q (by decide));rw[<- hpe]at e1 e2 e3 e4 e5;have hR0:jB .R own0=false:=by
     cases q:jB .R own0
     .rfl
     .rw [<- Q.has (by decide)]at q;have:=(B.r q).2
      rw[hmt]at this;cases this
    have hrb:Bq own0=false:=by
     cases q:Bq own0
     .rfl
     .have:=(vF q).1
      rw[hR0]at this;cases this
    by_cases h3:s.f.st=3
    .rw [if_pos h3]at e2;obtain⟨m1,m2⟩:=frT 9 hmt h3 (Or.inr rfl);obtain⟨s',ts',Q'⟩:=Q.actT h3 e1 e2 ⟨rfl,rfl⟩ hi.lb j3 j4 (tsc.2 9 (Or.inr rfl) h3) (u1 hp1) u0 m1 m2;exact⟨s',d2,d',ga,ts',[],[],Q'⟩
    .rw [if_neg h3]at e2;obtain⟨s',ga',lb',own',Q'⟩:=Q.act (rpF:=[]) (ga1:=ga) (u':=s.u) e1 e2 hi.lb hidy j3 j4 (Or.inl e3) nilAl (fun q=>by cases q) (Or.inr hrb) (fun q=>absurd rfl q) (fun _=>hR0) (u1 hp1) u0 (frN 9 hmt (Or.inr rfl));exact⟨s',d2,d',ga',ts,lb',own',Q'⟩
   .exact other (ox R hn' hcd.1 (Or.inr (Or.inr hc)) hi2) hp1
  ·
   have hp1:p.code≠1:=by omega
   have hpi:0<=p.id/\p.id<=255:=by
    have:=hcd.1
    unfold Op.pok at this;have:=of_decide_eq_true this
    exact⟨this.2.2.1,this.2.2.2.1⟩
   have hpe:p=⟨6,p.id,⟨#[]⟩⟩:=by rw[pF p,hc.1,hc.2]
   obtain⟨e1,e2,e3,e4,e5⟩:=zO R hn' hpi;rw[<- hpe]at e1 e2 e3 e4 e5;obtain⟨s',ga',lb',own',Q'⟩:=Q.act (rpF:=[]) (ga1:=ga) (u':=s.u) e1 e2 hi.lb hidy j3 j4 (Or.inl e3) nilAl (fun q=>by cases q) (Or.inl (by rw[e5])) (fun q=>absurd rfl q) (hRsc 11 (by decide)) (u1 hp1) u0 (fun o ho=>B.nx _ (by
    rw[List.append_nil]at ho;unfold Fx;exact List.mem_append.2 (Or.inl (List.mem_map.2 ⟨o,ho,rfl⟩))))
   exact⟨s',d2,d',ga',ts,lb',own',Q'⟩
theorem BU:∀(k:Nat){n:Int}{w:Mw},Iw ca cb n w->n+k<=250->Qb ca cb w->Qb ca cb (au aI k w)
 | 0,_,_,_,_,h=>h
 | k+1,n,w,hi,hn,h=>by
  have h1:=BU k hi (by omega) h;exact Hs (v8 k hi (by omega)) (by omega) h1
theorem DP(h:Gs now c0 x):lh (jI now x)∈pH:=by
 have R:=h.re;have key:oy (jI now x).st=true->1<=(jI now x).rem/\(jI now x).rem<=3:=by
  intro hr;have h1:=R.rem hr;have h2:=h.g.du (by rw[R.st,q_ R.ns];exact hr);omega
 refine Ar ?_;unfold As;rcases R.ns with q|q|q|q|q
 .rw [q,if_pos rfl];omega
 .have:=key (by rw[q];rfl)
  rw[q,if_neg (by decide),if_neg (by decide),if_neg (by omega),if_pos rfl];omega
 .have:=key (by rw[q];rfl)
  rw[q,if_neg (by decide),if_neg (by decide),if_neg (by omega),if_neg (by decide),if_pos rfl];omega
 .have:=key (by rw[q];rfl)
  rw[q,if_neg (by decide),if_neg (by decide),if_neg (by omega),if_neg (by decide),if_neg (by decide),if_pos rfl];omega
 .rw [q,if_neg (by decide),if_pos rfl];omega
theorem DQ(h:P2 ca cb n w):Qb ca cb w:=by
 obtain⟨d,d',h1,h2,o1,o2⟩:=h.on;have hs:=DO;unfold CQ at hs;have hb:=List.all_eq_true.1 hs _ (DP h.iw.gb);rw[zK]at hb;have R:=h.iw.gb.re.nrm
 obtain⟨u,hu1,hu0⟩:∃u:Bool,(u=true->∃l1 l2,w.a.ln=l1++mj w.a::l2/\NoR l1/\NoR l2/\(w.a.e.st=6\/w.a.e.st=8)/\w.now+2<=w.a.e.du)/\(u=false->NoR w.a.ln):=by
  rcases o1 with q|⟨l1,l2,q1,q2,q3,q4,q5,_⟩
  .exact ⟨false,fun e=>(by cases e),fun _=>q⟩
  .exact ⟨true,fun _=>⟨l1,l2,q1,q2,q3,q4,q5⟩,fun e=>(by cases e)⟩
 have hub:u∈[true,false]:=by cases u<;>decide
 have start0:w.b.ln=[]->Qb ca cb w:=by
  intro e;have hm:(⟨lh (jI w.now w.b),[],u,true⟩:Bs)∈B0:=by
   have:=List.all_eq_true.1 (List.all_eq_true.1 hb.1 u hub) true (by decide)
   obtain⟨x,hx,ex⟩:=List.any_eq_true.1 this;have ex':x=⟨lh (jI w.now w.b),[],u,true⟩:=by simpa using ex
   rw[<- ex'];exact hx
  exact⟨⟨lh (jI w.now w.b),[],u,true⟩,d,d',none,[],[],[],h1,h2,h.iw.ga,R,hm,e,fun p hp=>(by cases hp),rfl,.nil,rfl,fun q=>(by cases q),fun q=>(by cases q),fun q=>(by cases q),hu1,hu0⟩
 have hlb:=h.lb;rcases o2 with q|⟨l1,l2,q1,q2,q3,q4,q5,q6⟩
 ·
  cases hbl:w.b.ln with
  | nil=>exact start0 hbl
  | cons p r =>
   have hp:p∈w.b.ln:=by rw[hbl];exact List.mem_cons_self ..
   exact absurd (h.l1 p hp) (q p hp)
 .have hl12:l1=[]/\l2=[]:=by
   rw[q1,List.length_append,List.length_cons]at hlb;exact⟨List.length_eq_zero_iff.1 (by omega),List.length_eq_zero_iff.1 (by omega)⟩
  obtain⟨rfl,rfl⟩:=hl12;have hst:(jI w.now w.b).st=6\/(jI w.now w.b).st=8:=by
   have:=h.iw.gb.re.st
   omega
  have hrun:oy (jI w.now w.b).st=true:=by rcases hst with e|e<;>rw[e]<;>rfl
  have hrem:2<=(lh (jI w.now w.b)).rem:=by
   have h1:=h.iw.gb.re.rem hrun;show 2<=(if oy (jI w.now w.b).st=true then(jI w.now w.b).rem else 0)
   rw[if_pos hrun];omega
  have hm:(⟨lh (jI w.now w.b),[.R],u,false⟩:Bs)∈B0:=by
   have h2:=List.all_eq_true.1 hb.2 u hub;rw[Bool.or_eq_true]at h2;rcases h2 with h2|h2
   .exfalso;rw[decide_eq_true hrem,Bool.and_true]at h2;have:((lh (jI w.now w.b)).st==6||(lh (jI w.now w.b)).st==8)=true:=by
     show((jI w.now w.b).st==6||(jI w.now w.b).st==8)=true
     rcases hst with e|e<;>rw[e]<;>rfl
    rw[this]at h2;cases h2
   .obtain ⟨x,hx,ex⟩:=List.any_eq_true.1 h2;have ex':x=⟨lh (jI w.now w.b),[.R],u,false⟩:=by simpa using ex
    rw[<- ex'];exact hx
  exact⟨⟨lh (jI w.now w.b),[.R],u,false⟩,d,d',none,[],[mj w.b],[.R],h1,h2,h.iw.ga,R,hm,q1,fun p hp=>(by cases hp),rfl,.cons rfl .nil,rfl,fun q=>(by cases q),fun _=>q6,fun q=>(by cases q),hu1,hu0⟩
theorem G4(h:Rs z nw nw cx cy x y fx fy xy yx gx gy){p:Op.Pk}(hp:p.code=6/\p.data=⟨#[]⟩)(hpi:0<=p.id/\p.id<=255)(hl:yx.length<=3)(hW:tN (io fy 11) (yx++kU fy 11) xy=true):Rs z nw nw cx cy x (fk y p nw) fx (io fy 11) xy (yx++kU fy 11) gx gy/\gr (fk y p nw).e=gr y.e/\(fk y p nw).e.fl=y.e.fl:=by
 have hn:0<=nw/\nw<=1000000000:=⟨h.nwx.1,by have:=h.nwx.2;omega⟩;have hpe:p=⟨6,p.id,⟨#[]⟩⟩:=by rw[pF p,hp.1,hp.2]
 obtain⟨k1,k2,k3,k4,k5⟩:=zO h.ey hn hpi;rw[<- hpe]at k1 k2 k3 k4 k5;have hW':=DY hW;have hlen:=h.ly.len;have hns:(io fy 11).st≠7/\(io fy 11).st≠9:=by
  show(ch fy.st 11).1≠7/\(ch fy.st 11).1≠9
  rcases h.ey.ns with q|q|q|q|q<;>rw[q]<;>decide
 have hsc:(ch fy.st 11).2.2=true->xQ xy=false/\jB .R yx=false:=by
  intro hs;have e:kU fy 11=[Fp.R]:=by unfold kU;rw[if_pos hs]
  rw[e]at hW';constructor
  .cases q:xQ xy
   .rfl
   .exact absurd ⟨by rw[mf];simp[jB],q⟩ hW'.b
  .cases q:jB .R yx
   .rfl
   .have h1:=zP.1 q;have h2:=hW'.r;rw[vE]at h2;have h3:qY .R [Fp.R]=1:=by decide
    omega
 have hsame:(ch fy.st 11).2.2=false->(fk y p nw).e.id=y.e.id/\(fk y p nw).F1=y.F1:=fun hs=>⟨by rw[k2.id,if_neg (by rw[hs];decide)],k2.f1 hs⟩
 have hln:(fk y p nw).ln=y.ln++(if(ch fy.st 11).2.2=true then[mj (fk y p nw)]else[]):=by
  rw[k2.ln,List.append_nil,AV];have:(if(ch fy.st 11).2.2=true then[mj (fk y p nw)]else[]).length<=1:=by split<;>exact(by simp)
  omega
 have hscN:jB .N (kU fy 11)=false:=by unfold kU;split<;>rfl
 refine⟨⟨h.nwx,h.nwy,h.ex,k1,?_,?_,?_,h.nny,?_,?_,?_,?_⟩,k5,k4⟩
 .refine AU (x:=x) h.lx ?_ x.ln _ (Or.inl rfl);cases hs:(ch fy.st 11).2.2
  .exact Or.inl ⟨(hsame hs).1,(hsame hs).2,k5⟩
  .exact Or.inr (hsc hs).1
 .rw [hln];refine(vG h.ly ?_ (Or.inl k3) (Or.inl rfl) x.ln).app ?_
  .cases hs:(ch fy.st 11).2.2
   .exact Or.inl (hsame hs)
   .exact Or.inr (hsc hs).2
  .unfold kU;cases(ch fy.st 11).2.2
   .exact .nil
   .exact .cons rfl .nil
 .rw [h.nnx,mf,hscN,Bool.or_false]
 .intro hq;rw[k3];exact h.sx hq
 .intro hq;rcases hq with q|q
  .exact absurd q hns.1
  .exact absurd q hns.2
 .intro q hm;rw[k5]at hm|-;exact h.jx q hm
 .intro q hm;rw[Ah hscN]at q;rw[k5];exact h.jy q hm
theorem ED(h1:lh (io fy 11)=fy)(h2:kU fy 11=[])(hl:yx.length<=3)(hW:tN fy yx xy=true):∀(ts:List Op.Pk){y:Sd},(∀p∈ts,(p.code=6/\p.data=⟨#[]⟩)/\0<=p.id/\p.id<=255)->Rs false nw nw cx cy x y fx fy xy yx gx gy ->
  Rs false nw nw cx cy x (ts.foldl (fun y p=>fk y p nw) y) fx fy xy yx gx gy
 | [],_,_,h=>h
 | p::ts,y,hp,h=>by
  have hpp:=hp p (List.mem_cons_self ..);obtain⟨k1,k2,k3⟩:=G4 h hpp.1 hpp.2 hl (by rw[h2,List.append_nil,<- Ag,h1];exact hW);rw[h2,List.append_nil]at k1;have kE:=k1.ey.nrm;rw[h1]at kE;have hst:(io fy 11).st=fy.st:=by
   have e:=congrArg Fe.st h1;exact e
  have k1'':Rs false nw nw cx cy x (fk y p nw) fx fy xy yx gx gy:=⟨k1.nwx,k1.nwy,k1.ex,kE,k1.lx,k1.ly,k1.nnx,k1.nny,k1.sx,fun q=>k1.sy (by rw[hst];exact q),k1.jx,k1.jy⟩;exact ED h1 h2 hl hW ts (fun q hq=>hp q (List.mem_cons_of_mem _ hq)) k1''
theorem DR{l:List Fp}(h:∀c∈l,c≠.T):EB l=false/\DN l=l:=by
 cases l with
 | nil=>exact⟨rfl,rfl⟩
 | cons c l =>
  have:=h c (List.mem_cons_self ..)
  cases c
  .exact ⟨rfl,rfl⟩
  .exact ⟨rfl,rfl⟩
  .exact ⟨rfl,rfl⟩
  .exact absurd rfl this
theorem Eo{g:Gh}{l:List Op.Pk}{m:List Fp}(h:Al (Pr cx cy x y g) l m):∀c∈m,c≠.T:=by
 induction h with
 | nil=>intro c hc;cases hc
 | @cons a b _ _ hp _ ih =>
  intro c hc;rcases List.mem_cons.1 hc with e|e
  .rw [e];intro e2;rw[e2]at hp;exact hp.elim
  .exact ih c e
theorem Au(now:Int):∀(ts:List Op.Pk)(a b:Sd)(rest:List Op.Pk),au aN ts.length ⟨a,dN b (ts++rest),now⟩=⟨ts.foldl (fun y p=>fk y p now) a,dN b rest,now⟩
 | [],_,_,_=>rfl
 | p::ts,a,b,rest=>by
  show au aN (ts.length+1) _=_
  rw[rZ];have e:aN ⟨a,dN b (p::ts++rest),now⟩=⟨fk a p now,dN b (ts++rest),now⟩:=rfl;rw[e];exact Au now ts (fk a p now) b rest
theorem Ep(hi:Iw ca cb n w)(hn:n<=250)(h:Qb ca cb w)(hal:w.a.ln=[]):∃s m,m<=16/\A5 s<15/\Rw false ca cb (z_ (au aN w.b.ln.length w)) s m:=by
 obtain⟨s,d,d',ga,ts,lb,own0,Q⟩:=h;have hnw:=hi.nw;have hnow:0<=w.now/\w.now<=900000000:=⟨hnw.1,by omega⟩;have hu:s.u=false:=by
  cases q:s.u
  .rfl
  .obtain ⟨l1,l2,e,_⟩:=Q.u1 q;rw[hal]at e;cases l1<;>cases e
 have hnT:=Eo Q.al;have hfa:=DP Q.gs;obtain⟨fa,hfaE⟩:∃fa,fa=lh (jI w.now w.a):=⟨_,rfl⟩;rw[<- hfaE]at hfa;have hRa:Re false w.now ca w.a fa:=by rw[hfaE];exact Q.gs.re.nrm
 have hmid:A4 (zQ fa s)=true/\Dl (zQ fa s).ba.length (zQ fa s) 0 (fun o m=>(EG false o).all fun q=>A4 q&&(decide (A5 q<15)&&decide (m<=100)))=true:=by
  have h1:=List.all_eq_true.1 Fy s Q.sm;unfold EC at h1;rw[hu,Bool.false_or]at h1;have h2:=List.all_eq_true.1 h1 fa hfa;rw[Bool.or_eq_true]at h2;rcases h2 with h2|h2
  .exfalso;rw[zK]at h2;obtain⟨h3,h4⟩:=h2;rw[Q.kn]at h3;obtain⟨k1,k2⟩:=Q.ku h3;have hst:fa.st=6\/fa.st=8:=by
    have:=hRa.st
    omega
   have hrun:oy fa.st=true:=by rcases hst with e|e<;>rw[e]<;>rfl
   have hrem:=hRa.rem hrun;have h5:((fa.st==6||fa.st==8)&&decide (2<=fa.rem))=true:=by
    rw[decide_eq_true (by omega),Bool.and_true];rcases hst with e|e<;>rw[e]<;>rfl
   rw[h5]at h4;cases h4
  .rw [zK]at h2;exact h2
 have hpa:=jW Q.gs.g.ok;have hpb:=jW hi.gb.g.ok
 have R0:Rs false w.now w.now cb ca (dN w.b lb) w.a s.f fa own0 [] none ga:=by
  refine⟨hnow,hnow,Q.rb.lnS lb,hRa,Q.al.imp fun q c _ hq=>?_,?_,rfl,Q.ng,?_,?_,fun q hm=>(Q.jy q hm).symm,fun q=>(by cases q)⟩
  .cases c<;>exact hq
  .rw [hal];exact .nil
  .intro q;refine(Q.ivb.st ?_).2;rw[Q.rb.st];omega
  .intro q;refine(Q.iva.st ?_).2;rw[hRa.st];omega
 have hbase:w=⟨w.a,dN w.b (ts++lb),w.now⟩:=by
  rw[<- Q.ln];rfl
 have htp:∀p∈ts,(p.code=6/\p.data=⟨#[]⟩)/\0<=p.id/\p.id<=255:=by
  intro p hp;have h1:=(Q.ivb.cd p (by rw[Q.ln];exact List.mem_append.2 (Or.inl hp))).1;unfold Op.pok at h1;have:=of_decide_eq_true h1
  exact⟨Q.tp p hp,this.2.2.1,this.2.2.2.1⟩
 have hlen:lb.length=own0.length:=Q.al.len
 obtain⟨a',hA,R1,hba⟩:∃a',ts.foldl (fun y p=>fk y p w.now) w.a=a'/\Rs false w.now w.now cb ca (dN w.b lb) a' (zQ fa s).b (zQ fa s).a (zQ fa s).ba (zQ fa s).ab none ga/\(zQ fa s).ba=own0:=by
  cases ts with
  | nil =>
   have ho:s.own=own0:=Q.own;have hm:zQ fa s=⟨fa,s.f,[],own0⟩:=by
    unfold zQ;rw[ho,(DR hnT).1,if_neg (by decide)]
   rw[hm];exact⟨w.a,rfl,R0,rfl⟩
  | cons p ts =>
   have ho:s.own=.T::own0:=Q.own;have hm:zQ fa s=⟨lh (io fa 11),s.f,kU fa 11,own0⟩:=by
    unfold zQ;rw[ho];rfl
   have hok:=hmid.1;rw[hm]at hok|-;obtain⟨q1,q2⟩:=AW hok;dsimp only at q1 q2;have hpp:=htp p (List.mem_cons_self ..);obtain⟨k1,k2,k3⟩:=G4 R0 hpp.1 hpp.2 (by show 0<=3;decide) (by rw[List.nil_append,<- Ag];exact q1);rw[List.nil_append]at k1;have hT:=List.all_eq_true.1 Em fa hfa;rw[zK]at hT;have t1:lh (io (lh (io fa 11)) 11)=lh (io fa 11):=by simpa using hT.1
   have t2:kU (lh (io fa 11)) 11=[]:=by simpa using hT.2
   have k1':Rs false w.now w.now cb ca (dN w.b lb) (fk w.a p w.now) s.f (lh (io fa 11)) own0 (kU fa 11) none ga :=
    ⟨k1.nwx,k1.nwy,k1.ex,k1.ey.nrm,k1.lx,k1.ly,k1.nnx,k1.nny,k1.sx,k1.sy,k1.jx,k1.jy⟩
   exact⟨_,rfl,ED t1 t2 (DY q1).l q1 ts (fun q hq=>htp q (List.mem_cons_of_mem _ hq)) k1',rfl⟩
 have hokm:=hmid.1;have hch:=hmid.2;generalize zQ fa s=s1 at R1 hba hokm hch;have hw1:au aN (ts.length+lb.length) w=au aN lb.length ⟨a',dN w.b lb,w.now⟩:=by
  rw[Nat.add_comm,BO];conv=>lhs;rw[hbase]
  rw[Au,hA]
 have hlnb:w.b.ln.length=ts.length+lb.length:=by rw[Q.ln,List.length_append]
 have hpa1:=jW R1.ey.g.ok;have W1:Rw false ca cb ⟨a',dN w.b lb,w.now⟩ s1 16 :=
  ⟨ga,none,R1.swap,Pot.le _ _ _ _ _ _ _ _ hpa1.2.2.2.2.1.1 hpb.2.2.2.2.1.1,hokm⟩
 rw[hba,<- hlen]at hch;obtain⟨s2,m2,k2,_,e2,e3,e4⟩:=zW lb.length hch W1;rw[<- hw1,<- hlnb]at e4;have hnow2:(au aN w.b.ln.length w).now=w.now:=vz _ Az _ _;obtain⟨o,ho,hk⟩:=DK e4 (by rw[hnow2];omega);have h1:=List.all_eq_true.1 e3 o ho;rw[zK,zK]at h1;exact⟨o,m2,by omega,of_decide_eq_true h1.2.1,hk h1.1⟩
theorem CU(h:Iw ca cb n w)(hn:n<=100):∃s m,uo s=true/\Rw false ca cb (au cT 100 w) s m:=by
 have p2:=Fv h hn;have e1:au cT 100 w=au cT 98 (cT (cT w)):=by
  rw[show(100:Nat)=98+1+1 from rfl,rZ,rZ]
 rw[e1];generalize cT w=u at p2;have hl:=p2.iw.la;have q1:=BU u.a.ln.length p2.iw (by omega) (DQ p2);have i1:=v8 u.a.ln.length p2.iw (by omega);have l1:(au aI u.a.ln.length u).a.ln=[]:=by rw[AY];simp
 have n1:(au aI u.a.ln.length u).now=u.now:=vz _ CJ _ _;have e2:cT u=z_ (au aN (au aI u.a.ln.length u).b.ln.length (au aI u.a.ln.length u)):=rfl;rw[e2];obtain⟨s,m,hm,hr,hw⟩:=Ep i1 (by omega) q1 l1;have hnw:=p2.iw.nw;have hnow:(z_ (au aN (au aI u.a.ln.length u).b.ln.length (au aI u.a.ln.length u))).now=u.now+1:=by
  show(au aN (au aI u.a.ln.length u).b.ln.length (au aI u.a.ln.length u)).now+1=_
  rw[vz _ Az,n1]
 obtain⟨s',m',k1,k2⟩:=BP 98 hr hw (by omega) (by rw[hnow];omega);exact⟨s',m',k1,k2⟩
structure LinesOk(ca cb:Cf)(a b:En):Prop where
 ab:a.i1=b.o1/\a.i2=b.o2/\a.i3=b.o3/\a.i4=b.o4/\a.i5=b.o5
 ba:b.i1=a.o1/\b.i2=a.o2/\b.i3=a.o3/\b.i4=a.o4/\b.i5=a.o5
 p1:a.i3=true->ca.p=true/\cb.p=true
 p2:b.i3=true->ca.p=true/\cb.p=true
 c1:a.i4=true->ca.c=true/\cb.c=true
 c2:b.i4=true->ca.c=true/\cb.c=true
 d1:a.i5=true->ca.d=true/\cb.d=true
 d2:b.i5=true->ca.d=true/\cb.d=true
 a1:∃k:Nat,a.i2=k/\k<4294967296/\k &&& ca.a=ca.a
 a2:∃k:Nat,b.i2=k/\k<4294967296/\k &&& cb.a=cb.a
theorem BV{e:En}{F1 F2:List Op.Opt}(h:dJ e F1 F2=true)(h9:e.st=9):e.up=true/\dQ e.i1 e.i2 e.i3 e.i4 e.i5 (iJ F1)=true/\dQ e.o1 e.o2 e.o3 e.o4 e.o5 (iJ F2)=true:=by
 have hu:e.up=true:=by
  rw[(jW h).2.2.2.2.2.2.2.2.2,h9];rfl
 unfold dJ at h;simp only[zK]at h;have h11:=h.2.2.2.2.2.2.2.2.2.2;rw[if_pos hu,zK]at h11;exact⟨hu,h11.1,h11.2⟩
theorem AE{x:Ln}(h:dQ m a p c d x=true):m=(x.m:Int)/\a=(x.a:Int)/\p=x.p/\c=x.c/\d=x.d:=by
 unfold dQ at h;simp only[zK,beq_iff_eq]at h;exact h
theorem BW{m:Nat}(h:Rw z ca cb w s m)(ha:s.a.st=9)(hb:s.b.st=9):(w.a.e.up=true/\w.b.e.up=true)/\LinesOk ca cb w.a.e w.b.e:=by
 obtain⟨ga,gb,R,_,_⟩:=h;have sa:w.a.e.st=9:=by rw[R.ex.st,ha];rfl
 have sb:w.b.e.st=9:=by rw[R.ey.st,hb];rfl
 obtain⟨ua,ia,oa⟩:=BV R.ex.g.ok sa;obtain⟨ub,ib,ob⟩:=BV R.ey.g.ok sb;have e1:=R.sx (Or.inr ha);have e2:=R.sy (Or.inr hb);have f1:=R.ex.g.fa (by omega);have f2:=R.ey.g.fa (by omega);have la:=R.ex.g.ask;have lb:=R.ey.g.ask;rw[e1,f1,tE la.ok]at ob;rw[f1,tE la.ok]at ia;rw[e2,f2,tE lb.ok]at oa;rw[f2,tE lb.ok]at ib;obtain⟨i1,i2,i3,i4,i5⟩:=AE ia;obtain⟨o1,o2,o3,o4,o5⟩:=AE ob;obtain⟨j1,j2,j3,j4,j5⟩:=AE ib;obtain⟨q1,q2,q3,q4,q5⟩:=AE oa
 obtain⟨c,hc,hcF,hp,hcc,hd,hacc⟩:=R.ey.g.f2;obtain⟨c',hc',hcF',hp',hcc',hd',hacc'⟩:=R.ex.g.f2;have k1:(⟨(gr w.a.e).m,(gr w.a.e).a,(gr w.a.e).p,(gr w.a.e).c,(gr w.a.e).d⟩:Ln)=⟨c.m,c.a,c.p,c.c,c.d⟩:=by
  rw[<- tE la.ok,<- tE hc,<- f1,<- e1,hcF]
 have k2:(⟨(gr w.b.e).m,(gr w.b.e).a,(gr w.b.e).p,(gr w.b.e).c,(gr w.b.e).d⟩:Ln)=⟨c'.m,c'.a,c'.p,c'.c,c'.d⟩:=by
  rw[<- tE lb.ok,<- tE hc',<- f2,<- e2,hcF']
 injection k1 with _ _ kp kc kd;injection k2 with _ _ lp lc ld;dsimp only at i1 i2 i3 i4 i5 o1 o2 o3 o4 o5 j1 j2 j3 j4 j5 q1 q2 q3 q4 q5;refine⟨⟨ua,ub⟩,⟨⟨i1.trans o1.symm,i2.trans o2.symm,i3.trans o3.symm,i4.trans o4.symm,i5.trans o5.symm⟩,⟨j1.trans q1.symm,j2.trans q2.symm,j3.trans q3.symm,j4.trans q4.symm,j5.trans q5.symm⟩,?_,?_,?_,?_,?_,?_,⟨_,i2,(ux la.ok).2.2.1,la.a⟩,⟨_,j2,(ux lb.ok).2.2.1,lb.a⟩⟩⟩
 .intro q;rw[i3]at q;exact⟨la.p q,hp (kp▸q)⟩
 .intro q;rw[j3]at q;exact⟨hp' (lp▸q),lb.p q⟩
 .intro q;rw[i4]at q;exact⟨la.c q,hcc (kc▸q)⟩
 .intro q;rw[j4]at q;exact⟨hcc' (lc▸q),lb.c q⟩
 .intro q;rw[i5]at q;exact⟨la.d q,hd (kd▸q)⟩
 .intro q;rw[j5]at q;exact⟨hd' (ld▸q),lb.d q⟩
theorem DS{m:Nat}(hq:uo s=true)(h:Rw z ca cb w s m):(s.a.st=3\/s.a.st=9)/\(s.b.st=3\/s.b.st=9):=by
 obtain⟨ga,gb,R,_,_⟩:=h;unfold uo at hq;simp only[zK,Bool.not_eq_true']at hq;obtain⟨⟨⟨q1,q2⟩,_⟩,_⟩:=hq;constructor
 .rcases R.ex.ns with e|e|e|e|e
  .exact Or.inl e
  .rw [e]at q1;cases q1
  .rw [e]at q1;cases q1
  .rw [e]at q1;cases q1
  .exact Or.inr e
 .rcases R.ey.ns with e|e|e|e|e
  .exact Or.inl e
  .rw [e]at q2;cases q2
  .rw [e]at q2;cases q2
  .rw [e]at q2;cases q2
  .exact Or.inr e
def Bx(m a g:Int)(p c d:Bool):Cf:=⟨m.toNat,a.toNat,g.toNat,p,c,d⟩
theorem DT(h:aK m a g=true):sw (Bx m a g p c d)=true:=by
 have h':=g_ h;simp only[aK,bh,zK,decide_eq_true_eq]at h;exact qZ ⟨by omega,by omega⟩ (by omega) (by omega)
theorem Dd(h:sw c0=true):AP c0 [] :=
 ⟨⟨300,4294967295,0,false,false,false⟩,by decide,by decide,fun q=>(by cases q),fun q=>(by cases q),fun q=>(by cases q),Bn (ux h).2.2.1⟩
theorem Ai(h:aK m a g=true):Re true 0 (Bx m a g p c d) (eo (qU m a g p c d)) ⟨6,3,4⟩/\(eo (qU m a g p c d)).ln=[mj (eo (qU m a g p c d))]/\(eo (qU m a g p c d)).e.id=1/\(eo (qU m a g p c d)).e.fl=0:=by
 obtain⟨e,hs,h1,h2,h3,h4,h5,h6,h7,h8⟩:=DM (p:=p) (c:=c) (d:=d) h;rw[hs];have hle:LeC (Bx m a g p c d) (gr e):=by rw[h7];exact LeC.refl (DT h)
 refine⟨⟨⟨h8,fun _=>?_,h6,hle,⟨gr e,hle,rfl⟩,fun _=>rfl,Dd (DT h)⟩,Or.inr (Or.inl rfl),h1,fun _=>?_,fun _=>h4⟩,?_,h3,h5⟩
 .show (0:Int)<e.du/\e.du<=0+3
  omega
 .show e.du=0+((3:Nat):Int)
  rw[h2];rfl
 .show [(⟨1,1,co (Op.bytes (dv e))⟩:Op.Pk)]=[⟨1,e.id,co (Op.bytes (dv e))⟩]
  rw[h3]
section
variable {m1 a1 g1 m2 a2 g2:Int} {p1 c1 d1 p2 c2 d2:Bool}
theorem BX(h1:aK m1 a1 g1=true)(h2:aK m2 a2 g2=true):Iw (Bx m1 a1 g1 p1 c1 d1) (Bx m2 a2 g2 p2 c2 d2) 1 ⟨eo (qU m1 a1 g1 p1 c1 d1),eo (qU m2 a2 g2 p2 c2 d2),0⟩:=by
 obtain⟨ra,la,ia,fa⟩:=Ai (p:=p1) (c:=c1) (d:=d1) h1;obtain⟨rb,lb,ib,fb⟩:=Ai (p:=p2) (c:=c2) (d:=d2) h2;have mk:∀{cx cy:Cf}{x y:Sd},Re true 0 cx x ⟨6,3,4⟩->Re true 0 cy y ⟨6,3,4⟩->x.ln=[mj x]->y.ln=[mj y]->x.e.id=1->Iv cx cy x y 0:=by
  intro cx cy x y rx ry lx ly ix;refine⟨⟨Int.le_refl _,by omega⟩,?_,?_,?_,?_,?_⟩
  .intro p hp _;rw[lx]at hp;rw[List.mem_singleton.1 hp];obtain⟨c,hc,hcF⟩:=rx.g.f1;refine⟨by show 0<=x.e.id;omega,Int.le_refl _,⟨c,hc,?_⟩,fun _=>rfl⟩;show co (Op.bytes x.F1)=_
   rw[hcF]
  .rw [lx];exact List.pairwise_singleton _ _
  .intro p hp;rw[ly]at hp;rw[List.mem_singleton.1 hp];exact⟨fun e=>absurd (show(1:Int)=2 from e) (by decide),fun e=>by
    rcases e with e|e
    .exact absurd (show(1:Int)=3 from e) (by decide)
    .exact absurd (show(1:Int)=4 from e) (by decide)⟩
  .intro q;have:x.e.st=6:=rx.st
   omega
  .intro p hp;rw[lx]at hp;rw[List.mem_singleton.1 hp];obtain⟨c,hc,hcF⟩:=rx.g.f1;refine⟨?_,Or.inl rfl⟩;unfold mj;rw[hcF];exact vi (by decide) ⟨by omega,by omega⟩ (uc c)
 refine⟨⟨Int.le_refl _,by show(0:Int)<=1;decide⟩,ra.gs,rb.gs,⟨0,0,mk ra rb la lb ia,mk rb ra lb la ib⟩,by show(eo _).e.id<=1;omega,by show(eo _).e.id<=1;omega,by show(eo _).ln.length<=40;rw[la];exact(by simp),by show(eo _).ln.length<=40;rw[lb];exact(by simp)⟩
theorem DU(h1:aK m1 a1 g1=true)(h2:aK m2 a2 g2=true)(L:List Int)(hL:L.length<=99):let w:=jX m1 a1 g1 p1 c1 d1 m2 a2 g2 p2 c2 d2 L true
  ((w.a.e.up&&w.b.e.up)=true/\LinesOk (Bx m1 a1 g1 p1 c1 d1) (Bx m2 a2 g2 p2 c2 d2) w.a.e w.b.e)\/((w.a.e.up&&w.b.e.up)=false/\(w.a.e.st=3\/w.b.e.st=3)):=by
 have hi:=Bt L (BX (p1:=p1) (c1:=c1) (d1:=d1) (p2:=p2) (c2:=c2) (d2:=d2) h1 h2) (by omega);obtain⟨s,m,hq,hw⟩:=CU hi (by omega);have hst:=DS hq hw;intro w;have hwe:w=au cT 100 (L.foldl fQ ⟨eo (qU m1 a1 g1 p1 c1 d1),eo (qU m2 a2 g2 p2 c2 d2),0⟩):=rfl;rw[hwe];generalize au cT 100 (L.foldl fQ ⟨eo (qU m1 a1 g1 p1 c1 d1),eo (qU m2 a2 g2 p2 c2 d2),0⟩)=v at hw;obtain⟨ga,gb,R,_,_⟩:=id hw;have ea:=R.ex.st;have eb:=R.ey.st;have pa:=(jW R.ex.g.ok).2.2.2.2.2.2.2.2.2;have pb:=(jW R.ey.g.ok).2.2.2.2.2.2.2.2.2;rcases hst.1 with qa|qa
 .right
  have:v.a.e.st=3:=by rw[ea,qa];rfl
  exact⟨by rw[pa,this];rfl,Or.inl this⟩
 .rcases hst.2 with qb|qb
  .right
   have:v.b.e.st=3:=by rw[eb,qb];rfl
   exact⟨by rw[pb,this,Bool.and_comm];rfl,Or.inr this⟩
  .left
   obtain⟨⟨u1,u2⟩,k⟩:=BW hw qa qb;exact⟨by rw[u1,u2];rfl,k⟩
theorem De(h1:aK m1 a1 g1=true)(h2:aK m2 a2 g2=true):let w:=jX m1 a1 g1 p1 c1 d1 m2 a2 g2 p2 c2 d2 [] true
  w.a.e.up=true/\w.b.e.up=true/\LinesOk (Bx m1 a1 g1 p1 c1 d1) (Bx m2 a2 g2 p2 c2 d2) w.a.e w.b.e:=by
 obtain⟨ra,la,ia,fa⟩:=Ai (p:=p1) (c:=c1) (d:=d1) h1;obtain⟨rb,lb,ib,fb⟩:=Ai (p:=p2) (c:=c2) (d:=d2) h2;have hR:Rs true 0 0 (Bx m1 a1 g1 p1 c1 d1) (Bx m2 a2 g2 p2 c2 d2) (eo (qU m1 a1 g1 p1 c1 d1)) (eo (qU m2 a2 g2 p2 c2 d2)) ⟨6,3,4⟩ ⟨6,3,4⟩ [.R] [.R] none none:=by
  refine⟨⟨Int.le_refl _,by decide⟩,⟨Int.le_refl _,by decide⟩,ra,rb,?_,?_,rfl,rfl,fun q=>absurd q (by decide),fun q=>absurd q (by decide),fun q=>(by cases q),fun q=>(by cases q)⟩
  .rw [la];exact .cons rfl .nil
  .rw [lb];exact .cons rfl .nil
 have hW:Rw true (Bx m1 a1 g1 p1 c1 d1) (Bx m2 a2 g2 p2 c2 d2) ⟨eo (qU m1 a1 g1 p1 c1 d1),eo (qU m2 a2 g2 p2 c2 d2),0⟩ ⟨⟨6,3,4⟩,⟨6,3,4⟩,[.R],[.R]⟩ 16 :=
  ⟨none,none,hR,Pot.le _ _ _ _ _ _ _ _ (by show 0<=(eo _).e.fl;omega) (by show 0<=(eo _).e.fl;omega),by decide⟩
 obtain⟨s,m,⟨hq,qa,qb⟩,hw⟩:=BR 100 (by decide) hW (by
  have:=List.all_eq_true.1 FH ⟨⟨6,3,4⟩,⟨6,3,4⟩,[.R],[.R]⟩ (by decide)
  have:=of_decide_eq_true this
  omega) (by show(0:Int)+((100:Nat):Int)<=900000000;decide)
 have hwe:jX m1 a1 g1 p1 c1 d1 m2 a2 g2 p2 c2 d2 [] true=au cT 100 ⟨eo (qU m1 a1 g1 p1 c1 d1),eo (qU m2 a2 g2 p2 c2 d2),0⟩:=by
  unfold jX;dsimp only;rw[List.foldl_nil,if_pos rfl]
 dsimp only;rw[hwe];obtain⟨⟨u1,u2⟩,k⟩:=BW hw qa qb;exact⟨u1,u2,k⟩
theorem Bv{s:Sd}(h:Ge now c0 s):s.F1.length<=20/\s.F2.length<=20:=by
 have hp:=jW h.ok;exact⟨Op.right_len (iP hp.2.2.2.2.2.2.2.1),Op.right_len (iP hp.2.2.2.2.2.2.2.2.1)⟩
theorem Dg(h1:aK m1 a1 g1=true)(h2:aK m2 a2 g2=true)(L:List Int)(hL:L.length<=99)(st:Bool):let w:=jX m1 a1 g1 p1 c1 d1 m2 a2 g2 p2 c2 d2 L st
  w.a.F1.length<=20/\w.a.F2.length<=20/\w.b.F1.length<=20/\w.b.F2.length<=20:=by
 have hi:=Bt L (BX (p1:=p1) (c1:=c1) (d1:=d1) (p2:=p2) (c2:=c2) (d2:=d2) h1 h2) (by omega);intro w;cases st
 .have hwe:w=L.foldl fQ ⟨eo (qU m1 a1 g1 p1 c1 d1),eo (qU m2 a2 g2 p2 c2 d2),0⟩:=rfl;rw[hwe];have ha:=Bv hi.ga.g;have hb:=Bv hi.gb.g;exact⟨ha.1,ha.2,hb.1,hb.2⟩
 .have hwe:w=au cT 100 (L.foldl fQ ⟨eo (qU m1 a1 g1 p1 c1 d1),eo (qU m2 a2 g2 p2 c2 d2),0⟩):=rfl;obtain⟨s,m,hq,hw⟩:=CU hi (by omega);rw[hwe];generalize au cT 100 (L.foldl fQ ⟨eo (qU m1 a1 g1 p1 c1 d1),eo (qU m2 a2 g2 p2 c2 d2),0⟩)=v at hw;obtain⟨ga,gb,R,_,_⟩:=hw;have ha:=Bv R.ex.g;have hb:=Bv R.ey.g;exact⟨ha.1,ha.2,hb.1,hb.2⟩
end
end Go.Proofs.YtjdgiimfpkideaaGreatDoor
