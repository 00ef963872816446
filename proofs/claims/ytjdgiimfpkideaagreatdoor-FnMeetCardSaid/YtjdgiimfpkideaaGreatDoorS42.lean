/- FmI FmJ MtO MtR -/
import Derived.Test.YtjdgiimfpkideaaGreatDoorS41
import Derived.Test.YtjdgiimfpkideaaGreatDoorS38
import Derived.Test.YtjdgiimfpkideaaGreatDoorS39
set_option maxHeartbeats 8000000
set_option maxRecDepth 100000
namespace Go.Proofs.YtjdgiimfpkideaaGreatDoor
open Go.RowKit Go.Proofs.Tryz
variable {p:Fp} {l xy yx r t:List Fp} {x y y':Sd} {cx cy ca cb:Cf} {g:Gh} {z:Bool} {f:Fe} {m w:Mw} {s:Fs} {α:Type} {base B:Nat} {W:World} {va vb:Value}
theorem mf(p:Fp)(l m:List Fp):jB p (l++m)=(jB p l||jB p m):=by unfold jB;rw[List.any_append]
theorem vE(p:Fp)(l m:List Fp):qY p (l++m)=qY p l+qY p m:=by unfold qY;rw[List.filter_append,List.length_append]
theorem zP:jB p l=true↔1<=qY p l:=by
 unfold jB qY;rw[List.any_eq_true];constructor
 .rintro ⟨x,hx,h⟩;have:x∈l.filter fun x=>x==p:=List.mem_filter.2 ⟨hx,h⟩
  exact List.length_pos_of_mem this
 .intro h;obtain⟨x,hx⟩:=List.exists_mem_of_length_pos (by omega:0<(l.filter fun x=>x==p).length);obtain⟨h1,h2⟩:=List.mem_filter.1 hx;exact⟨x,h1,h2⟩
theorem zt(h:jB p l=false):∀x∈l,x≠p:=by
 intro x hx e;have:jB p l=true:=by unfold jB;exact List.any_eq_true.2 ⟨x,hx,by rw[e];cases p<;>rfl⟩
 rw[h]at this;cases this
theorem vF:∀{l:List Fp},Bq l=true->jB .R l=true/\jB .N l=true
 | .R::r,h=>⟨rfl,by unfold Bq at h;unfold jB at h|-;simp only[List.any_cons,h];rfl⟩
 | .K::r,h=>by
  have:=vF (l:=r) h
  unfold jB at this|-;simp only[List.any_cons,this.1,this.2,Bool.or_true];exact⟨trivial,trivial⟩
 | .N::r,h=>by
  have:=vF (l:=r) h
  unfold jB at this|-;simp only[List.any_cons,this.1,this.2,Bool.or_true];exact⟨trivial,trivial⟩
 | .T::r,h=>by
  have:=vF (l:=r) h
  unfold jB at this|-;simp only[List.any_cons,this.1,this.2,Bool.or_true];exact⟨trivial,trivial⟩
structure Okx(x:Fe)(xy yx:List Fp):Prop where
 s:jB .R xy=true\/xQ yx=true->x.st=6\/x.st=8
 b:¬(jB .R xy=true/\xQ yx=true)
 r:qY .R xy<=1
 k:qY .K yx+qY .N yx<=1
 l:xy.length<=3
 m:oy x.st=true->1<=x.rem/\x.rem<=3
theorem DY{x:Fe}(h:tN x xy yx=true):Okx x xy yx:=by
 unfold tN at h;simp only[zK,Bool.or_eq_true,decide_eq_true_eq,Bool.not_eq_true',beq_iff_eq]at h;obtain⟨⟨⟨⟨⟨h1,h2⟩,h3⟩,h4⟩,h5⟩,h6⟩:=h;refine⟨?_,?_,h3,h4,h5,?_⟩
 .intro hq;rcases h1 with(h1|h1)|h1
  .rw [Bool.or_eq_false_iff]at h1;rcases hq with hq|hq
   .rw [h1.1]at hq;cases hq
   .rw [h1.2]at hq;cases hq
  .exact Or.inl h1
  .exact Or.inr h1
 .rintro ⟨q1,q2⟩;rw[q1,q2]at h2;cases h2
 .intro hr;rcases h6 with h6|h6
  .rw [hr]at h6;cases h6
  .exact h6
theorem uz(h:xQ l=false):jB .K l=false/\jB .N l=false:=by
 unfold xQ at h;exact Bool.or_eq_false_iff.1 h
theorem AU{l:List Op.Pk}(h:Al (Pr cx cy x y g) l r)(hs:(y'.e.id=y.e.id/\y'.F1=y.F1/\gr y'.e=gr y.e)\/xQ r=false)(xr:List Op.Pk)(g':Gh)(hg:g'=g\/jB .N r=false):Al (Pr cx cy (dN x xr) y' g') l r:=by
 refine h.imp fun p c hc hp=>?_
 cases c with
 | R=>exact hp
 | K =>
  rcases hs with⟨e1,e2,e3⟩|hk
  .unfold Pr at hp|-;dsimp only at hp|-;rw[e1,e2];exact hp
  .exact absurd rfl (zt (uz hk).1 _ hc)
 | N =>
  rcases hg with rfl|hg
  .rcases hs with⟨e1,e2,e3⟩|hk
   .unfold Pr at hp|-;dsimp only at hp|-;rw[e1,e3];exact hp
   .exact absurd rfl (zt (uz hk).2 _ hc)
  .exact absurd rfl (zt hg _ hc)
 | T=>exact hp
theorem vG{g':Gh}{l:List Op.Pk}(h:Al (Pr cy cx y x g) l r)(hs:(y'.e.id=y.e.id/\y'.F1=y.F1)\/jB .R r=false)(hf:y'.F2=y.F2\/xQ r=false)(hg:g'=g\/jB .N r=false)(xr:List Op.Pk):Al (Pr cy cx y' (dN x xr) g') l r:=by
 refine h.imp fun p c hc hp=>?_
 cases c with
 | R =>
  rcases hs with⟨e1,e2⟩|hk
  .have hp':p=mj y:=hp;show p=mj y'
   rw[hp'];unfold mj;rw[e1,e2]
  .exact absurd rfl (zt hk _ hc)
 | K =>
  rcases hf with e|hk
  .have hp':p=⟨2,x.e.id,co (Op.bytes x.F1)⟩/\y.F2=x.F1:=hp;exact⟨hp'.1,e.trans hp'.2⟩
  .exact absurd rfl (zt (uz hk).1 _ hc)
 | N =>
  rcases hg with rfl|hg
  .exact hp
  .exact absurd rfl (zt hg _ hc)
 | T=>exact hp
theorem Re.lnS{n:Int}{c:Cf}(h:Re z n c x f)(l:List Op.Pk):Re z n c (dN x l) f :=
 ⟨⟨h.g.ok,h.g.du,h.g.own,h.g.ask,h.g.f1,h.g.fa,h.g.f2⟩,h.ns,h.st,h.rem,h.tr⟩
theorem AV{l m:List Op.Pk}(h:l.length+m.length<=40):(l++m).take 40=l++m:=List.take_of_length_le (by rw[List.length_append];exact h)
theorem GV{n:Nat}(hn:Bp n):((ch n 6).1=7\/(ch n 6).1=9->n=7/\(ch n 6).2.2=false)/\((ch n 7).1=7\/(ch n 7).1=9->n=7/\(ch n 7).2.2=false):=by
 rcases hn with rfl|rfl|rfl|rfl|rfl<;>decide
section
variable {z:Bool} {nw:Int} {cx cy:Cf} {x y:Sd} {fx fy:Fe} {r yx:List Fp} {gx gy:Gh}
theorem Hm(h:Rs z nw nw cx cy x y fx fy (.R::r) yx gx gy)(hV:Okx fx (.R::r) yx)(hW:Okx fy yx (.R::r)):∃p xr,x.ln=p::xr/\∃o∈A8 fy .R,(tN fx r (yx++o.2.1)=true->tN o.1 (yx++o.2.1) r=true ->
  ∃gx' gy',Rs z nw nw cx cy (dN x xr) (fk y p nw) fx o.1 r (yx++o.2.1) gx' gy'/\Pot cx cy (gr x.e) (gr (fk y p nw).e) x.e.fl (fk y p nw).e.fl gx' gy' + o.2.2<=Pot cx cy (gr x.e) (gr y.e) x.e.fl y.e.fl gx gy):=by
 have hall:=h.lx;generalize hxl:x.ln=xl at hall;cases hall with
 | @cons p _ xr _ hp ht =>
 refine⟨p,xr,rfl,?_⟩;have hp':p=mj x:=hp;have hst:=hV.s (Or.inl rfl);have hkn:xQ yx=false:=by
  cases q:xQ yx
  .rfl
  .exact absurd ⟨rfl,q⟩ hV.b
 have hNy:=(uz hkn).2;have hgx:gx=none:=by
  have:=h.nnx
  rw[hNy]at this;cases gx
  .rfl
  .cases this
 subst hgx;have hRr:jB .R r=false:=by
  cases q:jB .R r
  .rfl
  .have h1:=zP.1 q;have h2:=hV.r;have h3:qY .R (.R::r)=1+qY .R r:=by
    show(List.filter _ _).length=_
    rw[List.filter_cons_of_pos rfl];show(List.filter _ r).length+1=_
    unfold qY;omega
   omega
 have hrbn:Bq r=false:=by
  cases q:Bq r
  .rfl
  .have:=(vF q).1
   rw[hRr]at this;cases this
 have hF1:x.F1=jD (gr x.e):=h.ex.g.fa (by rw[h.ex.st];omega);have hpo:=jW h.ex.g.ok;have hpoy:=jW h.ey.g.ok;have hn:0<=nw/\nw<=1000000000:=⟨h.nwx.1,by have:=h.nwx.2;omega⟩;have hpe:p=⟨1,x.e.id,co (Op.bytes (jD (gr x.e)))⟩:=by rw[hp'];unfold mj;rw[hF1]
 have hlen:=h.ly.len;have hWl:=hW.l;have htab:=GV h.ey.ns;by_cases ha:mh (mv cy) (gr y.e).g y.e.fl (gr x.e)=2
 .obtain ⟨k1,k2,k3,k4,k5⟩:=Ad h.ey hn hpo.2.2.2.1 h.ex.g.ask.ok ha;rw[<- hpe]at k1 k2 k3 k4 k5;refine⟨(io fy 6,kU fy 6++[Fp.K],0),List.mem_cons_self ..,fun hV' hW'=>⟨none,gy,?_,?_⟩⟩
  .have hV':=DY hV';have hW':=DY hW';dsimp only at hV' hW';have hb:=Cc (by rw[<- h.ey.g.own];exact(AQ h.ey.g.ok).2) h.ex.g.ask.ok ha;have hsc:(ch fy.st 6).2.2=true->xQ r=false/\jB .R yx=false:=by
    intro hs;have e:kU fy 6=[Fp.R]:=by unfold kU;rw[if_pos hs]
    rw[e]at hW';have hR:jB .R (yx++([Fp.R]++[Fp.K]))=true:=by rw[mf];simp[jB]
    constructor
    .cases q:xQ r
     .rfl
     .exact absurd ⟨hR,q⟩ hW'.b
    .cases q:jB .R yx
     .rfl
     .have h1:=zP.1 q;have h2:=hW'.r;rw[vE]at h2;have h3:qY .R ([Fp.R]++[Fp.K])=1:=by decide
      omega
   have hln:(fk y p nw).ln=y.ln++((if(ch fy.st 6).2.2=true then[mj (fk y p nw)]else[])++[⟨2,x.e.id,co (Op.bytes (jD (gr x.e)))⟩]):=by
    rw[k2.ln,AV];have:((if(ch fy.st 6).2.2=true then[mj (fk y p nw)]else[])++[(⟨2,x.e.id,co (Op.bytes (jD (gr x.e)))⟩:Op.Pk)]).length<=2:=by split<;>exact(by simp)
    omega
   have hsame:(ch fy.st 6).2.2=false->(fk y p nw).e.id=y.e.id/\(fk y p nw).F1=y.F1:=fun hs=>⟨by rw[k2.id,if_neg (by rw[hs];decide)],k2.f1 hs⟩
   refine⟨h.nwx,h.nwy,h.ex.lnS xr,k1,?_,?_,?_,?_,?_,?_,?_,?_⟩
   .refine AU (x:=x) ht ?_ xr _ (Or.inl rfl);cases hs:(ch fy.st 6).2.2
    .exact Or.inl ⟨(hsame hs).1,(hsame hs).2,k5⟩
    .exact Or.inr (hsc hs).1
   .rw [hln];refine(vG h.ly ?_ (Or.inr hkn) (Or.inl rfl) xr).app ?_
    .cases hs:(ch fy.st 6).2.2
     .exact Or.inl (hsame hs)
     .exact Or.inr (hsc hs).2
    .have hK:Pr cy cx (fk y p nw) (dN x xr) none ⟨2,x.e.id,co (Op.bytes (jD (gr x.e)))⟩ .K:=by
      show _=_/\_=_
      refine⟨?_,?_⟩
      .show _=(⟨2,x.e.id,co (Op.bytes x.F1)⟩:Op.Pk)
       rw[hF1]
      .rw [k3];exact hF1.symm
     show Al _ _ (kU fy 6++[Fp.K])
     unfold kU;cases(ch fy.st 6).2.2
     .exact .cons hK .nil
     .exact .cons rfl (.cons hK .nil)
   .show false=_
    rw[mf,hNy,Bool.false_or,mf];unfold kU;cases(ch fy.st 6).2.2<;>rfl
   .exact h.nny
   .intro hq;omega
   .intro hq;obtain⟨q1,q2⟩:=htab.1 hq;show x.F2=_
    rw[(hsame q2).2];exact h.sy (Or.inl q1)
   .intro q;rw[hrbn]at q;cases q
   .rintro _ ⟨_,_,e,_⟩;cases e
  .show Pot _ _ _ _ _ _ _ _+0<=_
   rw[k4,k5,Nat.add_zero];have hb:=(Cc (by rw[<- h.ey.g.own];exact(AQ h.ey.g.ok).2) h.ex.g.ask.ok ha).2.1;refine Ee ?_ fun hm=>?_
   .unfold yo at hb;simp only[Bool.or_eq_false_iff]at hb;exact hb.1.2
   .refine h.jx ?_ hm;show jB .N r=true
    obtain⟨_,_,e,_⟩:=hm;have:=h.nny
    rw[e]at this;exact this.symm
 .obtain ⟨L,hL,hL3,hL4,hLn,k1,k2,k3,k4,k5⟩:=Ae h.ey hn hpo.2.2.2.1 h.ex.g.ask.ok ha;rw[<- hpe]at k1 k2 k3 k4 k5;refine⟨(io fy 7,kU fy 7++[Fp.N],1),List.mem_cons_of_mem _ (List.mem_cons_self ..),fun hV' hW'=>⟨some ((gr y.e).g,y.e.fl),gy,?_,?_⟩⟩
  .have hV':=DY hV';have hW':=DY hW';dsimp only at hV' hW';have hsc:(ch fy.st 7).2.2=true->xQ r=false/\jB .R yx=false:=by
    intro hs;have e:kU fy 7=[Fp.R]:=by unfold kU;rw[if_pos hs]
    rw[e]at hW';have hR:jB .R (yx++([Fp.R]++[Fp.N]))=true:=by rw[mf];simp[jB]
    constructor
    .cases q:xQ r
     .rfl
     .exact absurd ⟨hR,q⟩ hW'.b
    .cases q:jB .R yx
     .rfl
     .have h1:=zP.1 q;have h2:=hW'.r;rw[vE]at h2;have h3:qY .R ([Fp.R]++[Fp.N])=1:=by decide
      omega
   have hln:(fk y p nw).ln=y.ln++((if(ch fy.st 7).2.2=true then[mj (fk y p nw)]else[])++[⟨mh (mv cy) (gr y.e).g y.e.fl (gr x.e),x.e.id,co (Op.bytes L)⟩]):=by
    rw[k2.ln,AV];have:((if(ch fy.st 7).2.2=true then[mj (fk y p nw)]else[])++[(⟨mh (mv cy) (gr y.e).g y.e.fl (gr x.e),x.e.id,co (Op.bytes L)⟩:Op.Pk)]).length<=2:=by split<;>exact(by simp)
    omega
   have hsame:(ch fy.st 7).2.2=false->(fk y p nw).e.id=y.e.id/\(fk y p nw).F1=y.F1:=fun hs=>⟨by rw[k2.id,if_neg (by rw[hs];decide)],k2.f1 hs⟩
   refine⟨h.nwx,h.nwy,h.ex.lnS xr,k1,?_,?_,?_,?_,?_,?_,?_,?_⟩
   .refine AU (x:=x) ht ?_ xr _ (Or.inl rfl);cases hs:(ch fy.st 7).2.2
    .exact Or.inl ⟨(hsame hs).1,(hsame hs).2,k5⟩
    .exact Or.inr (hsc hs).1
   .rw [hln];refine(vG h.ly ?_ (Or.inr hkn) (Or.inr hNy) xr).app ?_
    .cases hs:(ch fy.st 7).2.2
     .exact Or.inl (hsame hs)
     .exact Or.inr (hsc hs).2
    .have hK:Pr cy cx (fk y p nw) (dN x xr) (some ((gr y.e).g,y.e.fl)) ⟨mh (mv cy) (gr y.e).g y.e.fl (gr x.e),x.e.id,co (Op.bytes L)⟩ .N :=
      ⟨(gr y.e).g,y.e.fl,L,rfl,rfl,ha,hL,hL3,hL4,hLn cx h.ex.g.ask⟩
     show Al _ _ (kU fy 7++[Fp.N])
     unfold kU;cases(ch fy.st 7).2.2
     .exact .cons hK .nil
     .exact .cons rfl (.cons hK .nil)
   .show true=_
    rw[mf,mf];simp[jB]
   .exact h.nny
   .intro hq;omega
   .intro hq;obtain⟨q1,q2⟩:=htab.2 hq;show x.F2=_
    rw[(hsame q2).2];exact h.sy (Or.inl q1)
   .intro q;rw[hrbn]at q;cases q
   .rintro _ ⟨g0,k0,e,_,hg⟩;injection e with e;injection e with e1 e2;subst e1;show(gr x.e).g=(gr (fk y p nw).e).g
    rw[k5];exact(vx.1 hg).2
  .show Pot _ _ _ _ _ _ _ _+1<=_
   rw[k4,k5];exact Ed hpoy.2.2.2.2.1 ha
theorem Hn(h:Rs z nw nw cx cy x y fx fy (.K::r) yx gx gy)(hW:Okx fy yx (.K::r)):∃p xr,x.ln=p::xr/\∃o∈A8 fy .K,(tN fx r (yx++o.2.1)=true->tN o.1 (yx++o.2.1) r=true ->
  ∃gx' gy',Rs z nw nw cx cy (dN x xr) (fk y p nw) fx o.1 r (yx++o.2.1) gx' gy'/\Pot cx cy (gr x.e) (gr (fk y p nw).e) x.e.fl (fk y p nw).e.fl gx' gy' + o.2.2<=Pot cx cy (gr x.e) (gr y.e) x.e.fl y.e.fl gx gy):=by
 have hall:=h.lx;generalize hxl:x.ln=xl at hall;cases hall with
 | @cons p _ xr _ hp ht =>
 refine⟨p,xr,rfl,?_⟩;have hp':p=⟨2,y.e.id,co (Op.bytes y.F1)⟩/\x.F2=y.F1:=hp;have hst:=hW.s (Or.inr rfl);have hn:0<=nw/\nw<=1000000000:=⟨h.nwx.1,by have:=h.nwx.2;omega⟩;obtain⟨k1,k2,k3,k4,k5⟩:=Af h.ey hn;rw[<- hp'.1]at k1 k2 k3 k4 k5;have hlen:=h.ly.len;have hWl:=hW.l;have h3:fy.st≠3:=by omega
 have hsc:(ch fy.st 8).2.2=false:=by rcases hst with q|q<;>rw[q]<;>rfl
 refine⟨(io fy 8,kU fy 8++(if fy.st=3 then[Fp.T]else[]),0),List.mem_cons_self ..,fun _ _=>⟨gx,gy,?_,?_⟩⟩
 .have hout:kU fy 8++(if fy.st=3 then[Fp.T]else[])=[]:=by
   unfold kU;rw[hsc,if_neg h3];rfl
  dsimp only;rw[hout,List.append_nil];have hln:(fk y p nw).ln=y.ln:=by
   rw[k2.ln,hsc,if_neg h3];show(y.ln++([]++[])).take 40=_
   rw[List.append_nil,List.append_nil,List.take_of_length_le (by omega)]
  have hid:(fk y p nw).e.id=y.e.id:=by rw[k2.id,if_neg (by rw[hsc];decide)]
  have hf1:=k2.f1 hsc;refine⟨h.nwx,h.nwy,h.ex.lnS xr,k1,?_,?_,h.nnx,?_,?_,?_,?_,?_⟩
  .exact AU (x:=x) ht (Or.inl ⟨hid,hf1,k5⟩) xr _ (Or.inl rfl)
  .rw [hln];exact vG h.ly (Or.inl ⟨hid,hf1⟩) (Or.inl k3) (Or.inl rfl) xr
  .rw [h.nny];rfl
  .intro hq;rw[k3];exact h.sx hq
  .intro _;show x.F2=_
   rw[hf1];exact hp'.2
  .intro q hm;rw[k5]at hm|-;exact h.jx q hm
  .intro q hm;rw[k5];exact h.jy q hm
 .show Pot _ _ _ _ _ _ _ _+0<=_
  rw[k4,k5];exact zD _
theorem Ho(h:Rs z nw nw cx cy x y fx fy (.N::r) yx gx gy)(hW:Okx fy yx (.N::r)):∃p xr,x.ln=p::xr/\∃o∈A8 fy .N,(tN fx r (yx++o.2.1)=true->tN o.1 (yx++o.2.1) r=true ->
  ∃gx' gy',Rs z nw nw cx cy (dN x xr) (fk y p nw) fx o.1 r (yx++o.2.1) gx' gy'/\Pot cx cy (gr x.e) (gr (fk y p nw).e) x.e.fl (fk y p nw).e.fl gx' gy' + o.2.2<=Pot cx cy (gr x.e) (gr y.e) x.e.fl y.e.fl gx gy):=by
 have hall:=h.lx;generalize hxl:x.ln=xl at hall;cases hall with
 | @cons p _ xr _ hp ht =>
 refine⟨p,xr,rfl,?_⟩;obtain⟨g0,k0,L,hg,hpe,hne,hL,hL3,hL4,hLn⟩:=hp;have hst:=hW.s (Or.inr (by unfold xQ jB;simp));have hn:0<=nw/\nw<=1000000000:=⟨h.nwx.1,by have:=h.nwx.2;omega⟩;have hcd:mh (mv cx) g0 k0 (gr y.e)=3\/mh (mv cx) g0 k0 (gr y.e)=4:=by
  rcases Aq (mv cx) g0 k0 (gr y.e)with q|q
  .exact absurd q hne
  .exact q
 obtain⟨k1,k2,k3,k4,k5⟩:=uy h.ey hn hcd hL hLn;rw[<- hpe]at k1 k2 k3 k4 k5;have heff:gr (fk y p nw).e=pf (mv cx) g0 k0 (gr y.e):=by
  rw[k5];rcases hcd with q|q
  .rw [if_pos q];exact hL3 q
  .rw [if_neg (by omega)];exact hL4 q
 have hlen:=h.ly.len;have hWl:=hW.l;have h3:fy.st≠3:=by omega
 have hsc:(ch fy.st 9).2.2=true:=by rcases hst with q|q<;>rw[q]<;>rfl
 have hns:(io fy 9).st≠7/\(io fy 9).st≠9:=by
  show(ch fy.st 9).1≠7/\(ch fy.st 9).1≠9
  rcases hst with q|q<;>rw[q]<;>decide
 refine⟨(io fy 9,kU fy 9++(if fy.st=3 then[Fp.T]else[]),0),List.mem_cons_self ..,fun hV' hW'=>⟨gx,none,?_,?_⟩⟩
 .have hout:kU fy 9++(if fy.st=3 then[Fp.T]else[])=[Fp.R]:=by
   unfold kU;rw[hsc,if_neg h3];rfl
  dsimp only at hV' hW'|-;rw[hout]at hV' hW'|-;have hW':=DY hW';have hkr:xQ r=false:=by
   cases q:xQ r
   .rfl
   .exact absurd ⟨by rw[mf];simp[jB],q⟩ hW'.b
  have hRy:jB .R yx=false:=by
   cases q:jB .R yx
   .rfl
   .have h1:=zP.1 q;have h2:=hW'.r;rw[vE]at h2;have h3:qY .R [Fp.R]=1:=by decide
    omega
  have hln:(fk y p nw).ln=y.ln++[mj (fk y p nw)]:=by
   rw[k2.ln,hsc,if_neg h3];show(y.ln++([mj (fk y p nw)]++[])).take 40=_
   rw[List.append_nil,AV];show y.ln.length+1<=40
   omega
  refine⟨h.nwx,h.nwy,h.ex.lnS xr,k1,?_,?_,?_,?_,?_,?_,?_,?_⟩
  .exact AU (x:=x) ht (Or.inr hkr) xr _ (Or.inr (uz hkr).2)
  .rw [hln];exact(vG h.ly (Or.inr hRy) (Or.inl k3) (Or.inl rfl) xr).app (.cons rfl .nil)
  .rw [h.nnx,mf];simp[jB]
  .exact (uz hkr).2.symm
  .intro hq;rw[k3];exact h.sx hq
  .intro hq;rcases hq with q|q
   .exact absurd q hns.1
   .exact absurd q hns.2
  .rintro _ ⟨_,_,e,_⟩;cases e
  .intro q;exfalso;have hy:Bq (yx++[Fp.R])=false:=by
    have:∀l:List Fp,jB .R l=false->Bq (l++[Fp.R])=false:=by
     intro l;induction l with
     | nil=>intro _;rfl
     | cons a l ih =>
      intro ha;have ha2:jB .R l=false:=by
       unfold jB at ha|-;rw[List.any_cons,Bool.or_eq_false_iff]at ha;exact ha.2
      cases a
      .unfold jB at ha;rw[List.any_cons,Bool.or_eq_false_iff]at ha;exact absurd ha.1 (by decide)
      .exact ih ha2
      .exact ih ha2
      .exact ih ha2
    exact this yx hRy
   rw[hy]at q;cases q
 .show Pot _ _ _ _ _ _ _ _+0<=_
  rw[k4,heff,hg];exact Ef
end
theorem Cy:∀{l:List Fp},jB .R l=false->Bq (l++[Fp.R])=false
 | [],_=>rfl
 | a::l,ha=>by
  have ha2:jB .R l=false:=by
   unfold jB at ha|-;rw[List.any_cons,Bool.or_eq_false_iff]at ha;exact ha.2
  cases a
  .unfold jB at ha;rw[List.any_cons,Bool.or_eq_false_iff]at ha;exact absurd ha.1 (by decide)
  .exact Cy (l:=l) ha2
  .exact Cy (l:=l) ha2
  .exact Cy (l:=l) ha2
section
variable {z:Bool} {nx ny nw:Int} {cx cy:Cf} {x y:Sd} {fx fy:Fe} {xy yx:List Fp} {gx gy:Gh}
theorem Cz{c:Fp}(h:Rs z nw nw cx cy x y fx fy (c::r) yx gx gy)(hV:Okx fx (c::r) yx)(hW:Okx fy yx (c::r)):∃p xr,x.ln=p::xr/\∃o∈A8 fy c,(tN fx r (yx++o.2.1)=true->tN o.1 (yx++o.2.1) r=true ->
  ∃gx' gy',Rs z nw nw cx cy (dN x xr) (fk y p nw) fx o.1 r (yx++o.2.1) gx' gy'/\Pot cx cy (gr x.e) (gr (fk y p nw).e) x.e.fl (fk y p nw).e.fl gx' gy' + o.2.2<=Pot cx cy (gr x.e) (gr y.e) x.e.fl y.e.fl gx gy):=by
 cases c with
 | R=>exact Hm h hV hW
 | K=>exact Hn h hW
 | N=>exact Ho h hW
 | T =>
  have hall:=h.lx;generalize x.ln=xl at hall;cases hall with
  | cons hp _=>exact hp.elim
theorem Br(h:Rs z nx ny cx cy x y fx fy xy yx gx gy)(hn:ny+1<=900000000)(hW:Okx fy yx xy):∃o∈zR z fy,(tN o.1 (yx++o.2) xy=true ->
  Rs z nx (ny+1) cx cy x (gd y (ny+1)) fx o.1 xy (yx++o.2) gx gy/\gr (gd y (ny+1)).e=gr y.e/\(gd y (ny+1)).e.fl=y.e.fl):=by
 have hn1:0<=ny/\ny+1<=1000000000:=⟨h.nwy.1,by omega⟩;have hn2:0<=ny+1/\ny+1<=900000000:=⟨by have:=h.nwy.1;omega,hn⟩;cases hrun:oy fy.st
 .obtain ⟨e,k⟩:=Ay h.ey hn1 (fun q=>by rw[hrun]at q;cases q);refine⟨(fy,[]),?_,fun _=>?_⟩
  .unfold zR;rw[hrun];exact List.mem_singleton.2 rfl
  .rw [e];dsimp only;rw[List.append_nil];refine⟨⟨h.nwx,hn2,h.ex,⟨k.g,k.ns,k.st,fun q=>?_,k.tr⟩,h.lx,h.ly,h.nnx,h.nny,h.sx,h.sy,h.jx,h.jy⟩,rfl,rfl⟩;rw[hrun]at q;cases q
 .by_cases h1:fy.rem=1
  .have hlen:=h.ly.len;have hWl:=hW.l;obtain⟨kp,kn⟩:=AR h.ey hn1 hrun h1;have h678:fy.st=6\/fy.st=7\/fy.st=8:=by
    rcases h.ey.ns with q|q|q|q|q
    .rw [q]at hrun;cases hrun
    .exact Or.inl q
    .exact Or.inr (Or.inl q)
    .exact Or.inr (Or.inr q)
    .rw [q]at hrun;cases hrun
   by_cases ht:0<y.e.tr
   .obtain ⟨k1,k2,k3,k4,k5⟩:=kp ht;have hsc:(ch fy.st 4).2.2=true:=by rcases h678 with q|q|q<;>rw[q]<;>rfl
    have hns:(io fy 4).st≠7/\(io fy 4).st≠9:=by
     show(ch fy.st 4).1≠7/\(ch fy.st 4).1≠9
     rcases h678 with q|q|q<;>rw[q]<;>decide
    have hscr:kU fy 4=[Fp.R]:=by unfold kU;rw[if_pos hsc]
    refine⟨(io fy 4,kU fy 4),?_,fun hW'=>?_⟩
    .unfold zR;rw[hrun,if_pos rfl,if_pos h1];refine List.mem_append.2 (Or.inl ?_);rw[if_neg]
     .exact List.mem_singleton.2 rfl
     .intro q;rw[zK]at q;have h0:=h.ey.tr q.1;have h00:fy.tr=0:=by simpa using q.2
      rw[h00]at h0;rw[h0]at ht;exact absurd ht (by decide)
    .dsimp only at hW'|-;rw[hscr]at hW'|-;have hW':=DY hW';have hkr:xQ xy=false:=by
      cases q:xQ xy
      .rfl
      .exact absurd ⟨by rw[mf];simp[jB],q⟩ hW'.b
     have hRy:jB .R yx=false:=by
      cases q:jB .R yx
      .rfl
      .have h1:=zP.1 q;have h2:=hW'.r;rw[vE]at h2;have h3:qY .R [Fp.R]=1:=by decide
       omega
     have hln:(gd y (ny+1)).ln=y.ln++[mj (gd y (ny+1))]:=by
      rw[k2.ln,hsc];show(y.ln++([mj (gd y (ny+1))]++[])).take 40=_
      rw[List.append_nil,AV];show y.ln.length+1<=40
      omega
     refine⟨⟨h.nwx,hn2,h.ex,k1,?_,?_,?_,h.nny,?_,?_,?_,?_⟩,k5,k4⟩
     .exact AU h.lx (Or.inr hkr) x.ln _ (Or.inl rfl)
     .rw [hln];exact(vG h.ly (Or.inr hRy) (Or.inl k3) (Or.inl rfl) x.ln).app (.cons rfl .nil)
     .rw [h.nnx,mf];simp[jB]
     .intro hq;rw[k3];exact h.sx hq
     .intro hq;rcases hq with q|q
      .exact absurd q hns.1
      .exact absurd q hns.2
     .intro q hm;rw[k5]at hm|-;exact h.jx q hm
     .intro q;rw[Cy hRy]at q;cases q
   .obtain ⟨k1,k2,k3,k4,k5⟩:=kn ht;have hsc:(ch fy.st 5).2.2=false:=by rcases h678 with q|q|q<;>rw[q]<;>rfl
    have hns:(io fy 5).st≠7/\(io fy 5).st≠9:=by
     show(ch fy.st 5).1≠7/\(ch fy.st 5).1≠9
     rcases h678 with q|q|q<;>rw[q]<;>decide
    refine⟨(io fy 5,[]),?_,fun _=>?_⟩
    .unfold zR;rw[hrun,if_pos rfl,if_pos h1];refine List.mem_append.2 (Or.inr ?_);rw[if_neg]
     .exact List.mem_singleton.2 rfl
     .intro q;rw[zK]at q;have h0:=h.ey.tr q.1;have h00:fy.tr≠0:=by simpa using q.2
      omega
    .dsimp only;rw[List.append_nil];have hln:(gd y (ny+1)).ln=y.ln:=by
      rw[k2.ln,hsc];show(y.ln++([]++[])).take 40=_
      rw[List.append_nil,List.append_nil,List.take_of_length_le (by omega)]
     have hid:(gd y (ny+1)).e.id=y.e.id:=by rw[k2.id,if_neg (by rw[hsc];decide)]
     have hf1:=k2.f1 hsc;refine⟨⟨h.nwx,hn2,h.ex,k1,?_,?_,h.nnx,h.nny,?_,?_,?_,?_⟩,k5,k4⟩
     .exact AU h.lx (Or.inl ⟨hid,hf1,k5⟩) x.ln _ (Or.inl rfl)
     .rw [hln];exact vG h.ly (Or.inl ⟨hid,hf1⟩) (Or.inl k3) (Or.inl rfl) x.ln
     .intro hq;rw[k3];exact h.sx hq
     .intro hq;rcases hq with q|q
      .exact absurd q hns.1
      .exact absurd q hns.2
     .intro q hm;rw[k5]at hm|-;exact h.jx q hm
     .intro q hm;rw[k5];exact h.jy q hm
  .obtain ⟨e,k⟩:=Ay h.ey hn1 (fun q=>⟨h1,by have:=(hW.m q).1;omega⟩);refine⟨(⟨fy.st,fy.rem-1,fy.tr⟩,[]),?_,fun _=>?_⟩
   .unfold zR;rw[hrun,if_pos rfl,if_neg h1];exact List.mem_singleton.2 rfl
   .rw [e];dsimp only;rw[List.append_nil];exact⟨⟨h.nwx,hn2,h.ex,k,h.lx,h.ly,h.nnx,h.nny,h.sx,h.sy,h.jx,h.jy⟩,rfl,rfl⟩
end
def Rw(z:Bool)(ca cb:Cf)(w:Mw)(s:Fs)(m:Nat):Prop:=∃ga gb,Rs z w.now w.now ca cb w.a w.b s.a s.b s.ab s.ba ga gb/\Pot ca cb (gr w.a.e) (gr w.b.e) w.a.e.fl w.b.e.fl ga gb<=m/\A4 s=true
theorem DJ(h:A4 s=true):Okx s.a s.ab s.ba/\Okx s.b s.ba s.ab:=by
 unfold A4 at h;rw[zK]at h;exact⟨DY h.1,DY h.2⟩
theorem AW(h:A4 s=true):tN s.a s.ab s.ba=true/\tN s.b s.ba s.ab=true:=by
 unfold A4 at h;rwa [zK]at h
section
variable {z:Bool} {ca cb:Cf} {w:Mw} {s:Fs} {m:Nat}
theorem Fq(h:Rw z ca cb w s m):∃o∈goB s,A4 o.1=true->∃m',m' + o.2<=m/\Rw z ca cb (aI w) o.1 m':=by
 obtain⟨ga,gb,hr,hp,hok⟩:=h;have hx:=DJ hok;obtain⟨sa,sb,ab,ba⟩:=s;cases ab with
 | nil =>
  have hl:=hr.lx;generalize hwl:w.a.ln=wl at hl;cases hl with
  | nil =>
  refine⟨(⟨sa,sb,[],ba⟩,0),List.mem_singleton.2 rfl,fun _=>⟨m,zD _,?_⟩⟩;have e:aI w=w:=by unfold aI;rw[hwl]
  rw[e];exact⟨ga,gb,hr,hp,hok⟩
 | cons c r =>
  obtain⟨p,xr,hl,o,ho,hk⟩:=Cz hr hx.1 hx.2;have e:aI w=⟨dN w.a xr,fk w.b p w.now,w.now⟩:=by unfold aI;rw[hl]
  refine⟨(⟨sa,o.1,r,ba++o.2.1⟩,o.2.2),List.mem_map.2 ⟨o,ho,rfl⟩,fun hok'=>?_⟩;obtain⟨k1,k2⟩:=AW hok';obtain⟨gx',gy',hr',hp'⟩:=hk k1 k2;rw[e];exact⟨_,zE hp' hp,gx',gy',hr',zD _,hok'⟩
theorem Ft(h:Rw z ca cb w s m):∃o∈goA s,A4 o.1=true->∃m',m' + o.2<=m/\Rw z ca cb (aN w) o.1 m':=by
 obtain⟨ga,gb,hr,hp,hok⟩:=h;have hx:=DJ hok;have hr:=hr.swap;obtain⟨sa,sb,ab,ba⟩:=s;cases ba with
 | nil =>
  have hl:=hr.lx;generalize hwl:w.b.ln=wl at hl;cases hl with
  | nil =>
  refine⟨(⟨sa,sb,ab,[]⟩,0),List.mem_singleton.2 rfl,fun _=>⟨m,zD _,?_⟩⟩;have e:aN w=w:=by unfold aN;rw[hwl]
  rw[e];exact⟨ga,gb,hr.swap,hp,hok⟩
 | cons c r =>
  obtain⟨p,xr,hl,o,ho,hk⟩:=Cz hr hx.2 hx.1;have e:aN w=⟨fk w.a p w.now,dN w.b xr,w.now⟩:=by unfold aN;rw[hl]
  refine⟨(⟨o.1,sb,ab++o.2.1,r⟩,o.2.2),List.mem_map.2 ⟨o,ho,rfl⟩,fun hok'=>?_⟩;obtain⟨k1,k2⟩:=AW hok';obtain⟨gx',gy',hr',hp'⟩:=hk k2 k1;rw[e];rw[Pot.swap]at hp;rw[Pot.swap cb ca (gr w.b.e) (gr w.a.e) _ _ gb ga,Pot.swap cb ca]at hp';refine⟨_,zE hp' (by rw[Pot.swap];exact hp),gy',gx',hr'.swap,zD _,hok'⟩
theorem BN{o:Fe × List Fp}(h:o∈zR z f):o.2=[]\/o.2=[Fp.R]:=by
 unfold zR at h;split at h
 .split at h
  .rcases List.mem_append.1 h with h|h
   .split at h
    .simp at h
    .rw [List.mem_singleton.1 h];show kU f 4=[]\/kU f 4=[Fp.R]
     unfold kU;split
     .exact Or.inr rfl
     .exact Or.inl rfl
   .split at h
    .simp at h
    .rw [List.mem_singleton.1 h];exact Or.inl rfl
  .rw [List.mem_singleton.1 h];exact Or.inl rfl
 .rw [List.mem_singleton.1 h];exact Or.inl rfl
theorem GW(l:List Fp):xQ (l++[Fp.R])=xQ l/\qY .K (l++[Fp.R])=qY .K l/\qY .N (l++[Fp.R])=qY .N l:=by
 refine⟨?_,?_,?_⟩
 .unfold xQ;rw[mf,mf,show jB .K [Fp.R]=false from rfl,show jB .N [Fp.R]=false from rfl,Bool.or_false,Bool.or_false]
 .rw [vE];rfl
 .rw [vE];rfl
theorem Fu{x:Fe}(ht:t=[]\/t=[Fp.R]):tN x xy (yx++t)=tN x xy yx:=by
 rcases ht with rfl|rfl
 .rw [List.append_nil]
 .obtain ⟨h1,h2,h3⟩:=GW yx;unfold tN;rw[h1,h2,h3]
theorem Okx.addR{x:Fe}(h:Okx x xy yx)(ht:t=[]\/t=[Fp.R]):Okx x xy (yx++t):=by
 rcases ht with rfl|rfl
 .rw [List.append_nil];exact h
 .obtain ⟨h1,h2,h3⟩:=GW yx;refine⟨?_,?_,h.r,?_,h.l,h.m⟩
  .rw [h1];exact h.s
  .rw [h1];exact h.b
  .rw [h2,h3];exact h.k
theorem DK(h:Rw z ca cb w s m)(hn:w.now+1<=900000000):∃o∈EG z s,A4 o=true->Rw z ca cb (z_ w) o m:=by
 obtain⟨ga,gb,hr,hp,hok⟩:=h;have hx:=DJ hok;obtain⟨o1,h1,k1⟩:=Br hr.swap hn hx.1;have t1:=BN h1;by_cases hq:tN o1.1 (s.ab++o1.2) s.ba=true
 .obtain ⟨r1,a1,f1⟩:=k1 hq;obtain⟨o2,h2,k2⟩:=Br r1.swap hn (hx.2.addR t1);refine⟨⟨o1.1,o2.1,s.ab++o1.2,s.ba++o2.2⟩,List.mem_flatMap.2 ⟨o1,h1,List.mem_map.2 ⟨o2,h2,rfl⟩⟩,fun hok'=>?_⟩;obtain⟨q1,q2⟩:=AW hok';obtain⟨r2,a2,f2⟩:=k2 q2;refine⟨ga,gb,r2,?_,hok'⟩;show Pot ca cb (gr (gd w.a (w.now+1)).e) (gr (gd w.b (w.now+1)).e) (gd w.a (w.now+1)).e.fl (gd w.b (w.now+1)).e.fl ga gb<=m
  rw[a1,f1,a2,f2];exact hp
 .obtain ⟨o2,h2,k2⟩:=Br hr hn hx.2;refine⟨⟨o1.1,o2.1,s.ab++o1.2,s.ba++o2.2⟩,List.mem_flatMap.2 ⟨o1,h1,List.mem_map.2 ⟨o2,h2,rfl⟩⟩,fun hok'=>?_⟩;obtain⟨q1,_⟩:=AW hok';dsimp only at q1;rw[Fu (BN h2)]at q1;exact absurd q1 hq
theorem rZ(f:α->α)(n:Nat)(x:α):au f (n+1) x=au f n (f x):=by
 induction n with
 | zero=>rfl
 | succ n ih =>
  show f (au f (n+1) x)=f (au f n (f x))
  rw[ih]
theorem CJ(w:Mw):(aI w).now=w.now:=by unfold aI;split<;>rfl
theorem Az(w:Mw):(aN w).now=w.now:=by unfold aN;split<;>rfl
theorem vz(f:Mw->Mw)(hf:∀w,(f w).now=w.now)(n:Nat)(w:Mw):(au f n w).now=w.now:=by
 induction n with
 | zero=>rfl
 | succ n ih=>exact(hf _).trans ih
end
theorem AX:∀(n:Nat){w:Mw}{s:Fs}{m k:Nat}{Q:Fs->Nat->Bool},EH n s k Q=true->Rw z ca cb w s m->∃s' m' k',k<=k'/\m' + (k'-k)<=m/\Q s' k'=true/\Rw z ca cb (au aI n w) s' m'
 | 0,w,s,m,k,Q,hc,h=>⟨s,m,k,zD _,by omega,hc,h⟩
 | n+1,w,s,m,k,Q,hc,h=>by
  obtain⟨o,ho,hk⟩:=Fq h;have h1:=List.all_eq_true.1 hc o ho;rw[zK]at h1;obtain⟨m1,hm1,h2⟩:=hk h1.1;obtain⟨s',m',k',q1,q2,q3,q4⟩:=AX n h1.2 h2;refine⟨s',m',k',by omega,by omega,q3,?_⟩;rw[rZ];exact q4
theorem zW:∀(n:Nat){w:Mw}{s:Fs}{m k:Nat}{Q:Fs->Nat->Bool},Dl n s k Q=true->Rw z ca cb w s m->∃s' m' k',k<=k'/\m' + (k'-k)<=m/\Q s' k'=true/\Rw z ca cb (au aN n w) s' m'
 | 0,w,s,m,k,Q,hc,h=>⟨s,m,k,zD _,by omega,hc,h⟩
 | n+1,w,s,m,k,Q,hc,h=>by
  obtain⟨o,ho,hk⟩:=Ft h;have h1:=List.all_eq_true.1 hc o ho;rw[zK]at h1;obtain⟨m1,hm1,h2⟩:=hk h1.1;obtain⟨s',m',k',q1,q2,q3,q4⟩:=zW n h1.2 h2;refine⟨s',m',k',by omega,by omega,q3,?_⟩;rw[rZ];exact q4
theorem zX{m:Nat}{Q:Fs->Nat->Bool}(hc:DZ z s Q=true)(h:Rw z ca cb w s m)(hn:w.now+1<=900000000):∃s' m' k',m' + k'<=m/\Q s' k'=true/\Rw z ca cb (cT w) s' m'/\(cT w).now=w.now+1:=by
 have hla:w.a.ln.length=s.ab.length:=by
  obtain⟨ga,gb,hr,_⟩:=h;exact hr.lx.len
 obtain⟨s1,m1,k1,_,q2,q3,q4⟩:=AX s.ab.length hc h;have hlb:(au aI s.ab.length w).b.ln.length=s1.ba.length:=by
  obtain⟨ga,gb,hr,_⟩:=q4;exact hr.ly.len
 obtain⟨s2,m2,k2,r1,r2,r3,r4⟩:=zW s1.ba.length q3 q4;have hnow:(au aN s1.ba.length (au aI s.ab.length w)).now=w.now:=by
  rw[vz _ Az,vz _ CJ]
 obtain⟨o,ho,hk⟩:=DK r4 (by rw[hnow];exact hn);have h1:=List.all_eq_true.1 r3 o ho;rw[zK]at h1;have e:cT w=z_ (au aN s1.ba.length (au aI s.ab.length w)):=by
  unfold cT;dsimp only;rw[hla,hlb]
 refine⟨o,m2,k2,by omega,h1.2,?_,?_⟩
 .rw [e];exact hk h1.1
 .rw [e];show(au aN s1.ba.length (au aI s.ab.length w)).now+1=_
  rw[hnow]
theorem Ce{m:Nat}(hq:uo s=true)(h:Rw z ca cb w s m)(hn:w.now+1<=900000000):Rw z ca cb (cT w) s m/\(cT w).now=w.now+1:=by
 obtain⟨⟨sa,ra,ta⟩,⟨sb,rb,tb⟩,ab,ba⟩:=s;unfold uo at hq;simp only[zK,Bool.not_eq_true',List.isEmpty_iff]at hq;obtain⟨⟨⟨q1,q2⟩,rfl⟩,rfl⟩:=hq;have hc:DZ z ⟨⟨sa,ra,ta⟩,⟨sb,rb,tb⟩,[],[]⟩ (fun o _=>decide (o=⟨⟨sa,ra,ta⟩,⟨sb,rb,tb⟩,[],[]⟩))=true:=by
  have hok:A4 ⟨⟨sa,ra,ta⟩,⟨sb,rb,tb⟩,[],[]⟩=true:=by
   obtain⟨_,_,_,_,hok⟩:=h;exact hok
  have hT:EG z ⟨⟨sa,ra,ta⟩,⟨sb,rb,tb⟩,[],[]⟩=[⟨⟨sa,ra,ta⟩,⟨sb,rb,tb⟩,[],[]⟩]:=by
   unfold EG zR;dsimp only;rw[q1,q2];rfl
  show((EG z ⟨⟨sa,ra,ta⟩,⟨sb,rb,tb⟩,[],[]⟩).all fun o=>A4 o&&decide (o=⟨⟨sa,ra,ta⟩,⟨sb,rb,tb⟩,[],[]⟩))=true
  rw[hT];simp[hok]
 obtain⟨s',m',k',e1,e2,e3,e4⟩:=zX hc h hn;have:=of_decide_eq_true e2
 subst this;obtain⟨ga,gb,hr,hp,hok⟩:=e3;exact⟨⟨ga,gb,hr,by omega,hok⟩,e4⟩
theorem BO(f:α->α)(a b:Nat)(x:α):au f (a+b) x=au f a (au f b x):=by
 induction a with
 | zero=>rw[Nat.zero_add];rfl
 | succ a ih=>rw[Nat.succ_add];show f _=f _;rw[ih]
theorem zy{m:Nat}(hq:uo s=true):∀(n:Nat){w:Mw},Rw z ca cb w s m->w.now+n<=900000000->Rw z ca cb (au cT n w) s m/\(au cT n w).now=w.now+n
 | 0,w,h,_=>⟨h,by simp[au]⟩
 | n+1,w,h,hn=>by
  obtain⟨h1,h2⟩:=zy hq n h (by omega);obtain⟨h3,h4⟩:=Ce hq h1 (by rw[h2];omega);refine⟨h3,?_⟩;show(cT (au cT n w)).now=_
  rw[h4,h2];omega
def lh(f:Fe):Fe:=⟨f.st,if oy f.st=true then f.rem else 0,0⟩
def Db(s:Fs):Fs:=⟨lh s.a,lh s.b,s.ab,s.ba⟩
theorem Re.nrm{now:Int}{c0:Cf}(h:Re false now c0 x f):Re false now c0 x (lh f) :=
 ⟨h.g,h.ns,h.st,fun q=>by
  have q':oy f.st=true:=q;rw[h.rem q'];unfold lh;rw[if_pos q'],fun q=>by cases q⟩
theorem Rs.nrm{nx ny:Int}{fx fy:Fe}{gx gy:Gh}(h:Rs false nx ny cx cy x y fx fy xy yx gx gy):Rs false nx ny cx cy x y (lh fx) (lh fy) xy yx gx gy :=
 ⟨h.nwx,h.nwy,h.ex.nrm,h.ey.nrm,h.lx,h.ly,h.nnx,h.nny,h.sx,h.sy,h.jx,h.jy⟩
theorem Ag(f:Fe)(xy yx:List Fp):tN (lh f) xy yx=tN f xy yx:=by
 unfold tN lh;dsimp only;cases h:oy f.st
 .rfl
 .rfl
theorem Eh(s:Fs):A4 (Db s)=A4 s:=by
 unfold A4 Db;dsimp only;rw[Ag,Ag]
theorem Rw.nrm{m:Nat}(h:Rw false ca cb w s m):Rw false ca cb w (Db s) m:=by
 obtain⟨ga,gb,hr,hp,hok⟩:=h;exact⟨ga,gb,hr.nrm,hp,by rw[Eh];exact hok⟩
theorem Bg(f:Fe):As (lh f)=As f:=by
 unfold As lh;dsimp only;by_cases h3:f.st=3
 .rw [if_pos h3,if_pos h3]
 .rw [if_neg h3,if_neg h3];by_cases h9:f.st=9
  .rw [if_pos h9,if_pos h9]
  .rw [if_neg h9,if_neg h9];cases hr:oy f.st
   .have h6:¬f.st=6:=fun e=>by rw[e]at hr;cases hr
    have h7:¬f.st=7:=fun e=>by rw[e]at hr;cases hr
    have h8:¬f.st=8:=fun e=>by rw[e]at hr;cases hr
    simp[h6,h7,h8]
   .rfl
theorem Ei(s:Fs):A5 (Db s)=A5 s:=by
 unfold A5 Db;dsimp only;rw[Bg,Bg]
theorem Ar(h:As f<11):lh f∈pH:=by
 obtain⟨st,rem,tr⟩:=f;unfold As at h;dsimp only at h;by_cases h3:st=3
 .subst h3;exact(show(⟨3,0,0⟩:Fe)∈pH by decide)
 .rw [if_neg h3]at h;by_cases h9:st=9
  .subst h9;exact(show(⟨9,0,0⟩:Fe)∈pH by decide)
  .rw [if_neg h9]at h;by_cases hr:rem=0\/3<rem
   .rw [if_pos hr]at h;omega
   .rw [if_neg hr]at h;have hrem:rem=1\/rem=2\/rem=3:=by omega
    by_cases h6:st=6
    .subst h6;rcases hrem with rfl|rfl|rfl
     .exact (show(⟨6,1,0⟩:Fe)∈pH by decide)
     .exact (show(⟨6,2,0⟩:Fe)∈pH by decide)
     .exact (show(⟨6,3,0⟩:Fe)∈pH by decide)
    .rw [if_neg h6]at h;by_cases h7:st=7
     .subst h7;rcases hrem with rfl|rfl|rfl
      .exact (show(⟨7,1,0⟩:Fe)∈pH by decide)
      .exact (show(⟨7,2,0⟩:Fe)∈pH by decide)
      .exact (show(⟨7,3,0⟩:Fe)∈pH by decide)
     .rw [if_neg h7]at h;by_cases h8:st=8
      .subst h8;rcases hrem with rfl|rfl|rfl
       .exact (show(⟨8,1,0⟩:Fe)∈pH by decide)
       .exact (show(⟨8,2,0⟩:Fe)∈pH by decide)
       .exact (show(⟨8,3,0⟩:Fe)∈pH by decide)
      .rw [if_neg h8]at h;omega
theorem Dc{ab ba:List Fp}(h:Do ab ba<10):(ab,ba)∈Dp:=by
 unfold Do at h;split at h
 all_goals first|exact(by decide)|exact absurd h (by decide)
theorem Ej(h:A5 s<15):Db s∈FD:=by
 unfold A5 at h;dsimp only at h;split at h
 .next hc =>
  refine List.mem_flatMap.2 ⟨lh s.a,Ar hc.1,List.mem_flatMap.2 ⟨lh s.b,Ar hc.2.1,List.mem_map.2 ⟨(s.ab,s.ba),Dc hc.2.2,rfl⟩⟩⟩
 .omega
theorem BP:∀(n:Nat){w:Mw}{s:Fs}{m:Nat},A5 s<15->Rw false ca cb w s m->A5 s+2*m<=n->w.now+n<=900000000->∃s' m',uo s'=true/\Rw false ca cb (au cT n w) s' m'
 | n,w,s,m,hk,h,hn,ht=>by
  have h1:=h.nrm;have hs:=List.all_eq_true.1 EI _ (Ej hk);unfold Dq at hs;rw[Ei]at hs;rw[Bool.or_eq_true,zK,Bool.or_eq_true,zK]at hs;rcases hs with hs|⟨_,hs|⟨hs1,hs2⟩⟩
  .have:A5 s=15:=by simpa using hs
   omega
  .exact ⟨_,_,hs,(zy hs n h1 ht).1⟩
  .have h1r:=of_decide_eq_true hs1;cases n with
   | zero=>omega
   | succ n =>
    obtain⟨s',m',k',e1,e2,e3,e4⟩:=zX hs2 h1 (by omega);rw[zK]at e2;have e5:=of_decide_eq_true e2.1;have e6:=of_decide_eq_true e2.2;rw[rZ];exact BP n e5 e3 (by omega) (by rw[e4];omega)
theorem BR:∀(n:Nat){w:Mw}{s:Fs}{m:Nat},(FE.any fun x=>x==s)=true->Rw true ca cb w s m->A5 s+2*m<=n->w.now+n<=900000000->∃s' m',(uo s'=true/\s'.a.st=9/\s'.b.st=9)/\Rw true ca cb (au cT n w) s' m'
 | n,w,s,m,hk,h,hn,ht=>by
  have hmem:s∈FE:=by
   obtain⟨x,hx,e⟩:=List.any_eq_true.1 hk;have:x=s:=by simpa using e
   rw[<- this];exact hx
  have hs:=List.all_eq_true.1 FG _ hmem;unfold FF at hs;rw[zK]at hs;have hs:=hs.2;cases hq:uo s
  .rw [hq,if_neg (by decide),zK]at hs;have h1r:=of_decide_eq_true hs.1;cases n with
   | zero=>omega
   | succ n =>
    obtain⟨s',m',k',e1,e2,e3,e4⟩:=zX hs.2 h (by omega);rw[zK]at e2;have e6:=of_decide_eq_true e2.2;rw[rZ];exact BR n e2.1 e3 (by omega) (by rw[e4];omega)
  .rw [hq,if_pos rfl,zK]at hs;exact⟨s,m,⟨hq,by simpa using hs.1,by simpa using hs.2⟩,(zy hq n h ht).1⟩
theorem vq(h:MW base B m W va vb):Calls prog 41 #[(B,30)] W fun e W'=>e=.returned (.tuple #[])/\∃va' vb',MW base B ⟨dN m.a m.a.ln.tail,m.b,m.now⟩ W' va' vb'/\FW B va vb va' vb' W W':=by
 obtain⟨ca,cb,hM⟩:=h;have:=qW hM.sa.wr
 rw[show([]++ca:List Value).length=30 from hM.ea.len]at this;refine this.mono ?_;rintro e W'⟨rfl,v',hw,hf⟩;exact⟨rfl,v',vb,⟨ca,cb,hM.setA (hM.sa.line hf hw) hf (Nb9.refl _ _)⟩,fun _=>Fw.a _ hf⟩
theorem vu(h:MW base B m W va vb):Calls prog 41 #[(B,61)] W fun e W'=>e=.returned (.tuple #[])/\∃va' vb',MW base B ⟨m.a,dN m.b m.b.ln.tail,m.now⟩ W' va' vb'/\FW B va vb va' vb' W W':=by
 obtain⟨ca,cb,hM⟩:=h;have:=qW hM.sb.wr
 rw[hM.lenB]at this;refine this.mono ?_;rintro e W'⟨rfl,v',hw,hf⟩;exact⟨rfl,va,v',⟨ca,cb,hM.setB (hM.sb.line hf hw) hf (Nb9.refl _ _)⟩,fun _=>Fw.b _ hf⟩
theorem xU(h:MW base B m W va vb):Calls prog 42 #[(B,30)] W fun e W'=>e=.returned (.tuple #[])/\∃va' vb',MW base B ⟨dN m.a (ml m.a.ln),m.b,m.now⟩ W' va' vb'/\FW B va vb va' vb' W W':=by
 obtain⟨ca,cb,hM⟩:=h;have:=ol hM.sa.wr
 rw[show([]++ca:List Value).length=30 from hM.ea.len]at this;refine this.mono ?_;rintro e W'⟨rfl,v',hw,hf⟩;exact⟨rfl,v',vb,⟨ca,cb,hM.setA (hM.sa.line hf hw) hf (Nb9.refl _ _)⟩,fun _=>Fw.a _ hf⟩
theorem xV(h:MW base B m W va vb):Calls prog 42 #[(B,61)] W fun e W'=>e=.returned (.tuple #[])/\∃va' vb',MW base B ⟨m.a,dN m.b (ml m.b.ln),m.now⟩ W' va' vb'/\FW B va vb va' vb' W W':=by
 obtain⟨ca,cb,hM⟩:=h;have:=ol hM.sb.wr
 rw[hM.lenB]at this;refine this.mono ?_;rintro e W'⟨rfl,v',hw,hf⟩;exact⟨rfl,va,v',⟨ca,cb,hM.setB (hM.sb.line hf hw) hf (Nb9.refl _ _)⟩,fun _=>Fw.b _ hf⟩
theorem zg(h:MW base B m W va vb)(_h0:0<=m.now)(_h1:m.now<=1000000):Calls prog 40 #[(B,0)] W fun e W'=>e=.returned (.tuple #[])/\∃va' vb',MW base B (fQ m 0) W' va' vb'/\FW B va vb va' vb' W W':=vk h
theorem zh(h:MW base B m W va vb)(_h0:0<=m.now)(_h1:m.now<=1000000):Calls prog 41 #[(B,30)] W fun e W'=>e=.returned (.tuple #[])/\∃va' vb',MW base B (fQ m 1) W' va' vb'/\FW B va vb va' vb' W W':=vq h
theorem zi(h:MW base B m W va vb)(_h0:0<=m.now)(_h1:m.now<=1000000):Calls prog 42 #[(B,30)] W fun e W'=>e=.returned (.tuple #[])/\∃va' vb',MW base B (fQ m 2) W' va' vb'/\FW B va vb va' vb' W W':=xU h
theorem zj(h:MW base B m W va vb)(_h0:0<=m.now)(_h1:m.now<=1000000):Calls prog 43 #[(B,0)] W fun e W'=>e=.returned (.tuple #[])/\∃va' vb',MW base B (fQ m 3) W' va' vb'/\FW B va vb va' vb' W W':=vl h
theorem zk(h:MW base B m W va vb)(_h0:0<=m.now)(_h1:m.now<=1000000):Calls prog 41 #[(B,61)] W fun e W'=>e=.returned (.tuple #[])/\∃va' vb',MW base B (fQ m 4) W' va' vb'/\FW B va vb va' vb' W W':=vu h
theorem zm(h:MW base B m W va vb)(_h0:0<=m.now)(_h1:m.now<=1000000):Calls prog 42 #[(B,61)] W fun e W'=>e=.returned (.tuple #[])/\∃va' vb',MW base B (fQ m 5) W' va' vb'/\FW B va vb va' vb' W W':=xV h
theorem zn(h:MW base B m W va vb)(h0:0<=m.now)(h1:m.now<=1000000):Calls prog 44 #[(B,0)] W fun e W'=>e=.returned (.tuple #[])/\∃va' vb',MW base B (fQ m 6) W' va' vb'/\FW B va vb va' vb' W W':=tL h h0 h1
theorem tj(m:Mw)(e:Int):m.now<=(fQ m e).now/\(fQ m e).now<=m.now+1:=by
 unfold fQ;repeat' split
 .unfold aI;split<;>exact⟨Int.le_refl _,by show m.now<=m.now+1;omega⟩
 .exact ⟨Int.le_refl _,by dsimp only;omega⟩
 .exact ⟨Int.le_refl _,by dsimp only;omega⟩
 .unfold aN;split<;>exact⟨Int.le_refl _,by show m.now<=m.now+1;omega⟩
 .exact ⟨Int.le_refl _,by dsimp only;omega⟩
 .exact ⟨Int.le_refl _,by dsimp only;omega⟩
 .unfold z_;dsimp only;omega
 .exact ⟨Int.le_refl _,by omega⟩
theorem gQ(L:List Int):∀m:Mw,m.now<=(L.foldl fQ m).now/\(L.foldl fQ m).now<=m.now+L.length:=by
 induction L with
 | nil=>intro m;simp
 | cons e L ih =>
  intro m;have h1:=tj m e;have h2:=ih (fQ m e);simp only[List.foldl_cons,List.length_cons];omega
theorem Mt.keepT{W':World}{ca cb:List Value}{va' vb':Value}(h:Mt base W B m ca va cb vb)(f:FW B va vb va' vb' W W')(g:Nat)(cur:Array Value)(T:TypeId)(t1:T≠66)(t2:T≠85)(hg:W.heap[g]?=some (.cells cur T)):W'.heap[g]?=some (.cells cur T):=by
 have hl:=(ge.1 hg).1;refine((f W.heap.size).same g hl (fun e=>?_) (by omega) (fun e=>?_) (fun e=>?_)).trans hg
 .rw [e,h.row]at hg;injection hg with hg;injection hg with _ hg;exact t1 hg.symm
 .obtain ⟨_,_,_,c,h2⟩:=h.sa.wr.ownB g e;rw[hg]at h2;injection h2 with h2;injection h2 with _ h2;exact t2 h2
 .obtain ⟨_,_,_,c,h2⟩:=h.sb.wr.ownB g e;rw[hg]at h2;injection h2 with h2;injection h2 with _ h2;exact t2 h2
theorem xW(h:MW base B m W va vb)(h0:0<=m.now)(h1:m.now<=1000){x:Option Addr}{y:Nat}{L:List Int}(hL:HoldsI W (x,L.length,y) L)(hl:L.length<=10000):Calls prog 24 #[(B,0),(x,L.length,y)] W fun e W'=>e=.returned (.tuple #[])/\∃va' vb',MW base B (L.foldl fQ m) W' va' vb'/\FW B va vb va' vb' W W':=by
 obtain⟨ca,cb,hM⟩:=h;obtain⟨fs,hfs⟩:∃fs:Array Value,#[.func (.func 40) #[(B,0)] #[],.func (.func 41) #[(B,30)] #[],.func (.func 42) #[(B,30)] #[],.func (.func 43) #[(B,0)] #[],.func (.func 41) #[(B,61)] #[],.func (.func 42) #[(B,61)] #[],.func (.func 44) #[(B,0)] #[]]=fs:=⟨_,rfl⟩;have hbW:Below W W (W.alloc (.cells fs 86)).drew:=((zC W W).alloc (zD _) _).drew;have hA0:(W.alloc (.cells fs 86)).drew.heap[W.heap.size]?=_:=zF W (.cells fs 86);have H0:Hid (Mt base (W.alloc (.cells fs 86)).drew B m ca va cb vb/\HoldsI (W.alloc (.cells fs 86)).drew (x,L.length,y) L/\Below W W (W.alloc (.cells fs 86)).drew/\(W.alloc (.cells fs 86)).drew.heap[W.heap.size]?=some (.cells fs 86)):=aa ⟨hM.below hbW,hL.below hbW rfl,hbW,hA0⟩;have HFS:=aa hfs;clear hfs;clear hM hL hbW hA0;have CW:=fun(e:Int) (w:World)=>cE e 0 6 w
 generalize hn:L.length=n at*;go_enter func24,ntmps24
 go_upto_region 0 with fail
 refine wp_region_held_drew (S:=fun _=>True) (by kernel_rfl) trivial (fun hHeld=>?_);refine tq 0 1 2 3 ?_;refine tq 4 5 6 7 ?_;refine tq 8 9 10 11 ?_;refine tq 12 13 14 15 ?_;refine tq 16 17 18 19 ?_;refine tq 20 21 22 23 ?_;refine tt 24 25 ?_;refine t2 26 ?_;refine r3 27 fun K hK=>?_
 go_simp;refine ro hK trivial fun _=>?_
 clear hK K;refine r3 28 fun K hK=>?_
 go_simp;refine ro hK trivial fun _=>?_
 clear hK K;refine dn ?_ _;rw[uh HFS];generalize (W.alloc (.cells fs 86)).drew=W1 at H0|-;rw[<- uh HFS]at H0;clear HFS;generalize hA9:W.heap.size=A at H0|-;go_wp2_with fail
 go_loopw [36] (fun p wr=>∃(i:Nat)(va' vb':Value),i<=n/\p=.int .i64 i/\MW base B ((L.take i).foldl fQ m) wr va' vb'/\FW B va vb va' vb' W1 wr) (fun p _=>n-(intOf p).toNat)
 case atStart=>exact⟨0,va,vb,Nat.zero_le _,rfl,⟨ca,cb,H0.out.1⟩,fun _=>Fw.refl _ _ _ _ _⟩
 case round =>
  obtain⟨i,va',vb',hi,rfl,hM,hf⟩:=hrel;by_cases hlt:i<n
  .have d1:(i:Int)<(n:Int):=by omega
   have hiL:i<L.length:=by omega
   have HST:Hid ((L.take (i+1)).foldl fQ m=fQ ((L.take i).foldl fQ m) L[i]):=aa (by
    rw[<- List.take_append_getElem hiL,List.foldl_append];rfl)
   have hnw:=gQ (L.take i) m;have hli:(L.take i).length=i:=by rw[List.length_take];omega
   rw[hli]at hnw;have hn0:0<=((L.take i).foldl fQ m).now:=by omega
   have hn1:((L.take i).foldl fQ m).now<=1000000:=by omega
   have hA:=H0.out.1.keepT hf A _ _ (by decide) (by decide) H0.out.2.2.2;obtain⟨g,ex,hgc⟩ : ∃g,x=some ⟨g,0,none⟩/\wr.cell? ⟨g,i,none⟩=some (.int .i64 L[i]):=by
    rcases H0.out.2.1 with⟨ad,cp,e,e2⟩|⟨g,cp,cur,e,q1,_,q3⟩
    .rw [e2]at hn;simp at hn;omega
    .injection e with e _ _;refine⟨g,e,?_⟩;rw[cr (H0.out.1.keepT hf g _ _ (by decide) (by decide) q1),q3 i (by omega)];exact dB _ _ _ (List.getElem?_eq_getElem hiL)
   subst ex;generalize L[i]=e at*;have HFW:=aa hf;replace CW:=aa (CW e);generalize (L.take i).foldl fQ m=mi at*;have he:(e=0\/e=1\/e=2\/e=3\/e=4\/e=5\/e=6)\/bh 0 6 e=false:=by
    by_cases h:0<=e/\e<=6
    .left;omega
    .right;unfold bh;simp;omega
   clear hnw hli hlt;rcases he with(rfl|rfl|rfl|rfl|rfl|rfl|rfl)|hwi
   .have cx:wr.cell? (A,0)=some (.func (.func 40) #[(B,0)] #[]):=cv hA
    have CE:=aa (zg hM hn0 hn1);have hwi:bh 0 6 (0:Int)=true:=by decide
    rw[hwi]at CW;clear hM hf hA hn0 hn1;go_wp2_with (refine(uh CW wr).mono ?_;rintro e w1⟨rfl,rfl⟩)
    refine CE.out.mono ?_;rintro e W'⟨rfl,va2,vb2,hm2,hf2⟩;have HF2:=aa (zA hm2 hf2);clear hm2 hf2 CE;go_wp2_with fail
    go_roundw
    case rel=>exact⟨i+1,va2,vb2,by omega,by go_num,by rw[uh HST];exact HF2.out.1,HFW.out.trans HF2.out.2⟩
    case measure=>simp[intOf];omega
   .have cx:wr.cell? (A,1)=some (.func (.func 41) #[(B,30)] #[]):=cv hA
    have CE:=aa (zh hM hn0 hn1);have hwi:bh 0 6 (1:Int)=true:=by decide
    rw[hwi]at CW;clear hM hf hA hn0 hn1;go_wp2_with (refine(uh CW wr).mono ?_;rintro e w1⟨rfl,rfl⟩)
    refine CE.out.mono ?_;rintro e W'⟨rfl,va2,vb2,hm2,hf2⟩;have HF2:=aa (zA hm2 hf2);clear hm2 hf2 CE;go_wp2_with fail
    go_roundw
    case rel=>exact⟨i+1,va2,vb2,by omega,by go_num,by rw[uh HST];exact HF2.out.1,HFW.out.trans HF2.out.2⟩
    case measure=>simp[intOf];omega
   .have cx:wr.cell? (A,2)=some (.func (.func 42) #[(B,30)] #[]):=cv hA
    have CE:=aa (zi hM hn0 hn1);have hwi:bh 0 6 (2:Int)=true:=by decide
    rw[hwi]at CW;clear hM hf hA hn0 hn1;go_wp2_with (refine(uh CW wr).mono ?_;rintro e w1⟨rfl,rfl⟩)
    refine CE.out.mono ?_;rintro e W'⟨rfl,va2,vb2,hm2,hf2⟩;have HF2:=aa (zA hm2 hf2);clear hm2 hf2 CE;go_wp2_with fail
    go_roundw
    case rel=>exact⟨i+1,va2,vb2,by omega,by go_num,by rw[uh HST];exact HF2.out.1,HFW.out.trans HF2.out.2⟩
    case measure=>simp[intOf];omega
   .have cx:wr.cell? (A,3)=some (.func (.func 43) #[(B,0)] #[]):=cv hA
    have CE:=aa (zj hM hn0 hn1);have hwi:bh 0 6 (3:Int)=true:=by decide
    rw[hwi]at CW;clear hM hf hA hn0 hn1;go_wp2_with (refine(uh CW wr).mono ?_;rintro e w1⟨rfl,rfl⟩)
    refine CE.out.mono ?_;rintro e W'⟨rfl,va2,vb2,hm2,hf2⟩;have HF2:=aa (zA hm2 hf2);clear hm2 hf2 CE;go_wp2_with fail
    go_roundw
    case rel=>exact⟨i+1,va2,vb2,by omega,by go_num,by rw[uh HST];exact HF2.out.1,HFW.out.trans HF2.out.2⟩
    case measure=>simp[intOf];omega
   .have cx:wr.cell? (A,4)=some (.func (.func 41) #[(B,61)] #[]):=cv hA
    have CE:=aa (zk hM hn0 hn1);have hwi:bh 0 6 (4:Int)=true:=by decide
    rw[hwi]at CW;clear hM hf hA hn0 hn1;go_wp2_with (refine(uh CW wr).mono ?_;rintro e w1⟨rfl,rfl⟩)
    refine CE.out.mono ?_;rintro e W'⟨rfl,va2,vb2,hm2,hf2⟩;have HF2:=aa (zA hm2 hf2);clear hm2 hf2 CE;go_wp2_with fail
    go_roundw
    case rel=>exact⟨i+1,va2,vb2,by omega,by go_num,by rw[uh HST];exact HF2.out.1,HFW.out.trans HF2.out.2⟩
    case measure=>simp[intOf];omega
   .have cx:wr.cell? (A,5)=some (.func (.func 42) #[(B,61)] #[]):=cv hA
    have CE:=aa (zm hM hn0 hn1);have hwi:bh 0 6 (5:Int)=true:=by decide
    rw[hwi]at CW;clear hM hf hA hn0 hn1;go_wp2_with (refine(uh CW wr).mono ?_;rintro e w1⟨rfl,rfl⟩)
    refine CE.out.mono ?_;rintro e W'⟨rfl,va2,vb2,hm2,hf2⟩;have HF2:=aa (zA hm2 hf2);clear hm2 hf2 CE;go_wp2_with fail
    go_roundw
    case rel=>exact⟨i+1,va2,vb2,by omega,by go_num,by rw[uh HST];exact HF2.out.1,HFW.out.trans HF2.out.2⟩
    case measure=>simp[intOf];omega
   .have cx:wr.cell? (A,6)=some (.func (.func 44) #[(B,0)] #[]):=cv hA
    have CE:=aa (zn hM hn0 hn1);have hwi:bh 0 6 (6:Int)=true:=by decide
    rw[hwi]at CW;clear hM hf hA hn0 hn1;go_wp2_with (refine(uh CW wr).mono ?_;rintro e w1⟨rfl,rfl⟩)
    refine CE.out.mono ?_;rintro e W'⟨rfl,va2,vb2,hm2,hf2⟩;have HF2:=aa (zA hm2 hf2);clear hm2 hf2 CE;go_wp2_with fail
    go_roundw
    case rel=>exact⟨i+1,va2,vb2,by omega,by go_num,by rw[uh HST];exact HF2.out.1,HFW.out.trans HF2.out.2⟩
    case measure=>simp[intOf];omega
   .rw [hwi]at CW;have HMi:=aa hM;clear hM hf hA hn0 hn1;have hev:fQ mi e=mi:=by
     unfold bh at hwi;unfold fQ;simp at hwi;rw[if_neg (by omega),if_neg (by omega),if_neg (by omega),if_neg (by omega),if_neg (by omega),if_neg (by omega),if_neg (by omega)]
    rw[hev]at HST;clear hev hwi;go_wp2_with (refine(uh CW wr).mono ?_;rintro e w1⟨rfl,rfl⟩)
    go_roundw
    case rel=>exact⟨i+1,va',vb',by omega,by go_num,by rw[uh HST];exact uh HMi,uh HFW⟩
    case measure=>simp[intOf];omega
  .have e:i=n:=by omega
   subst e;have d1:¬((i:Int)<(i:Int)):=by omega
   rw[show L.take i=L by rw[<- hn];exact List.take_length]at hM;have HM:=aa (zA hM hf);clear hM hf;go_wp2_with fail
   refine zI ?_;rw[<- hA9]at H0;exact⟨rfl,va',vb',HM.out.1,(FW.of_below H0.out.2.2.1).trans HM.out.2⟩
theorem bT{P:Program}{ops:Array Oper}{S:World->Prop}{o:Oper}{a:Act}(hw:Region.wanted o (yielded ops a.tmps)=true)(t:TypeId)(parts:Array (Nat × Operand))(ho:o.op=.build t parts)(cells:Array Value)(h:P.built t (parts.map fun(i,x)=>(i,a.eval x)).toList=some cells):YieldsIf P ops S o (.agg cells) a :=
 .inl ⟨hw,fun w _=>by
  unfold execOp;simp only[ho,Sem.run_bind,run_build w t _ cells h,Result.andThen_ok,Sem.run_pure]⟩
theorem xX(h:MW base B m W va vb)(t:ByteArray)(now:Int):Calls prog 39 #[.pointer (some ⟨B,0,none⟩),.string t,.int .i64 now] W fun e W'=>e=.returned (.tuple #[])/\∃va' vb',MW base B ⟨oe m.a t now,m.b,m.now⟩ W' va' vb'/\FW B va vb va' vb' W W':=by
 obtain⟨ca,cb,hM⟩:=h;refine(xS hM.sa (by decide) hM.lo t now).mono ?_;rintro e W'⟨rfl,ca',v',hs,hf,hn⟩;exact⟨rfl,v',vb,⟨ca',cb,hM.setA hs hf hn⟩,fun _=>Fw.a _ hf⟩
theorem xY(h:MW base B m W va vb)(t:ByteArray)(now:Int):Calls prog 39 #[.pointer (some ⟨B,31,none⟩),.string t,.int .i64 now] W fun e W'=>e=.returned (.tuple #[])/\∃va' vb',MW base B ⟨m.a,oe m.b t now,m.now⟩ W' va' vb'/\FW B va vb va' vb' W W':=by
 obtain⟨ca,cb,hM⟩:=h;rw[<- hM.lenA];refine(xS hM.sb (by decide) hM.lo t now).mono ?_;rintro e W'⟨rfl,cb',v',hs,hf,hn⟩;exact⟨rfl,va,v',⟨ca,cb',hM.setB hs hf hn⟩,fun _=>Fw.b _ hf⟩
def mS(sa sb:Sd):Nat->Mw
 | 0=>⟨sa,sb,0⟩
 | 1=>⟨eo sa,sb,0⟩
 | _=>⟨eo sa,eo sb,0⟩
theorem vv{y:World}(tb:EvT W/\NxT W/\SpT W/\Et W)(hb:Below W.heap.size W y)(e1 e2:En):Mt W.heap.size (y.alloc (.cells ((aA e1 (.slice none 0 0) (.slice none 0 0)).toList++[Value.slice none 0 0]++(aA e2 (.slice none 0 0) (.slice none 0 0)).toList++[Value.slice none 0 0]++[Value.int .i64 0]).toArray 66)) y.heap.size ⟨⟨e1,[],[],[]⟩,⟨e2,[],[],[]⟩,0⟩ (aA e1 (.slice none 0 0) (.slice none 0 0)).toList (.slice none 0 0) (aA e2 (.slice none 0 0) (.slice none 0 0)).toList (.slice none 0 0):=by
 have hn:∀z:World,z.ownsRow W.heap.size 105 2 (.slice none 0 0) 0 (aj []):=fun z=>World.ownsRow_nil _ _ _ _
 have ha:Ap (.slice none 0 0) (.slice none 0 0):=fun g hg=>(by cases hg)
 have hx:∀(e:En)(g:Nat),¬kK (aA e (.slice none 0 0) (.slice none 0 0)).toList g:=fun e g h=>by
  rcases h with⟨v,e1,hv⟩|⟨v,e1,hv⟩
  .have e':some (Value.slice none 0 0)=some v:=e1;cases e';cases hv
  .have e':some (Value.slice none 0 0)=some v:=e1;cases e';cases hv
 exact⟨zF _ _,⟨none,none,0,0,rfl,hn _,hn _,ha,Nat.zero_le _,Nat.zero_le _⟩,⟨none,none,0,0,rfl,hn _,hn _,ha,Nat.zero_le _,Nat.zero_le _⟩,fun g hg=>absurd hg (hx _ g),Or.inl ⟨rfl,rfl⟩,Or.inl ⟨rfl,rfl⟩,Nat.zero_le _,Nat.zero_le _,fun g hg=>(by cases hg),⟨W,rfl,tb,hb.alloc hb.size _⟩,hb.size⟩
theorem xZ(m1 a1 g1:Int)(p1 c1 d1:Bool)(m2 a2 g2:Int)(p2 c2 d2:Bool)(W:World)(tb:EvT W/\NxT W/\SpT W/\Et W):Calls prog 23 #[.agg #[.int .i64 m1,.int .i64 a1,.int .i64 g1,.bool p1,.bool c1,.bool d1],.agg #[.int .i64 m2,.int .i64 a2,.int .i64 g2,.bool p2,.bool c2,.bool d2]] W fun e W'=>∃B va vb,e=.returned (.pointer (some ⟨B,0,none⟩))/\MW W.heap.size B ⟨eo (qU m1 a1 g1 p1 c1 d1),eo (qU m2 a2 g2 p2 c2 d2),0⟩ W' va vb/\Below W.heap.size W W':=by
 have C1:=aa fun W=>jC m1 a1 g1 p1 c1 d1 W
 have C2:=aa fun W=>jC m2 a2 g2 p2 c2 d2 W
 have HMT:=aa fun(y:World) (hb:Below W.heap.size W y)=>vv tb hb (eP m1 a1 g1 p1 c1 d1) (eP m2 a2 g2 p2 c2 d2)
 unfold qU;generalize eP m1 a1 g1 p1 c1 d1=e1 at*;generalize eP m2 a2 g2 p2 c2 d2=e2 at*;obtain⟨h1,h2,hb0,hz0⟩:((W.alloc (.cells #[.int .i64 m1,.int .i64 a1,.int .i64 g1,.bool p1,.bool c1,.bool d1] 24)).alloc (.cells #[.int .i64 m2,.int .i64 a2,.int .i64 g2,.bool p2,.bool c2,.bool d2] 24)).heap[W.heap.size]?=some (.cells #[.int .i64 m1,.int .i64 a1,.int .i64 g1,.bool p1,.bool c1,.bool d1] 24)/\((W.alloc (.cells #[.int .i64 m1,.int .i64 a1,.int .i64 g1,.bool p1,.bool c1,.bool d1] 24)).alloc (.cells #[.int .i64 m2,.int .i64 a2,.int .i64 g2,.bool p2,.bool c2,.bool d2] 24)).heap[W.heap.size+1]?=some (.cells #[.int .i64 m2,.int .i64 a2,.int .i64 g2,.bool p2,.bool c2,.bool d2] 24)/\Below W.heap.size W ((W.alloc (.cells #[.int .i64 m1,.int .i64 a1,.int .i64 g1,.bool p1,.bool c1,.bool d1] 24)).alloc (.cells #[.int .i64 m2,.int .i64 a2,.int .i64 g2,.bool p2,.bool c2,.bool d2] 24))/\True:=by
  refine⟨(zG _ _ _ (by simp)).trans (zF W _),?_,((zC _ _).alloc (zD _) _).alloc (by simp) _,trivial⟩;have:=zF (W.alloc (.cells #[.int .i64 m1,.int .i64 a1,.int .i64 g1,.bool p1,.bool c1,.bool d1] 24)) (.cells #[.int .i64 m2,.int .i64 a2,.int .i64 g2,.bool p2,.bool c2,.bool d2] 24)
  rwa [World.size_alloc]at this
 have H0:=aa (And.intro h1 (And.intro h2 hb0));clear h1 h2 hb0 hz0 tb;go_enter func23,ntmps23
 go_upto_region 1 with fail
 generalize (W.alloc (.cells #[.int .i64 m1,.int .i64 a1,.int .i64 g1,.bool p1,.bool c1,.bool d1] 24)).alloc (.cells #[.int .i64 m2,.int .i64 a2,.int .i64 g2,.bool p2,.bool c2,.bool d2] 24)=V at H0|-;have HR:Hid (∀y,Below V.heap.size V y->y.cell? ⟨W.heap.size,0,none⟩=some (.int .i64 m1)/\y.cell? ⟨W.heap.size,1,none⟩=some (.int .i64 a1)/\y.cell? ⟨W.heap.size,2,none⟩=some (.int .i64 g1)/\y.cell? ⟨W.heap.size,3,none⟩=some (.bool p1)/\y.cell? ⟨W.heap.size,4,none⟩=some (.bool c1)/\y.cell? ⟨W.heap.size,5,none⟩=some (.bool d1)/\y.cell? ⟨W.heap.size+1,0,none⟩=some (.int .i64 m2)/\y.cell? ⟨W.heap.size+1,1,none⟩=some (.int .i64 a2)/\y.cell? ⟨W.heap.size+1,2,none⟩=some (.int .i64 g2)/\y.cell? ⟨W.heap.size+1,3,none⟩=some (.bool p2)/\y.cell? ⟨W.heap.size+1,4,none⟩=some (.bool c2)/\y.cell? ⟨W.heap.size+1,5,none⟩=some (.bool d2)):=aa fun y hy=>by
  have k1:=(hy.block _ (ge.1 H0.out.1).1).trans H0.out.1;have k2:=(hy.block _ (ge.1 H0.out.2.1).1).trans H0.out.2.1;exact⟨by rw[cr k1];rfl,by rw[cr k1];rfl,by rw[cr k1];rfl,by rw[cr k1];rfl,by rw[cr k1];rfl,by rw[cr k1];rfl,by rw[cr k2];rfl,by rw[cr k2];rfl,by rw[cr k2];rfl,by rw[cr k2];rfl,by rw[cr k2];rfl,by rw[cr k2];rfl⟩
 have hS0:=uh HR V.drew (zC _ _).drew;refine wp_region_held_drew (S:=fun y=>y.cell? ⟨W.heap.size,0,none⟩=some (.int .i64 m1)/\y.cell? ⟨W.heap.size,1,none⟩=some (.int .i64 a1)/\y.cell? ⟨W.heap.size,2,none⟩=some (.int .i64 g1)/\y.cell? ⟨W.heap.size,3,none⟩=some (.bool p1)/\y.cell? ⟨W.heap.size,4,none⟩=some (.bool c1)/\y.cell? ⟨W.heap.size,5,none⟩=some (.bool d1)/\y.cell? ⟨W.heap.size+1,0,none⟩=some (.int .i64 m2)/\y.cell? ⟨W.heap.size+1,1,none⟩=some (.int .i64 a2)/\y.cell? ⟨W.heap.size+1,2,none⟩=some (.int .i64 g2)/\y.cell? ⟨W.heap.size+1,3,none⟩=some (.bool p2)/\y.cell? ⟨W.heap.size+1,4,none⟩=some (.bool c2)/\y.cell? ⟨W.heap.size+1,5,none⟩=some (.bool d2)) (by kernel_rfl) hS0 (fun hHeld=>?_);refine tt 0 3 ?_;refine r3 1 fun K hK=>?_
 go_simp;refine(uh C1 V.drew).mono ?_;rintro e y1⟨rfl,hy1⟩;have HY1:=aa ((zC V.heap.size V).drew.trans hy1);clear hy1;refine ro hK (uh HR y1 HY1.out) fun hS1=>?_
 clear hK K;refine t4 2 (.agg ((aA e1 (.slice none 0 0) (.slice none 0 0)).toList++[Value.slice none 0 0]).toArray) rfl (bT (by rfl) _ _ rfl _ (by kernel_rfl)) ?_;try simp only[Act.put,sA,sZ,sS,gA,gZ,gS]
 refine r3 4 fun K hK=>?_
 go_simp;refine(uh C2 y1).mono ?_;rintro e y2⟨rfl,hy2⟩;have HY2:=aa (HY1.out.trans (hy2.mono HY1.out.size));clear hy2;refine ro hK (uh HR y2 HY2.out) fun hS2=>?_
 clear hK K;refine t4 5 (.agg ((aA e2 (.slice none 0 0) (.slice none 0 0)).toList++[Value.slice none 0 0]).toArray) rfl (bT (by rfl) _ _ rfl _ (by kernel_rfl)) ?_;try simp only[Act.put,sA,sZ,sS,gA,gZ,gS]
 refine t4 6 (.agg ((aA e1 (.slice none 0 0) (.slice none 0 0)).toList++[Value.slice none 0 0]++(aA e2 (.slice none 0 0) (.slice none 0 0)).toList++[Value.slice none 0 0]++[Value.int .i64 0]).toArray) rfl (bT (by rfl) _ _ rfl _ (by kernel_rfl)) ?_;try simp only[Act.put,sA,sZ,sS,gA,gZ,gS]
 have HB2:=aa (H0.out.2.2.trans (HY2.out.mono H0.out.2.2.size));have HM:=aa (uh HMT y2 HB2.out);have hlA:((aA e1 (.slice none 0 0) (.slice none 0 0)).toList++[Value.slice none 0 0]++(aA e2 (.slice none 0 0) (.slice none 0 0)).toList++[Value.slice none 0 0]++[Value.int .i64 0]).toArray.size=63:=by kernel_rfl
 generalize ((aA e1 (.slice none 0 0) (.slice none 0 0)).toList++[Value.slice none 0 0]++(aA e2 (.slice none 0 0) (.slice none 0 0)).toList++[Value.slice none 0 0]++[Value.int .i64 0]).toArray=BIG at HM hlA|-;generalize ((aA e1 (.slice none 0 0) (.slice none 0 0)).toList++[Value.slice none 0 0]).toArray=A1 at*;generalize ((aA e2 (.slice none 0 0) (.slice none 0 0)).toList++[Value.slice none 0 0]).toArray=A2 at*;refine r3 7 fun K hK=>?_
 go_simp;refine ro hK (uh HR _ (HY2.out.trans (((zC y2.heap.size y2).alloc (zD _) _).mono HY2.out.size))) fun _=>?_
 clear hK K;refine t2 8 ?_;refine dn ?_ _;have HB3:Hid (Below W.heap.size W (y2.alloc (.cells BIG 66))):=aa (HB2.out.alloc HB2.out.size _);clear HB2 HR HMT H0 HY1 HY2 C1 C2 hS0 hS1 hS2 hHeld hlA;have HM2:Hid (MW W.heap.size y2.heap.size (mS ⟨e1,[],[],[]⟩ ⟨e2,[],[],[]⟩ 0) (y2.alloc (.cells BIG 66)) (.slice none 0 0) (.slice none 0 0)):=aa ⟨_,_,uh HM⟩;clear HM;generalize hsa:(⟨e1,[],[],[]⟩:Sd)=sa at*;generalize hsb:(⟨e2,[],[],[]⟩:Sd)=sb at*;generalize y2.alloc (.cells BIG 66)=z0 at*;generalize y2.heap.size=B at*;generalize hbase:W.heap.size=base at*;go_upto_region 2 with fail
 have HM3:Hid (MW base B (mS sa sb 0) (z0.alloc (.cells #[.pointer (some ⟨B,0,none⟩),.pointer (some ⟨B,31,none⟩)] 81)).drew (.slice none 0 0) (.slice none 0 0)/\Below base W (z0.alloc (.cells #[.pointer (some ⟨B,0,none⟩),.pointer (some ⟨B,31,none⟩)] 81)).drew/\(z0.alloc (.cells #[.pointer (some ⟨B,0,none⟩),.pointer (some ⟨B,31,none⟩)] 81)).drew.heap[z0.heap.size]?=some (.cells #[.pointer (some ⟨B,0,none⟩),.pointer (some ⟨B,31,none⟩)] 81)):=aa (by
  obtain⟨ca,cb,hM⟩:=uh HM2;have hb:Below z0.heap.size z0 (z0.alloc (.cells #[.pointer (some ⟨B,0,none⟩),.pointer (some ⟨B,31,none⟩)] 81)).drew:=((zC _ _).alloc (zD _) _).drew;exact⟨⟨ca,cb,hM.below hb⟩,HB3.out.trans (hb.mono (by have:=HB3.out.size;omega)),zF z0 _⟩)
 refine wp_region_held_drew (S:=fun _=>True) (by kernel_rfl) trivial (fun hHeld=>?_);refine tq 0 1 2 3 ?_;refine tt 4 5 ?_;refine t2 8 ?_;refine r3 6 fun K hK=>?_
 go_simp;refine ro hK trivial fun _=>?_
 clear hK K;refine t2 7 ?_;refine dn ?_ _;clear HM2 HB3;generalize (z0.alloc (.cells #[.pointer (some ⟨B,0,none⟩),.pointer (some ⟨B,31,none⟩)] 81)).drew=z1 at HM3|-;generalize z0.heap.size=N at HM3|-;go_wp2_with fail
 go_loopw [24] (fun p wr=>∃(i:Nat)(va' vb':Value),i<=2/\p=.int .i64 i/\MW base B (mS sa sb i) wr va' vb'/\FW B (.slice none 0 0) (.slice none 0 0) va' vb' z1 wr) (fun p _=>2-(intOf p).toNat)
 case atStart=>exact⟨0,_,_,by omega,rfl,HM3.out.1,fun _=>Fw.refl _ _ _ _ _⟩
 case round =>
  obtain⟨i,va',vb',hi,rfl,hM,hf⟩:=hrel;have hNN:wr.heap[N]?=some (.cells #[.pointer (some ⟨B,0,none⟩),.pointer (some ⟨B,31,none⟩)] 81):=by
   obtain⟨_,_,hM3⟩:=HM3.out.1;exact hM3.keepT hf N _ _ (by decide) (by decide) HM3.out.2.2
  have hi3:i=0\/i=1\/i=2:=by omega
  rcases hi3 with rfl|rfl|rfl
  ·
   have cx:wr.cell? ⟨N,0,none⟩=some (.pointer (some ⟨B,0,none⟩)):=by
    rw[cr hNN];rfl
   have cn:wr.cell? ⟨B,62,none⟩=some (.int .i64 0):=by
    obtain⟨_,_,hM⟩:=hM;exact hM.now.1
   have CD:=aa (xX hM ⟨#[79,112,101,110]⟩ 0);have HFW:=aa hf;clear hM hf hNN;go_wp2_with fail
   refine CD.out.mono ?_;rintro e W5⟨rfl,va5,vb5,hm5,hf5⟩;have cn5:W5.cell? ⟨B,62,none⟩=some (.int .i64 0):=by
    obtain⟨_,_,hM⟩:=hm5;exact hM.now.1
   have CD5:=aa (xX hm5 ⟨#[85,112]⟩ 0);have HF5:=aa (HFW.out.trans hf5);clear hm5 hf5 CD HFW cx cn;go_wp2_with fail
   refine CD5.out.mono ?_;rintro e W6⟨rfl,va6,vb6,hm6,hf6⟩;have HF6:=aa (And.intro hm6 (HF5.out.trans hf6));clear hm6 hf6 CD5 HF5 cn5;go_wp2_with fail
   go_roundw
   case rel=>exact⟨0+1,va6,vb6,by omega,by go_num,HF6.out.1,HF6.out.2⟩
   case measure=>simp[intOf]
  ·
   have cx:wr.cell? ⟨N,1,none⟩=some (.pointer (some ⟨B,31,none⟩)):=by
    rw[cr hNN];rfl
   have cn:wr.cell? ⟨B,62,none⟩=some (.int .i64 0):=by
    obtain⟨_,_,hM⟩:=hM;exact hM.now.1
   have CD:=aa (xY hM ⟨#[79,112,101,110]⟩ 0);have HFW:=aa hf;clear hM hf hNN;go_wp2_with fail
   refine CD.out.mono ?_;rintro e W5⟨rfl,va5,vb5,hm5,hf5⟩;have cn5:W5.cell? ⟨B,62,none⟩=some (.int .i64 0):=by
    obtain⟨_,_,hM⟩:=hm5;exact hM.now.1
   have CD5:=aa (xY hm5 ⟨#[85,112]⟩ 0);have HF5:=aa (HFW.out.trans hf5);clear hm5 hf5 CD HFW cx cn;go_wp2_with fail
   refine CD5.out.mono ?_;rintro e W6⟨rfl,va6,vb6,hm6,hf6⟩;have HF6:=aa (And.intro hm6 (HF5.out.trans hf6));clear hm6 hf6 CD5 HF5 cn5;go_wp2_with fail
   go_roundw
   case rel=>exact⟨1+1,va6,vb6,by omega,by go_num,HF6.out.1,HF6.out.2⟩
   case measure=>simp[intOf]
  .have HM9:=aa (And.intro hM hf);clear hM hf hNN;go_wp2_with fail
   go_ret
   refine⟨B,va',vb',rfl,?_,?_⟩
   .rw [hsa,hsb,hbase];exact HM9.out.1
   .rw [hbase];obtain⟨_,_,hM3⟩:=HM3.out.1;have f:=HM9.out.2 z1.heap.size;have hl:=hM3.lo.le;exact HM3.out.2.1.trans ⟨f.os,f.tape,f.output,f.size,fun k hk=>f.same k (by omega) (by have:=hM3.bB;omega) (by omega) (fun e=>by cases e) (fun e=>by cases e)⟩
end Go.Proofs.YtjdgiimfpkideaaGreatDoor
