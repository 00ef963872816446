/- FmK FmL FmM FmN FmO SrcEa -/
import Derived.Test.YtjdgiimfpkideaaGreatDoorS42
set_option maxHeartbeats 1000000
namespace Go.Proofs.YtjdgiimfpkideaaGreatDoor
open Go.RowKit Go.Proofs.Tryz
variable {now d d' d2 n t:Int} {c0 cx cy ca cb:Cf} {s x y b':Sd} {f:Fe} {r rp l:List Op.Pk} {ev:Nat} {p:Op.Pk} {w:Mw}
structure Gs(now:Int)(c0:Cf)(s:Sd):Prop where
 g:Ge now c0 s
 st:s.e.st=3\/s.e.st=6\/s.e.st=7\/s.e.st=8\/s.e.st=9
def jI(now:Int)(s:Sd):Fe:=⟨s.e.st.toNat,(s.e.du-now).toNat,0⟩
theorem Gs.re(h:Gs now c0 s):Re false now c0 s (jI now s):=by
 have hst:s.e.st=((jI now s).st:Nat):=by
  show s.e.st=((s.e.st.toNat:Nat):Int)
  have:=h.st
  omega
 have hs:Bp (jI now s).st:=by
  show Bp s.e.st.toNat
  unfold Bp;have:=h.st
  omega
 refine⟨h.g,hs,hst,fun hr=>?_,fun q=>by cases q⟩;have:=h.g.du (by rw[hst,q_ hs];exact hr)
 show s.e.du=now+((s.e.du-now).toNat:Nat)
 omega
theorem Re.gs{z:Bool}(h:Re z now c0 s f):Gs now c0 s:=by
 refine⟨h.g,?_⟩;have h1:=h.st;have h2:=h.ns;unfold Bp at h2;omega
structure Iv(cx cy:Cf)(x y:Sd)(d:Int):Prop where
 d0:0<=d/\d<=x.e.id
 rq:∀p∈x.ln,p.code=1->d<=p.id/\p.id<=x.e.id/\(∃c,LeC cx c/\p.data=co (Op.bytes (jD c)))/\(p.id=x.e.id->p.data=co (Op.bytes x.F1))
 so:x.ln.Pairwise fun p q=>p.code=1->q.code=1->p.id<=q.id
 rp:∀p∈y.ln,(p.code=2->p.id<=d/\(p.id=x.e.id->p.data=co (Op.bytes x.F1)/\y.F2=x.F1))/\(p.code=3\/p.code=4->p.id<=d/\∃L,cC L=true/\p.data=co (Op.bytes L)/\(p.code=3->AM cx L))
 st:x.e.st=7\/x.e.st=9->d=x.e.id/\y.F2=x.F1
 cd:∀p∈x.ln,Op.pok p=true/\(p.code=1\/p.code=2\/p.code=3\/p.code=4\/(p.code=6/\p.data=⟨#[]⟩))
theorem Iv.lost(h:Iv cx cy x y d)(h':Iv cy cx y x d')(hm:∀q∈r,q∈x.ln)(hs:r.Pairwise fun p q=>p.code=1->q.code=1->p.id<=q.id):Iv cx cy (dN x r) y d/\Iv cy cx y (dN x r) d' :=
 ⟨⟨h.d0,fun p hp=>h.rq p (hm p hp),hs,h.rp,h.st,fun p hp=>h.cd p (hm p hp)⟩,⟨h'.d0,h'.rq,h'.so,fun p hp=>h'.rp p (hm p hp),h'.st,h'.cd⟩⟩
theorem Iv.act{y':Sd}(h:Iv cx cy x y d)(h':Iv cy cx y x d')(hm:∀q∈r,q∈x.ln)(hs:r.Pairwise fun p q=>p.code=1->q.code=1->p.id<=q.id)(hd:Hd y y' f ev rp)(hid:0<=y.e.id/\y.e.id<255)(hc:∃c,LeC cy c/\y'.F1=jD c)(h2:d<=d2/\d2<=x.e.id)(hr2:∀q∈r,q.code=1->d2<=q.id)(hF:y'.F2=y.F2\/y'.F2=x.F1\/d2<x.e.id)(hrp:∀p∈rp,Op.pok p=true/\(p.code=2\/p.code=3\/p.code=4\/(p.code=6/\p.data=⟨#[]⟩))/\(p.code=2->p.id<=d2/\(p.id=x.e.id->p.data=co (Op.bytes x.F1)/\y'.F2=x.F1))/\(p.code=3\/p.code=4->p.id<=d2/\∃L,cC L=true/\p.data=co (Op.bytes L)/\(p.code=3->AM cx L)))(hst:y'.e.st=7\/y'.e.st=9->(ch f.st ev).2.2=false/\d'=y.e.id/\x.F2=y.F1):Iv cx cy (dN x r) y' d2/\Iv cy cx y' (dN x r) d'/\y'.e.id<=y.e.id+1:=by
 have hmem:∀p∈y'.ln,p∈y.ln\/((ch f.st ev).2.2=true/\p=mj y')\/p∈rp:=by
  intro p hp;rw[hd.ln]at hp;rcases List.mem_append.1 (List.mem_of_mem_take hp)with q|q
  .exact Or.inl q
  .rcases List.mem_append.1 q with q|q
   .split at q
    .next hs=>exact Or.inr (Or.inl ⟨hs,List.mem_singleton.1 q⟩)
    .simp at q
   .exact Or.inr (Or.inr q)
 have hidT:(ch f.st ev).2.2=true->y'.e.id=y.e.id+1:=by
  intro q;rw[hd.id,if_pos q];omega
 have hidF:(ch f.st ev).2.2=false->y'.e.id=y.e.id:=by
  intro q;rw[hd.id,if_neg (by rw[q];decide)]
 have hid1:y.e.id<=y'.e.id/\y'.e.id<=y.e.id+1:=by
  cases q:(ch f.st ev).2.2
  .rw [hidF q];omega
  .rw [hidT q];omega
 have hF':∀k:Int,k<=d2->k=x.e.id->y.F2=x.F1->y'.F2=x.F1:=by
  intro k hk he hy;rcases hF with q|q|q
  .rw [q];exact hy
  .exact q
  .omega
 refine⟨⟨⟨by have:=h.d0.1;omega,h2.2⟩,?_,hs,?_,?_,fun p hp=>h.cd p (hm p hp)⟩,⟨⟨h'.d0.1,by have:=h'.d0.2;omega⟩,?_,?_,?_,?_,?_⟩,hid1.2⟩
 .intro p hp hc1;have:=h.rq p (hm p hp) hc1
  exact⟨hr2 p hp hc1,this.2⟩
 .intro p hp;rcases hmem p hp with q|⟨_,q⟩|q
  .have:=h.rp p q
   refine⟨fun e=>?_,fun e=>?_⟩
   .obtain ⟨k1,k2⟩:=this.1 e;exact⟨by omega,fun e2=>⟨(k2 e2).1,hF' p.id (by omega) e2 (k2 e2).2⟩⟩
   .obtain ⟨k1,k2⟩:=this.2 e;exact⟨by omega,k2⟩
  .subst q;exact⟨fun e=>absurd (show(1:Int)=2 from e) (by decide),fun e=>by
    rcases e with e|e
    .exact absurd (show(1:Int)=3 from e) (by decide)
    .exact absurd (show(1:Int)=4 from e) (by decide)⟩
  .have:=hrp p q
   exact⟨this.2.2.1,this.2.2.2⟩
 .intro hx;obtain⟨k1,k2⟩:=h.st hx;have e:d2=x.e.id:=by omega
  exact⟨e,hF' d2 (Int.le_refl _) e k2⟩
 .intro p hp hc1;rcases hmem p hp with q|⟨q1,q2⟩|q
  .obtain ⟨k1,k2,k3,k4⟩:=h'.rq p q hc1;refine⟨k1,by omega,k3,fun e=>?_⟩;cases hsc:(ch f.st ev).2.2
   .rw [hd.f1 hsc];exact k4 (by rw[e];exact hidF hsc)
   .have:=hidT hsc
    omega
  .subst q2;obtain⟨c,hc2,hc3⟩:=hc;refine⟨?_,Int.le_refl _,⟨c,hc2,?_⟩,fun _=>rfl⟩
   .show d'<=y'.e.id
    have:=h'.d0.2
    omega
   .show co (Op.bytes y'.F1)=_
    rw[hc3]
  .have:=(hrp p q).2.1
   omega
 .rw [hd.ln];refine List.Pairwise.sublist (List.take_sublist _ _) (List.pairwise_append.2 ⟨h'.so,?_,?_⟩)
  .refine List.pairwise_append.2 ⟨?_,?_,?_⟩
   .split
    .exact List.pairwise_singleton _ _
    .exact List.Pairwise.nil
   .exact List.pairwise_iff_getElem.2 fun i j hi hj _ e=>by
     have:=(hrp rp[i] (List.getElem_mem hi)).2.1
     omega
   .intro a _ b hb _ e;have:=(hrp b hb).2.1
    omega
  .intro a ha b hb e1 e2;rcases List.mem_append.1 hb with q|q
   .split at q
    .next hs2 =>
     rw[List.mem_singleton.1 q];have h1:=(h'.rq a ha e1).2.1;have h3:=hidT hs2;show a.id<=y'.e.id
     omega
    .simp at q
   .have:=(hrp b q).2.1
    omega
 .intro p hp;have:=h'.rp p (hm p hp)
  refine⟨fun e=>?_,this.2⟩;obtain⟨k1,k2⟩:=this.1 e;refine⟨k1,fun e2=>?_⟩;cases hsc:(ch f.st ev).2.2
  .rw [hd.f1 hsc];exact k2 (by rw[e2];exact hidF hsc)
  .have h1:=hidT hsc;have h3:=h'.d0.2;omega
 .intro hy;obtain⟨k1,k2,k3⟩:=hst hy;rw[hidF k1,hd.f1 k1];exact⟨k2,k3⟩
 .intro p hp;rcases hmem p hp with q|⟨_,q⟩|q
  .exact h'.cd p q
  .subst q;obtain⟨c,hc2,hc3⟩:=hc;refine⟨?_,Or.inl rfl⟩;unfold mj;rw[hc3];exact vi (by decide) ⟨by omega,by omega⟩ (uc c)
  .have:=hrp p q
   exact⟨this.1,Or.inr this.2.1⟩
theorem Ek{L M:List Op.Opt}(h1:cC L=true)(h2:cC M=true)(h:co (Op.bytes L)=co (Op.bytes M)):L=M:=by
 have e1:=vy h1;have e2:=vy h2;rw[h,e2]at e1;injection e1 with e1 _;exact e1.symm
theorem pF(p:Op.Pk):p=⟨p.code,p.id,p.data⟩:=rfl
theorem AB(hn:0<=now/\now<=900000000)(hx:Gs now cx x)(hy:Gs now cy y)(h:Iv cx cy x y d)(h':Iv cy cx y x d')(hl:x.ln=p::r)(hid:y.e.id<255):Gs now cy (fk y p now)/\(fk y p now).e.id<=y.e.id+1/\∃d2,Iv cx cy (dN x r) (fk y p now) d2/\Iv cy cx (fk y p now) (dN x r) d':=by
 have hn':0<=now/\now<=1000000000:=⟨hn.1,by omega⟩;have R:=hy.re;have hpx:=jW hx.g.ok;have hpy:=jW hy.g.ok;have hmem:∀q∈r,q∈x.ln:=fun q hq=>by rw[hl];exact List.mem_cons_of_mem _ hq
 have hso:=h.so;rw[hl]at hso;obtain⟨hso1,hso2⟩:=List.pairwise_cons.1 hso;have hpm:p∈x.ln:=by rw[hl];exact List.mem_cons_self ..
 have hcd:=h.cd p hpm;have hrp:=h'.rp p hpm;have hidy:0<=y.e.id/\y.e.id<255:=⟨hpy.2.2.2.1.1,hid⟩;have htab:=GV R.ns
 have same:fk y p now=y->Gs now cy (fk y p now)/\(fk y p now).e.id<=y.e.id+1/\∃d2,Iv cx cy (dN x r) (fk y p now) d2/\Iv cy cx (fk y p now) (dN x r) d':=by
  intro e;rw[e];exact⟨hy,by omega,d,(h.lost h' hmem hso2).1,(h.lost h' hmem hso2).2⟩
 have hrd:∀q∈r,q.code=1->d<=q.id:=fun q hq e=>(h.rq q (hmem q hq) e).1
 rcases hcd.2 with hc|hc|hc|hc|hc
 ·
  obtain⟨k1,k2,⟨c,hc2,hc3⟩,k4⟩:=h.rq p hpm hc;have hpe:p=⟨1,p.id,co (Op.bytes (jD c))⟩:=by rw[pF p,hc,hc3]
  have hpi:0<=p.id/\p.id<=255:=⟨by have:=h.d0.1;omega,by have:=hpx.2.2.2.1.2;omega⟩;have hcx:p.id=x.e.id->jD c=x.F1:=fun e=>Ek (uc c) hpx.2.2.2.2.2.2.2.1 (by rw[<- hc3];exact k4 e)
  have hst7:∀ev,(ev=6\/ev=7)->(fk y p now).e.st=((io (jI now y) ev).st:Nat)->(fk y p now).e.st=7\/(fk y p now).e.st=9->(ch (jI now y).st ev).2.2=false/\d'=y.e.id/\x.F2=y.F1:=by
   intro ev hev e hq;have hq':(ch (jI now y).st ev).1=7\/(ch (jI now y).st ev).1=9:=by
    rw[e]at hq;change (((ch (jI now y).st ev).1:Nat):Int)=7\/(((ch (jI now y).st ev).1:Nat):Int)=9 at hq
    omega
   have hk:(jI now y).st=7/\(ch (jI now y).st ev).2.2=false:=by
    rcases hev with rfl|rfl
    .exact htab.1 hq'
    .exact htab.2 hq'
   refine⟨hk.2,h'.st (Or.inl ?_)⟩;rw[R.st,hk.1];rfl
  by_cases ha:mh (mv cy) (gr y.e).g y.e.fl c=2
  .obtain ⟨e1,e2,e3,e4,e5⟩:=Ad R hn' hpi hc2.ok ha;rw[<- hpe]at e1 e2 e3 e4 e5;obtain⟨a1,a2,a3⟩:=h.act h' hmem hso2 e2 hidy e1.g.f1 ⟨k1,k2⟩ (fun q hq e=>hso1 q hq hc e) (by
    by_cases e:p.id=x.e.id
    .exact Or.inr (Or.inl (e3.trans (hcx e)))
    .exact Or.inr (Or.inr (by omega))) (fun q hq=>by
     rw[List.mem_singleton.1 hq];refine⟨vi (by decide) hpi (uc c),Or.inl rfl,fun _=>⟨Int.le_refl _,fun e=>⟨?_,e3.trans (hcx e)⟩⟩,fun e=>?_⟩
     .show co (Op.bytes (jD c))=_
      rw[hcx e]
     .rcases e with e|e
      .exact absurd (show(2:Int)=3 from e) (by decide)
      .exact absurd (show(2:Int)=4 from e) (by decide)) (hst7 6 (Or.inl rfl) e1.st)
   exact⟨e1.gs,a3,p.id,a1,a2⟩
  .obtain ⟨L,hL,hL3,hL4,hLn,e1,e2,e3,e4,e5⟩:=Ae R hn' hpi hc2.ok ha;rw[<- hpe]at e1 e2 e3 e4 e5;have hans:=Aq (mv cy) (gr y.e).g y.e.fl c;obtain⟨a1,a2,a3⟩:=h.act h' hmem hso2 e2 hidy e1.g.f1 ⟨k1,k2⟩ (fun q hq e=>hso1 q hq hc e) (Or.inl e3) (fun q hq=>by
     rw[List.mem_singleton.1 hq];refine⟨vi (by omega) hpi hL,?_,fun e=>absurd e ha,fun _=>⟨Int.le_refl _,L,hL,rfl,fun e=>hLn cx hc2 e⟩⟩;show mh (mv cy) (gr y.e).g y.e.fl c=2\/mh (mv cy) (gr y.e).g y.e.fl c=3\/mh (mv cy) (gr y.e).g y.e.fl c=4\/_
     rcases hans with q|q|q
     .exact absurd q ha
     .exact Or.inr (Or.inl q)
     .exact Or.inr (Or.inr (Or.inl q))) (hst7 7 (Or.inr rfl) e1.st)
   exact⟨e1.gs,a3,p.id,a1,a2⟩
 ·
  obtain⟨k1,k2⟩:=hrp.1 hc;by_cases hi:p.id=y.e.id
  .obtain ⟨k3,k4⟩:=k2 hi;have hpe:p=⟨2,y.e.id,co (Op.bytes y.F1)⟩:=by rw[pF p,hc,hi,k3]
   obtain⟨e1,e2,e3,e4,e5⟩:=Af R hn';rw[<- hpe]at e1 e2 e3 e4 e5;obtain⟨a1,a2,a3⟩:=h.act h' hmem hso2 e2 hidy e1.g.f1 ⟨Int.le_refl _,h.d0.2⟩ hrd (Or.inl e3) (fun q hq=>by
     split at hq
     .rw [List.mem_singleton.1 hq];refine⟨decide_eq_true ⟨show(0:Int)<=6 by decide,show(6:Int)<=255 by decide,hpy.2.2.2.1.1,hpy.2.2.2.1.2,show(0:Nat)<=250 by decide⟩,Or.inr (Or.inr (Or.inr ⟨rfl,rfl⟩)),fun e=>absurd (show(6:Int)=2 from e) (by decide),fun e=>?_⟩;rcases e with e|e
      .exact absurd (show(6:Int)=3 from e) (by decide)
      .exact absurd (show(6:Int)=4 from e) (by decide)
     .simp at hq) (fun hq=>by
     have hq':(ch (jI now y).st 8).1=7\/(ch (jI now y).st 8).1=9:=by
      rw[e1.st]at hq;change (((ch (jI now y).st 8).1:Nat):Int)=7\/(((ch (jI now y).st 8).1:Nat):Int)=9 at hq
      omega
     refine⟨?_,?_,k4⟩
     .rcases R.ns with q|q|q|q|q<;>rw[q]at hq'|-<;>first|rfl|exact absurd hq' (by decide)
     .have:=h'.d0.2
      omega)
   exact⟨e1.gs,a3,d,a1,a2⟩
  .exact same (ox R hn' hcd.1 (Or.inl hc) hi)
 .obtain ⟨k1,L,hL,k3,k4⟩:=hrp.2 (Or.inl hc);by_cases hi:p.id=y.e.id
  .have hpe:p=⟨3,y.e.id,co (Op.bytes L)⟩:=by rw[pF p,hc,hi,k3]
   obtain⟨e1,e2,e3,e4,e5⟩:=uy R hn' (cd:=3) (Or.inl rfl) hL (fun _=>k4 hc);rw[<- hpe]at e1 e2 e3 e4 e5;obtain⟨a1,a2,a3⟩:=h.act h' hmem hso2 e2 hidy e1.g.f1 ⟨Int.le_refl _,h.d0.2⟩ hrd (Or.inl e3) (fun q hq=>by
     split at hq
     .rw [List.mem_singleton.1 hq];refine⟨decide_eq_true ⟨show(0:Int)<=6 by decide,show(6:Int)<=255 by decide,hpy.2.2.2.1.1,hpy.2.2.2.1.2,show(0:Nat)<=250 by decide⟩,Or.inr (Or.inr (Or.inr ⟨rfl,rfl⟩)),fun e=>absurd (show(6:Int)=2 from e) (by decide),fun e=>?_⟩;rcases e with e|e
      .exact absurd (show(6:Int)=3 from e) (by decide)
      .exact absurd (show(6:Int)=4 from e) (by decide)
     .simp at hq) (fun hq=>by
     exfalso;have hq':(ch (jI now y).st 9).1=7\/(ch (jI now y).st 9).1=9:=by
      rw[e1.st]at hq;change (((ch (jI now y).st 9).1:Nat):Int)=7\/(((ch (jI now y).st 9).1:Nat):Int)=9 at hq
      omega
     rcases R.ns with q|q|q|q|q<;>rw[q]at hq'<;>exact absurd hq' (by decide))
   exact⟨e1.gs,a3,d,a1,a2⟩
  .exact same (ox R hn' hcd.1 (Or.inr (Or.inl hc)) hi)
 .obtain ⟨k1,L,hL,k3,k4⟩:=hrp.2 (Or.inr hc);by_cases hi:p.id=y.e.id
  .have hpe:p=⟨4,y.e.id,co (Op.bytes L)⟩:=by rw[pF p,hc,hi,k3]
   obtain⟨e1,e2,e3,e4,e5⟩:=uy R hn' (cd:=4) (Or.inr rfl) hL (fun q=>absurd q (by decide));rw[<- hpe]at e1 e2 e3 e4 e5;obtain⟨a1,a2,a3⟩:=h.act h' hmem hso2 e2 hidy e1.g.f1 ⟨Int.le_refl _,h.d0.2⟩ hrd (Or.inl e3) (fun q hq=>by
     split at hq
     .rw [List.mem_singleton.1 hq];refine⟨decide_eq_true ⟨show(0:Int)<=6 by decide,show(6:Int)<=255 by decide,hpy.2.2.2.1.1,hpy.2.2.2.1.2,show(0:Nat)<=250 by decide⟩,Or.inr (Or.inr (Or.inr ⟨rfl,rfl⟩)),fun e=>absurd (show(6:Int)=2 from e) (by decide),fun e=>?_⟩;rcases e with e|e
      .exact absurd (show(6:Int)=3 from e) (by decide)
      .exact absurd (show(6:Int)=4 from e) (by decide)
     .simp at hq) (fun hq=>by
     exfalso;have hq':(ch (jI now y).st 9).1=7\/(ch (jI now y).st 9).1=9:=by
      rw[e1.st]at hq;change (((ch (jI now y).st 9).1:Nat):Int)=7\/(((ch (jI now y).st 9).1:Nat):Int)=9 at hq
      omega
     rcases R.ns with q|q|q|q|q<;>rw[q]at hq'<;>exact absurd hq' (by decide))
   exact⟨e1.gs,a3,d,a1,a2⟩
  .exact same (ox R hn' hcd.1 (Or.inr (Or.inr hc)) hi)
 ·
  have hpi:0<=p.id/\p.id<=255:=by
   have:=hcd.1
   unfold Op.pok at this;have:=of_decide_eq_true this
   exact⟨this.2.2.1,this.2.2.2.1⟩
  have hpe:p=⟨6,p.id,⟨#[]⟩⟩:=by rw[pF p,hc.1,hc.2]
  obtain⟨e1,e2,e3,e4,e5⟩:=zO R hn' hpi;rw[<- hpe]at e1 e2 e3 e4 e5;obtain⟨a1,a2,a3⟩:=h.act h' hmem hso2 e2 hidy e1.g.f1 ⟨Int.le_refl _,h.d0.2⟩ hrd (Or.inl e3) (fun q hq=>by simp at hq) (fun hq=>by
    exfalso;have hq':(ch (jI now y).st 11).1=7\/(ch (jI now y).st 11).1=9:=by
     rw[e1.st]at hq;change (((ch (jI now y).st 11).1:Nat):Int)=7\/(((ch (jI now y).st 11).1:Nat):Int)=9 at hq
     omega
    rcases R.ns with q|q|q|q|q<;>rw[q]at hq'<;>exact absurd hq' (by decide))
  exact⟨e1.gs,a3,d,a1,a2⟩
theorem AD(hn:0<=now/\now+1<=900000000)(hy:Gs now cy y)(h:Iv cx cy x y d)(h':Iv cy cx y x d')(hid:y.e.id<255):Gs (now+1) cy (gd y (now+1))/\(gd y (now+1)).e.id<=y.e.id+1/\Iv cx cy x (gd y (now+1)) d/\Iv cy cx (gd y (now+1)) x d':=by
 have hn':0<=now/\now+1<=1000000000:=⟨hn.1,by omega⟩;have R:=hy.re;have hpy:=jW hy.g.ok;have hidy:0<=y.e.id/\y.e.id<255:=⟨hpy.2.2.2.1.1,hid⟩;have hx:dN x x.ln=x:=rfl;have hrd:∀q∈x.ln,q.code=1->d<=q.id:=fun q hq e=>(h.rq q hq e).1
 by_cases hr:oy (jI now y).st=true/\(jI now y).rem=1
 .obtain ⟨kp,kn⟩:=AR R hn' hr.1 hr.2;have h678:∀ev,(ev=4\/ev=5)->¬((ch (jI now y).st ev).1=7\/(ch (jI now y).st ev).1=9):=by
   intro ev hev hq;have hrun:=hr.1;rcases R.ns with q|q|q|q|q<;>rw[q]at hq hrun<;>rcases hev with rfl|rfl<;>first|exact absurd hq (by decide)|exact absurd hrun (by decide)
  have fin:∀ev,(ev=4\/ev=5)->(Re false (now+1) cy (gd y (now+1)) (io (jI now y) ev)/\Hd y (gd y (now+1)) (jI now y) ev []/\(gd y (now+1)).F2=y.F2/\(gd y (now+1)).e.fl=y.e.fl/\gr (gd y (now+1)).e=gr y.e) ->
    Gs (now+1) cy (gd y (now+1))/\(gd y (now+1)).e.id<=y.e.id+1/\Iv cx cy x (gd y (now+1)) d/\Iv cy cx (gd y (now+1)) x d':=by
   rintro ev hev⟨e1,e2,e3,e4,e5⟩;obtain⟨a1,a2,a3⟩:=h.act h' (fun q hq=>hq) h.so e2 hidy e1.g.f1 ⟨Int.le_refl _,h.d0.2⟩ hrd (Or.inl e3) (fun q hq=>by simp at hq) (fun hq=>by
    exfalso;refine h678 ev hev ?_;rw[e1.st]at hq;change (((ch (jI now y).st ev).1:Nat):Int)=7\/(((ch (jI now y).st ev).1:Nat):Int)=9 at hq
    omega)
   exact⟨e1.gs,a3,a1,a2⟩
  by_cases ht:0<y.e.tr
  .exact fin 4 (Or.inl rfl) (kp ht)
  .exact fin 5 (Or.inr rfl) (kn ht)
 .obtain ⟨e,k⟩:=Ay R hn' (fun q=>⟨fun q1=>hr ⟨q,q1⟩,fun q0=>by
   have h1:=R.rem q;have h2:=hy.g.du (by rw[R.st,q_ R.ns];exact q);rw[q0]at h1;simp at h1;omega⟩)
  rw[e];exact⟨k.gs,by omega,h,h'⟩
structure Iw(ca cb:Cf)(n:Int)(w:Mw):Prop where
 nw:0<=w.now/\w.now<=n
 ga:Gs w.now ca w.a
 gb:Gs w.now cb w.b
 iv:∃d d',Iv ca cb w.a w.b d/\Iv cb ca w.b w.a d'
 ia:w.a.e.id<=n
 ib:w.b.e.id<=n
 la:w.a.ln.length<=40
 lb:w.b.ln.length<=40
theorem vZ(s:Sd)(o:EO)(h:s.ln.length<=40):(be s o).ln.length<=40:=by
 unfold be;split
 .show ((s.ln++o.sn).take 40).length<=40
  rw[List.length_take];omega
 .exact h
theorem Gs.ln(h:Gs now c0 s)(l:List Op.Pk):Gs now c0 (dN s l) :=
 ⟨⟨h.g.ok,h.g.du,h.g.own,h.g.ask,h.g.f1,h.g.fa,h.g.f2⟩,h.st⟩
section
variable {ca cb:Cf} {n:Int} {w:Mw}
theorem GX(h:Iw ca cb n w)(hn:n<=250):Iw ca cb (n+1) (aI w):=by
 obtain⟨d,d',h1,h2⟩:=h.iv;unfold aI;split
 .exact ⟨⟨h.nw.1,by have:=h.nw.2;omega⟩,h.ga,h.gb,⟨d,d',h1,h2⟩,by have:=h.ia;omega,by have:=h.ib;omega,h.la,h.lb⟩
 .next p r hl =>
  obtain⟨k1,k2,d2,k3,k4⟩:=AB ⟨h.nw.1,by have:=h.nw.2;omega⟩ h.ga h.gb h1 h2 hl (by have:=h.ib;omega);refine⟨⟨h.nw.1,by have:=h.nw.2;show w.now<=n+1;omega⟩,h.ga.ln r,k1,⟨d2,d',k3,k4⟩,by have:=h.ia;show w.a.e.id<=n+1;omega,by have:=h.ib;show(fk w.b p w.now).e.id<=n+1;omega,?_,vZ _ _ h.lb⟩;have:=h.la
  rw[hl]at this;show r.length<=40
  simp at this;omega
theorem GY(h:Iw ca cb n w)(hn:n<=250):Iw ca cb (n+1) (aN w):=by
 obtain⟨d,d',h1,h2⟩:=h.iv;unfold aN;split
 .exact ⟨⟨h.nw.1,by have:=h.nw.2;omega⟩,h.ga,h.gb,⟨d,d',h1,h2⟩,by have:=h.ia;omega,by have:=h.ib;omega,h.la,h.lb⟩
 .next p r hl =>
  obtain⟨k1,k2,d2,k3,k4⟩:=AB ⟨h.nw.1,by have:=h.nw.2;omega⟩ h.gb h.ga h2 h1 hl (by have:=h.ia;omega);refine⟨⟨h.nw.1,by have:=h.nw.2;show w.now<=n+1;omega⟩,k1,h.gb.ln r,⟨d,d2,k4,k3⟩,by have:=h.ia;show(fk w.a p w.now).e.id<=n+1;omega,by have:=h.ib;show w.b.e.id<=n+1;omega,vZ _ _ h.la,?_⟩;have:=h.lb
  rw[hl]at this;show r.length<=40
  simp at this;omega
theorem GZ(h:Iw ca cb n w)(hn:n<=250):Iw ca cb (n+1) (z_ w):=by
 obtain⟨d,d',h1,h2⟩:=h.iv;have hnw:=h.nw;obtain⟨k1,k2,k3,k4⟩:=AD ⟨hnw.1,by omega⟩ h.ga h2 h1 (by have:=h.ia;omega);obtain⟨j1,j2,j3,j4⟩:=AD ⟨hnw.1,by omega⟩ h.gb k4 k3 (by have:=h.ib;omega);refine⟨⟨by show 0<=w.now+1;omega,by show w.now+1<=n+1;omega⟩,k1,j1,⟨d,d',j3,j4⟩,by have:=h.ia;show(gd w.a (w.now+1)).e.id<=n+1;omega,by have:=h.ib;show(gd w.b (w.now+1)).e.id<=n+1;omega,vZ _ _ h.la,vZ _ _ h.lb⟩
theorem BS(h:Iw ca cb n w)(hm:∀q∈r,q∈w.a.ln)(hs:r.Pairwise fun p q=>p.code=1->q.code=1->p.id<=q.id)(hl:r.length<=40):Iw ca cb (n+1) ⟨dN w.a r,w.b,w.now⟩:=by
 obtain⟨d,d',h1,h2⟩:=h.iv;obtain⟨k1,k2⟩:=h1.lost h2 hm hs;exact⟨⟨h.nw.1,by have:=h.nw.2;show w.now<=n+1;omega⟩,h.ga.ln r,h.gb,⟨d,d',k1,k2⟩,by have:=h.ia;show w.a.e.id<=n+1;omega,by have:=h.ib;show w.b.e.id<=n+1;omega,hl,h.lb⟩
theorem BT(h:Iw ca cb n w)(hm:∀q∈r,q∈w.b.ln)(hs:r.Pairwise fun p q=>p.code=1->q.code=1->p.id<=q.id)(hl:r.length<=40):Iw ca cb (n+1) ⟨w.a,dN w.b r,w.now⟩:=by
 obtain⟨d,d',h1,h2⟩:=h.iv;obtain⟨k1,k2⟩:=h2.lost h1 hm hs;exact⟨⟨h.nw.1,by have:=h.nw.2;show w.now<=n+1;omega⟩,h.ga,h.gb.ln r,⟨d,d',k2,k1⟩,by have:=h.ia;show w.a.e.id<=n+1;omega,by have:=h.ib;show w.b.e.id<=n+1;omega,h.la,hl⟩
theorem DL(hs:l.Pairwise fun p q=>p.code=1->q.code=1->p.id<=q.id)(hl:l.length<=40):(∀q∈ml l,q∈l)/\(ml l).Pairwise (fun p q=>p.code=1->q.code=1->p.id<=q.id)/\(ml l).length<=40:=by
 cases l with
 | nil=>exact⟨fun q hq=>hq,hs,hl⟩
 | cons p r =>
  rw[show ml (p::r)=if(p::r).length<40 then p::p::r else p::r from rfl];split
  .refine ⟨fun q hq=>?_,List.pairwise_cons.2 ⟨fun q hq=>?_,hs⟩,by simp at*;omega⟩
   .rcases List.mem_cons.1 hq with e|e
    .rw [e];exact List.mem_cons_self ..
    .exact e
   .rcases List.mem_cons.1 hq with e|e
    .rw [e];intro _ _;exact Int.le_refl _
    .exact (List.pairwise_cons.1 hs).1 q e
  .exact ⟨fun q hq=>hq,hs,hl⟩
theorem G0(h:Iw ca cb n w)(hn:n<=250)(i:Int):Iw ca cb (n+1) (fQ w i):=by
 obtain⟨d,d',h1,h2⟩:=h.iv;unfold fQ;split
 .exact GX h hn
 split
 .exact BS h (fun q hq=>List.mem_of_mem_tail hq) (h1.so.sublist (List.tail_sublist _)) (by have:=h.la;rw[List.length_tail];omega)
 split
 .obtain ⟨k1,k2,k3⟩:=DL h1.so h.la;exact BS h k1 k2 k3
 split
 .exact GY h hn
 split
 .exact BT h (fun q hq=>List.mem_of_mem_tail hq) (h2.so.sublist (List.tail_sublist _)) (by have:=h.lb;rw[List.length_tail];omega)
 split
 .obtain ⟨k1,k2,k3⟩:=DL h2.so h.lb;exact BT h k1 k2 k3
 split
 .exact GZ h hn
 .exact ⟨⟨h.nw.1,by have:=h.nw.2;omega⟩,h.ga,h.gb,⟨d,d',h1,h2⟩,by have:=h.ia;omega,by have:=h.ib;omega,h.la,h.lb⟩
theorem Bt:∀(L:List Int){w:Mw}{n:Int},Iw ca cb n w->n+L.length<=250->Iw ca cb (n+L.length) (L.foldl fQ w)
 | [],w,n,h,_=>by simpa using h
 | i::L,w,n,h,hn=>by
  have e:n+((i::L).length:Nat)=(n+1)+(L.length:Nat):=by simp;omega
  rw[e]at hn|-;exact Bt L (G0 h (by omega) i) hn
theorem v8:∀(k:Nat){w:Mw}{n:Int},Iw ca cb n w->n+k<=250->Iw ca cb (n+k) (au aI k w)
 | 0,w,n,h,_=>by simpa[au]using h
 | k+1,w,n,h,hn=>by
  have:=GX (v8 k h (by omega)) (by omega)
  have e:n+((k+1:Nat):Int)=n+(k:Nat)+1:=by omega
  rw[e];exact this
theorem Hp(w:Mw):(aI w).a.ln=w.a.ln.tail:=by
 unfold aI;split
 .next h=>rw[h];rfl
 .next h=>rw[h];rfl
theorem Hq(w:Mw):(aN w).b.ln=w.b.ln.tail:=by
 unfold aN;split
 .next h=>rw[h];rfl
 .next h=>rw[h];rfl
theorem AY(k:Nat)(w:Mw):(au aI k w).a.ln=w.a.ln.drop k:=by
 induction k with
 | zero=>rfl
 | succ k ih =>
  show(aI (au aI k w)).a.ln=_
  rw[Hp,ih,List.tail_drop]
theorem Cg(k:Nat)(w:Mw):(au aN k w).b.ln=w.b.ln.drop k:=by
 induction k with
 | zero=>rfl
 | succ k ih =>
  show(aN (au aN k w)).b.ln=_
  rw[Hq,ih,List.tail_drop]
end
theorem fsO:bO 0 (im 2)=(1,[bP],0):=by kernel_rfl
theorem fsU:bO 1 (im 0)=(6,[mO,mP],0):=by kernel_rfl
theorem DM{m a g:Int}{p c d:Bool}(h:aK m a g=true):∃e:En,eo (qU m a g p c d)=⟨e,dv e,[],[⟨1,1,co (Op.bytes (dv e))⟩]⟩/\e.st=6/\e.du=3/\e.id=1/\e.tr=4/\e.fl=0/\Dj e=⟨m.toNat,a.toNat,g.toNat,p,c,d⟩/\gr e=⟨m.toNat,a.toNat,g.toNat,p,c,d⟩/\dJ e (dv e) []=true:=by
 have hnew:eP m a g p c d=sE m a g p c d:=if_pos h;have hok0:dJ (sE m a g p c d) [] []=true:=by
  unfold dJ;show(aK m a g&&(aK m a g&&_))=true
  rw[h];rfl
 have h1:kC (sE m a g p c d) [] [] lV 0=bj (bY 0) ⟨sE m a g p c d,[],[],[],[]⟩ (im 2):=by
  unfold kC;rw[if_neg (by decide),hok0];rfl
 have e1:bj (bY 0) ⟨sE m a g p c d,[],[],[],[]⟩ (im 2)=⟨fm (bY 0) [bP] 1 (sE m a g p c d),[],[],[],[bP],0⟩:=by
  unfold bj;dsimp only;rw[show(sE m a g p c d).st=0 from rfl,fsO];kernel_rfl
 have hs1:oe (qU m a g p c d) lV 0=⟨fm (bY 0) [bP] 1 (sE m a g p c d),[],[],[]⟩:=by
  unfold oe qU;dsimp only;rw[hnew,h1,e1];rfl
 have hR1:=Bc (sE m a g p c d) [] [] lV 0;have hok1:dJ (fm (bY 0) [bP] 1 (sE m a g p c d)) [] []=true:=by
  have:=(hR1.yes (by rw[h1,e1])).1
  rw[h1,e1]at this;exact this
 generalize hE1:fm (bY 0) [bP] 1 (sE m a g p c d)=E1 at*;have st1:E1.st=1:=by rw[<- hE1];rfl
 have h2:kC E1 [] [] xL 0=bj (bY 0) ⟨cO E1,[],[],[],[]⟩ (im 0):=by
  unfold kC;rw[if_neg (by decide),hok1];rfl
 have e2:bj (bY 0) ⟨cO E1,[],[],[],[]⟩ (im 0)=⟨fm (bY 0) [mO,mP] 6 (kq 0 (fi {cO E1 with tr:=5})),dv (cO E1),[],[⟨1,(E1.id+1)%256,co (Op.bytes (dv (cO E1)))⟩],[],0⟩:=by
  unfold bj;dsimp only;rw[show(cO E1).st=1 from st1,fsU];kernel_rfl
 have hR2:=Bc E1 [] [] xL 0;have hok2:=(hR2.yes (by rw[h2,e2])).1;rw[h2,e2]at hok2;have hs2:eo (qU m a g p c d)=⟨fm (bY 0) [mO,mP] 6 (kq 0 (fi {cO E1 with tr:=5})),dv (cO E1),[],[⟨1,(E1.id+1)%256,co (Op.bytes (dv (cO E1)))⟩]⟩:=by
  unfold eo;rw[hs1];unfold oe;dsimp only;rw[h2,e2];rfl
 have hid:E1.id=0:=by rw[<- hE1];rfl
 refine⟨fm (bY 0) [mO,mP] 6 (kq 0 (fi {cO E1 with tr:=5})),?_,rfl,?_,?_,rfl,rfl,?_,?_,hok2⟩
 .rw [hs2,hid];rfl
 .show (if(decide ((0:Int)+3<0)||[mO,mP].any dH)=true then(0:Int)+3 else 0+3)=3
  rw[Dw];rfl
 .show (E1.id+1)%256=1
  rw[hid];rfl
 .rw [<- hE1];rfl
 .rw [<- hE1];rfl
def NoR(l:List Op.Pk):Prop:=∀p∈l,p.code≠1
def On(t:Int)(y:Sd)(d:Int):Prop:=NoR y.ln\/∃l1 l2,y.ln=l1++mj y::l2/\NoR l1/\NoR l2/\(y.e.st=6\/y.e.st=8)/\t<=y.e.du/\d<y.e.id
theorem NoR.app{m:List Op.Pk}(h:NoR l)(h':NoR m):NoR (l++m):=fun p hp=>by
 rcases List.mem_append.1 hp with q|q
 .exact h p q
 .exact h' p q
theorem NoR.take(h:NoR l)(k:Nat):NoR (l.take k):=fun p hp=>h p (List.mem_of_mem_take hp)
theorem AZ(l1 l2:List Op.Pk)(q:Op.Pk)(h:l1.length<40):(l1++q::l2).take 40=l1++q::l2.take (39-l1.length):=by
 rw[List.take_append,List.take_of_length_le (by omega),show 40-l1.length=(39-l1.length)+1 by omega,List.take_succ_cons]
section
variable {t now:Int} {c0:Cf} {y y':Sd} {d:Int} {f:Fe} {ev:Nat} {rp:List Op.Pk}
theorem On.act(h:On t y d)(R:Re false now c0 y f)(R':Re false now c0 y' (io f ev))(hd:Hd y y' f ev rp)(hl:y.ln.length<=40)(hrp:NoR rp)(hdi:d<=y.e.id)(hi:0<=y.e.id/\y.e.id<255)(ht:t<=now+3)(hs:(ch f.st ev).2.2=true->(ch f.st ev).1=6\/(ch f.st ev).1=8)(hc:f.st=6\/f.st=8->d<y.e.id->(ch f.st ev).2.2=false/\((ch f.st ev).1=6\/(ch f.st ev).1=8)/\(ch f.st ev).2.1=false):On t y' d:=by
 have hst:y'.e.st=((ch f.st ev).1:Nat):=R'.st;rcases h with h|⟨l1,l2,h1,h2,h3,h4,h5,h6⟩
 .cases hsc:(ch f.st ev).2.2
  .left
   rw[hd.ln,hsc];exact(h.app ((show NoR []from fun p hp=>by simp at hp).app hrp)).take 40
  .by_cases hlt:y.ln.length<40
   .right
    refine⟨y.ln,rp.take (39-y.ln.length),?_,h,hrp.take _,?_,?_,?_⟩
    .rw [hd.ln,hsc];show(y.ln++([mj y']++rp)).take 40=_
     exact AZ _ _ _ hlt
    .have:=hs hsc
     omega
    .have hrun:oy (io f ev).st=true:=by
      show oy (ch f.st ev).1=true
      rcases hs hsc with q|q<;>rw[q]<;>rfl
     have hr:=R'.rem hrun;have e:(io f ev).rem=3:=by
      unfold io;dsimp only;rw[if_pos (show oy (ch f.st ev).1=true from hrun),hsc,if_pos (by simp)]
     rw[e]at hr;omega
    .rw [hd.id,hsc,if_pos rfl];omega
   .left
    rw[hd.ln,List.take_append_of_le_length (by omega)];exact h.take 40
 .have hf:f.st=6\/f.st=8:=by
   have:=R.st
   omega
  obtain⟨k1,k2,k3⟩:=hc hf h6;have hid:y'.e.id=y.e.id:=by rw[hd.id,k1,if_neg (by decide)]
  have hreq:mj y'=mj y:=by unfold mj;rw[hid,hd.f1 k1]
  right
  rw[h1]at hl;refine⟨l1,(l2++rp).take (39-l1.length),?_,h2,(h3.app hrp).take _,?_,?_,by omega⟩
  .rw [hd.ln,k1,h1,hreq];show(l1++mj y::l2++([]++rp)).take 40=_
   rw[List.nil_append,List.append_assoc,List.cons_append];exact AZ _ _ _ (by simp at hl;omega)
  .omega
  .have hrun0:oy f.st=true:=by rcases hf with q|q<;>rw[q]<;>rfl
   have hrun:oy (io f ev).st=true:=by
    show oy (ch f.st ev).1=true
    rcases k2 with q|q<;>rw[q]<;>rfl
   have hr:=R'.rem hrun;have hr0:=R.rem hrun0;have e:(io f ev).rem=f.rem:=by
    unfold io;dsimp only;rw[if_pos (show oy (ch f.st ev).1=true from hrun),k1,k3,hrun0,if_neg (by decide)]
   rw[e]at hr;omega
end
theorem El{n:Nat}(hn:Bp n):(∀ev,(ev=6\/ev=7\/ev=8\/ev=9\/ev=11\/ev=4)->(ch n ev).2.2=true->(ch n ev).1=6\/(ch n ev).1=8) /\
  (∀ev,(ev=6\/ev=7\/ev=11)->n=6\/n=8->(ch n ev).2.2=false/\((ch n ev).1=6\/(ch n ev).1=8)/\(ch n ev).2.1=false):=by
 constructor
 .rintro ev (rfl|rfl|rfl|rfl|rfl|rfl)<;>rcases hn with rfl|rfl|rfl|rfl|rfl<;>decide
 .rintro ev (rfl|rfl|rfl) (rfl|rfl)<;>decide
theorem Bu(h:p.code≠1):NoR [p]:=fun q hq=>by rw[List.mem_singleton.1 hq];exact h
theorem On.hear(hn:0<=now/\now<=900000000)(hx:Gs now cx x)(hy:Gs now cy y)(h:Iv cx cy x y d)(h':Iv cy cx y x d')(hl:x.ln=p::r)(hid:y.e.id<255)(hly:y.ln.length<=40)(ht:t<=now+3)(ho:On t y d'):On t (fk y p now) d':=by
 have hn':0<=now/\now<=1000000000:=⟨hn.1,by omega⟩;have R:=hy.re;have hpx:=jW hx.g.ok;have hpy:=jW hy.g.ok;have hpm:p∈x.ln:=by rw[hl];exact List.mem_cons_self ..
 have hcd:=h.cd p hpm;have hrp:=h'.rp p hpm;have hidy:0<=y.e.id/\y.e.id<255:=⟨hpy.2.2.2.1.1,hid⟩;have tb:=El R.ns;have nT:NoR (if(jI now y).st=3 then[(⟨6,y.e.id,⟨#[]⟩⟩:Op.Pk)]else[]):=by
  split
  .exact Bu (show(6:Int)≠1 by decide)
  .intro p hp;simp at hp
 rcases hcd.2 with hc|hc|hc|hc|hc
 .obtain ⟨k1,k2,⟨c,hc2,hc3⟩,k4⟩:=h.rq p hpm hc;have hpe:p=⟨1,p.id,co (Op.bytes (jD c))⟩:=by rw[pF p,hc,hc3]
  have hpi:0<=p.id/\p.id<=255:=⟨by have:=h.d0.1;omega,by have:=hpx.2.2.2.1.2;omega⟩;by_cases ha:mh (mv cy) (gr y.e).g y.e.fl c=2
  .obtain ⟨e1,e2,e3,e4,e5⟩:=Ad R hn' hpi hc2.ok ha;rw[<- hpe]at e1 e2 e3 e4 e5;exact ho.act R e1 e2 hly (Bu (show(2:Int)≠1 by decide)) h'.d0.2 hidy ht (tb.1 6 (Or.inl rfl)) (fun q _=>tb.2 6 (Or.inl rfl) q)
  .obtain ⟨L,hL,hL3,hL4,hLn,e1,e2,e3,e4,e5⟩:=Ae R hn' hpi hc2.ok ha;rw[<- hpe]at e1 e2 e3 e4 e5;refine ho.act R e1 e2 hly (Bu ?_) h'.d0.2 hidy ht (tb.1 7 (Or.inr (Or.inl rfl))) (fun q _=>tb.2 7 (Or.inr (Or.inl rfl)) q);show mh (mv cy) (gr y.e).g y.e.fl c≠1
   have:=Aq (mv cy) (gr y.e).g y.e.fl c
   omega
 .obtain ⟨k1,k2⟩:=hrp.1 hc;by_cases hi:p.id=y.e.id
  .have hpe:p=⟨2,y.e.id,co (Op.bytes y.F1)⟩:=by rw[pF p,hc,hi,(k2 hi).1]
   obtain⟨e1,e2,e3,e4,e5⟩:=Af R hn';rw[<- hpe]at e1 e2 e3 e4 e5;exact ho.act R e1 e2 hly nT h'.d0.2 hidy ht (tb.1 8 (by decide)) (fun _ q=>by omega)
  .rw [ox R hn' hcd.1 (Or.inl hc) hi];exact ho
 .obtain ⟨k1,L,hL,k3,k4⟩:=hrp.2 (Or.inl hc);by_cases hi:p.id=y.e.id
  .have hpe:p=⟨3,y.e.id,co (Op.bytes L)⟩:=by rw[pF p,hc,hi,k3]
   obtain⟨e1,e2,e3,e4,e5⟩:=uy R hn' (cd:=3) (Or.inl rfl) hL (fun _=>k4 hc);rw[<- hpe]at e1 e2 e3 e4 e5;exact ho.act R e1 e2 hly nT h'.d0.2 hidy ht (tb.1 9 (by decide)) (fun _ q=>by omega)
  .rw [ox R hn' hcd.1 (Or.inr (Or.inl hc)) hi];exact ho
 .obtain ⟨k1,L,hL,k3,k4⟩:=hrp.2 (Or.inr hc);by_cases hi:p.id=y.e.id
  .have hpe:p=⟨4,y.e.id,co (Op.bytes L)⟩:=by rw[pF p,hc,hi,k3]
   obtain⟨e1,e2,e3,e4,e5⟩:=uy R hn' (cd:=4) (Or.inr rfl) hL (fun q=>absurd q (by decide));rw[<- hpe]at e1 e2 e3 e4 e5;exact ho.act R e1 e2 hly nT h'.d0.2 hidy ht (tb.1 9 (by decide)) (fun _ q=>by omega)
  .rw [ox R hn' hcd.1 (Or.inr (Or.inr hc)) hi];exact ho
 .have hpi:0<=p.id/\p.id<=255:=by
   have:=hcd.1
   unfold Op.pok at this;have:=of_decide_eq_true this
   exact⟨this.2.2.1,this.2.2.2.1⟩
  have hpe:p=⟨6,p.id,⟨#[]⟩⟩:=by rw[pF p,hc.1,hc.2]
  obtain⟨e1,e2,e3,e4,e5⟩:=zO R hn' hpi;rw[<- hpe]at e1 e2 e3 e4 e5;exact ho.act R e1 e2 hly (fun p hp=>by simp at hp) h'.d0.2 hidy ht (tb.1 11 (by decide)) (fun q _=>tb.2 11 (by decide) q)
theorem On.tick(hn:0<=now/\now+1<=900000000)(hy:Gs now cy y)(hdi:d<=y.e.id)(hid:y.e.id<255)(hly:y.ln.length<=40)(ho:On (now+3) y d):On (now+3) (gd y (now+1)) d/\(gd y (now+1)).ln.length<=y.ln.length+1/\∀q∈(gd y (now+1)).ln,q∈y.ln\/q.code=1:=by
 have hn':0<=now/\now+1<=1000000000:=⟨hn.1,by omega⟩;have R:=hy.re;have hpy:=jW hy.g.ok;have hidy:0<=y.e.id/\y.e.id<255:=⟨hpy.2.2.2.1.1,hid⟩;by_cases hr:oy (jI now y).st=true/\(jI now y).rem=1
 .have hno:NoR y.ln:=by
   rcases ho with h|⟨l1,l2,h1,h2,h3,h4,h5,h6⟩
   .exact h
   .have:=R.rem hr.1
    rw[hr.2]at this;omega
  obtain⟨kp,kn⟩:=AR R hn' hr.1 hr.2;have h678:(jI now y).st=6\/(jI now y).st=7\/(jI now y).st=8:=by
   have hrun:=hr.1;rcases R.ns with q|q|q|q|q
   .rw [q]at hrun;cases hrun
   .exact Or.inl q
   .exact Or.inr (Or.inl q)
   .exact Or.inr (Or.inr q)
   .rw [q]at hrun;cases hrun
  by_cases ht:0<y.e.tr
  .obtain ⟨e1,e2,e3,e4,e5⟩:=kp ht;have hsc:(ch (jI now y).st 4).2.2=true:=by rcases h678 with q|q|q<;>rw[q]<;>rfl
   have hns:(ch (jI now y).st 4).1=6\/(ch (jI now y).st 4).1=8:=by rcases h678 with q|q|q<;>rw[q]<;>decide
   have hst:(gd y (now+1)).e.st=((ch (jI now y).st 4).1:Nat):=e1.st;have hln:(gd y (now+1)).ln=(y.ln++[mj (gd y (now+1))]).take 40:=by
    rw[e2.ln,hsc];rfl
   refine⟨?_,?_,?_⟩
   .by_cases hlt:y.ln.length<40
    .right
     refine⟨y.ln,[],?_,hno,fun p hp=>by simp at hp,by omega,?_,?_⟩
     .rw [hln,AZ _ _ _ hlt];simp
     .have hrun:oy (io (jI now y) 4).st=true:=by
       show oy (ch (jI now y).st 4).1=true
       rcases hns with q|q<;>rw[q]<;>rfl
      have hr:=e1.rem hrun;have e:(io (jI now y) 4).rem=3:=by
       unfold io;dsimp only;rw[if_pos (show oy (ch (jI now y).st 4).1=true from hrun),hsc,if_pos (by simp)]
      rw[e]at hr;omega
     .rw [e2.id,hsc,if_pos rfl];omega
    .left
     rw[hln,List.take_append_of_le_length (by omega)];exact hno.take 40
   .rw [hln,List.length_take,List.length_append];show min 40 (y.ln.length+1)<=_
    omega
   .intro q hq;rw[hln]at hq;rcases List.mem_append.1 (List.mem_of_mem_take hq)with q1|q1
    .exact Or.inl q1
    .rw [List.mem_singleton.1 q1];exact Or.inr rfl
  .obtain ⟨e1,e2,e3,e4,e5⟩:=kn ht;have hsc:(ch (jI now y).st 5).2.2=false:=by rcases h678 with q|q|q<;>rw[q]<;>rfl
   have hln:(gd y (now+1)).ln=y.ln:=by
    rw[e2.ln,hsc];show(y.ln++([]++[])).take 40=_
    rw[List.append_nil,List.append_nil,List.take_of_length_le hly]
   rw[hln];refine⟨Or.inl ?_,by omega,fun q hq=>Or.inl hq⟩;rw[hln];exact hno
 .obtain ⟨e,k⟩:=Ay R hn' (fun q=>⟨fun q1=>hr ⟨q,q1⟩,fun q0=>by
   have h1:=R.rem q;have h2:=hy.g.du (by rw[R.st,q_ R.ns];exact q);rw[q0]at h1;simp at h1;omega⟩)
  rw[e];exact⟨ho,by omega,fun q hq=>Or.inl hq⟩
structure P2(ca cb:Cf)(n:Int)(w:Mw):Prop where
 iw:Iw ca cb n w
 on:∃d d',Iv ca cb w.a w.b d/\Iv cb ca w.b w.a d'/\On (w.now+2) w.a d/\On (w.now+2) w.b d'
 lb:w.b.ln.length<=1
 l1:∀q∈w.b.ln,q.code=1
theorem Hr(h:Iw ca cb n w)(hn:n<=250)(h1:Iv ca cb w.a w.b d)(h2:Iv cb ca w.b w.a d')(ho:On t w.a d)(ht:t<=w.now+3):∃d2,Iv ca cb (aN w).a (aN w).b d/\Iv cb ca (aN w).b (aN w).a d2/\On t (aN w).a d:=by
 unfold aN;split
 .exact ⟨d',h1,h2,ho⟩
 .next p r hl =>
  have hnw:=h.nw;obtain⟨k1,k2,d2,k3,k4⟩:=AB ⟨hnw.1,by omega⟩ h.gb h.ga h2 h1 hl (by have:=h.ia;omega);exact⟨d2,k4,k3,On.hear ⟨hnw.1,by omega⟩ h.gb h.ga h2 h1 hl (by have:=h.ia;omega) h.la ht ho⟩
theorem Fv(h:Iw ca cb n w)(hn:n<=100):P2 ca cb (n+81) (cT w):=by
 have h1:=v8 w.a.ln.length h (by have:=h.la;omega);have e1:(au aI w.a.ln.length w).a.ln=[]:=by rw[AY];simp
 have e0:cT w=z_ (au aN (au aI w.a.ln.length w).b.ln.length (au aI w.a.ln.length w)):=rfl;rw[e0];have hla:=h.la;generalize au aI w.a.ln.length w=u at h1 e1;have h1:Iw ca cb (n+40) u:=⟨⟨h1.nw.1,by have:=h1.nw.2;omega⟩,h1.ga,h1.gb,h1.iv,by have:=h1.ia;omega,by have:=h1.ib;omega,h1.la,h1.lb⟩
 have key:∀k:Nat,k<=40->Iw ca cb (n+40+k) (au aN k u)/\(au aN k u).now=u.now/\∃d d',Iv ca cb (au aN k u).a (au aN k u).b d/\Iv cb ca (au aN k u).b (au aN k u).a d'/\On (u.now+3) (au aN k u).a d:=by
  intro k;induction k with
  | zero =>
   intro _;obtain⟨d,d',i1,i2⟩:=h1.iv;refine⟨by simpa[au]using h1,rfl,d,d',i1,i2,Or.inl ?_⟩;show NoR u.a.ln
   rw[e1];intro p hp;simp at hp
  | succ k ih =>
   intro hk;obtain⟨w1,nw,d,d',i1,i2,o1⟩:=ih (by omega);obtain⟨d2,j1,j2,j3⟩:=Hr w1 (by omega) i1 i2 o1 (by omega);have e:n+40+((k+1:Nat):Int)=n+40+(k:Nat)+1:=by omega
   rw[e];exact⟨GY w1 (by omega),(Az _).trans nw,d,d2,j1,j2,j3⟩
 have hlb:=h1.lb;obtain⟨w1,nw,d,d',i1,i2,o1⟩:=key u.b.ln.length hlb;have e2:(au aN u.b.ln.length u).b.ln=[]:=by rw[Cg];simp
 generalize au aN u.b.ln.length u=v at w1 nw i1 i2 o1 e2;have w2:=GZ w1 (by omega);have hnv:=w1.nw;rw[<- nw]at o1;obtain⟨k1,k2,k3,k4⟩:=AD ⟨hnv.1,by omega⟩ w1.ga i2 i1 (by have:=w1.ia;omega);obtain⟨j1,j2,j3,j4⟩:=AD ⟨hnv.1,by omega⟩ w1.gb k4 k3 (by have:=w1.ib;omega);have oa:=On.tick ⟨hnv.1,by omega⟩ w1.ga i1.d0.2 (by have:=w1.ia;omega) w1.la o1;have ob:=On.tick ⟨hnv.1,by omega⟩ w1.gb i2.d0.2 (by have:=w1.ib;omega) w1.lb (Or.inl (by rw[e2];intro p hp;simp at hp));refine⟨⟨⟨w2.nw.1,by have:=w2.nw.2;omega⟩,w2.ga,w2.gb,w2.iv,by have:=w2.ia;omega,by have:=w2.ib;omega,w2.la,w2.lb⟩,⟨d,d',j3,j4,?_,?_⟩,?_,?_⟩
 .show On (v.now+1+2) (gd v.a (v.now+1)) d
  rw[show v.now+1+2=v.now+3 by omega];exact oa.1
 .show On (v.now+1+2) (gd v.b (v.now+1)) d'
  rw[show v.now+1+2=v.now+3 by omega];exact ob.1
 .have:=ob.2.1
  rw[e2]at this;exact this
 .intro q hq;rcases ob.2.2 q hq with q1|q1
  .rw [e2]at q1;cases q1
  .exact q1
structure Bs where
 f:Fe
 own:List Fp
 u:Bool
 mt:Bool
deriving DecidableEq
def B0:List Bs:=[⟨⟨3,0,0⟩,[],false,false⟩,⟨⟨3,0,0⟩,[],false,true⟩,⟨⟨3,0,0⟩,[],true,false⟩,⟨⟨3,0,0⟩,[],true,true⟩,⟨⟨3,0,0⟩,[.T],false,true⟩,⟨⟨3,0,0⟩,[.T],true,true⟩,⟨⟨6,1,0⟩,[],false,false⟩,⟨⟨6,1,0⟩,[],false,true⟩,⟨⟨6,1,0⟩,[],true,false⟩,⟨⟨6,1,0⟩,[],true,true⟩,⟨⟨6,1,0⟩,[.N],false,false⟩,⟨⟨6,1,0⟩,[.N],false,true⟩,⟨⟨6,2,0⟩,[],false,false⟩,⟨⟨6,2,0⟩,[],false,true⟩,⟨⟨6,2,0⟩,[],true,false⟩,⟨⟨6,2,0⟩,[],true,true⟩,⟨⟨6,2,0⟩,[.N],false,false⟩,⟨⟨6,2,0⟩,[.N],false,true⟩,⟨⟨6,2,0⟩,[.R],false,false⟩,⟨⟨6,2,0⟩,[.R],true,false⟩,⟨⟨6,2,0⟩,[.R,.N],false,false⟩,⟨⟨6,3,0⟩,[],false,false⟩,⟨⟨6,3,0⟩,[],false,true⟩,⟨⟨6,3,0⟩,[],true,false⟩,⟨⟨6,3,0⟩,[],true,true⟩,⟨⟨6,3,0⟩,[.K],false,false⟩,⟨⟨6,3,0⟩,[.K,.R],false,false⟩,⟨⟨6,3,0⟩,[.N],false,false⟩,⟨⟨6,3,0⟩,[.N],false,true⟩,⟨⟨6,3,0⟩,[.N,.R],false,false⟩,⟨⟨6,3,0⟩,[.R],false,false⟩,⟨⟨6,3,0⟩,[.R],true,false⟩,⟨⟨6,3,0⟩,[.R,.N],false,false⟩,⟨⟨6,3,0⟩,[.T],false,false⟩,⟨⟨6,3,0⟩,[.T,.R],false,false⟩,⟨⟨6,3,0⟩,[.T,.R,.N],false,false⟩,⟨⟨7,1,0⟩,[],false,false⟩,⟨⟨7,1,0⟩,[],false,true⟩,⟨⟨7,1,0⟩,[],true,false⟩,⟨⟨7,1,0⟩,[],true,true⟩,⟨⟨7,1,0⟩,[.N],false,false⟩,⟨⟨7,1,0⟩,[.N],false,true⟩,⟨⟨7,2,0⟩,[],false,false⟩,⟨⟨7,2,0⟩,[],false,true⟩,⟨⟨7,2,0⟩,[],true,false⟩,⟨⟨7,2,0⟩,[],true,true⟩,⟨⟨7,2,0⟩,[.N],false,false⟩,⟨⟨7,2,0⟩,[.N],false,true⟩,⟨⟨7,3,0⟩,[],false,false⟩,⟨⟨7,3,0⟩,[],false,true⟩,⟨⟨7,3,0⟩,[],true,false⟩,⟨⟨7,3,0⟩,[],true,true⟩,⟨⟨7,3,0⟩,[.N],false,false⟩,⟨⟨7,3,0⟩,[.N],false,true⟩,⟨⟨8,1,0⟩,[],false,false⟩,⟨⟨8,1,0⟩,[],false,true⟩,⟨⟨8,1,0⟩,[],true,false⟩,⟨⟨8,1,0⟩,[],true,true⟩,⟨⟨8,1,0⟩,[.K],false,false⟩,⟨⟨8,1,0⟩,[.K],false,true⟩,⟨⟨8,2,0⟩,[],false,false⟩,⟨⟨8,2,0⟩,[],false,true⟩,⟨⟨8,2,0⟩,[],true,false⟩,⟨⟨8,2,0⟩,[],true,true⟩,⟨⟨8,2,0⟩,[.K],false,false⟩,⟨⟨8,2,0⟩,[.K],false,true⟩,⟨⟨8,2,0⟩,[.R],false,false⟩,⟨⟨8,2,0⟩,[.R],true,false⟩,⟨⟨8,2,0⟩,[.R,.K],false,false⟩,⟨⟨8,3,0⟩,[],false,false⟩,⟨⟨8,3,0⟩,[],false,true⟩,⟨⟨8,3,0⟩,[],true,false⟩,⟨⟨8,3,0⟩,[],true,true⟩,⟨⟨8,3,0⟩,[.K],false,false⟩,⟨⟨8,3,0⟩,[.K],false,true⟩,⟨⟨8,3,0⟩,[.K,.R],false,false⟩,⟨⟨8,3,0⟩,[.R],false,false⟩,⟨⟨8,3,0⟩,[.R],true,false⟩,⟨⟨8,3,0⟩,[.R,.K],false,false⟩,⟨⟨8,3,0⟩,[.T],false,false⟩,⟨⟨8,3,0⟩,[.T,.R],false,false⟩,⟨⟨8,3,0⟩,[.T,.R,.K],false,false⟩,⟨⟨9,0,0⟩,[],false,false⟩,⟨⟨9,0,0⟩,[],false,true⟩,⟨⟨9,0,0⟩,[],true,false⟩,⟨⟨9,0,0⟩,[],true,true⟩,⟨⟨9,0,0⟩,[.K],false,false⟩,⟨⟨9,0,0⟩,[.K],false,true⟩]
def vj(l:List Fp):List (List Fp):=(List.range (l.length+1)).map fun k=>l.take k
def Ch(own:List Fp):List Fp:=if own=[]then[.T]else own
def Fx(s:Bs):List Bs :=
 ((vj (kU s.f 11)).map fun o=>⟨lh (io s.f 11),s.own++o,s.u,s.mt && !(ch s.f.st 11).2.2⟩) ++
 ((if s.mt=true then(vj (kU s.f 8)).flatMap fun o=>[⟨lh (io s.f 8),s.own++o,s.u,s.mt && !(ch s.f.st 8).2.2⟩,⟨lh (io s.f 8),(if s.f.st=3 then Ch s.own else s.own++o),s.u,s.mt && !(ch s.f.st 8).2.2⟩]else[]) ++
 ((if s.mt=true then(vj (kU s.f 9)).flatMap fun o=>[⟨lh (io s.f 9),s.own++o,s.u,s.mt && !(ch s.f.st 9).2.2⟩,⟨lh (io s.f 9),(if s.f.st=3 then Ch s.own else s.own++o),s.u,s.mt && !(ch s.f.st 9).2.2⟩]else[]) ++
 (if s.u=true then((vj (kU s.f 6++[.K])).map fun o=>⟨lh (io s.f 6),s.own++o,false,s.mt && !(ch s.f.st 6).2.2⟩)++((vj (kU s.f 7++[.N])).map fun o=>⟨lh (io s.f 7),s.own++o,false,s.mt && !(ch s.f.st 7).2.2⟩)else[])))
def DN:List Fp->List Fp
 | .T::r=>r
 | l=>l
def EB:List Fp->Bool
 | .T::_=>true
 | _=>false
def G1(s:Bs):Bool :=
 ((Fx s).all fun t=>B0.any fun x=>x==t)&&(!s.u || !xQ s.own)&&(!(s.f.st==3)||s.own==[]||s.own==[.T])&&decide (qY .R s.own<=1)&&(!jB .R s.own||((s.f.st==6||s.f.st==8)&&decide (2<=s.f.rem) && !s.mt)) &&
 decide (qY .K s.own+qY .N s.own<=1)&&decide (s.own.length<=3)&&(DN s.own).all (fun x=>x != .T)
theorem G2:(B0.all G1)=true:=by decide +kernel
def CQ:Bool:=pH.all fun f=>([true,false].all fun u=>[true,false].all fun m=>B0.any fun x=>x==⟨f,[],u,m⟩)&&[true,false].all fun u=>!((f.st==6||f.st==8)&&decide (2<=f.rem))||B0.any fun x=>x==⟨f,[.R],u,false⟩
theorem DO:CQ=true:=by decide +kernel
def zQ(fa:Fe)(s:Bs):Fs:=if EB s.own=true then⟨lh (io fa 11),s.f,kU fa 11,DN s.own⟩else⟨fa,s.f,[],s.own⟩
def EC(s:Bs):Bool:=s.u||pH.all fun fa=>(xQ s.own && !((fa.st==6||fa.st==8)&&decide (2<=fa.rem))) ||
 (A4 (zQ fa s)&&Dl (zQ fa s).ba.length (zQ fa s) 0 fun o m=>(EG false o).all fun q=>A4 q&&(decide (A5 q<15)&&decide (m<=100)))
theorem Fy:(B0.all EC)=true:=by decide +kernel
theorem Em:(pH.all fun f=>(lh (io (lh (io f 11)) 11)==lh (io f 11))&&(kU (lh (io f 11)) 11==[]))=true:=by decide +kernel
structure Qi(ca cb:Cf)(w:Mw)(s:Bs)(d d':Int)(ga:Gh)(ts lb:List Op.Pk)(own0:List Fp):Prop where
 iva:Iv ca cb w.a w.b d
 ivb:Iv cb ca w.b w.a d'
 gs:Gs w.now ca w.a
 rb:Re false w.now cb w.b s.f
 sm:s∈B0
 ln:w.b.ln=ts++lb
 tp:∀p∈ts,p.code=6/\p.data=⟨#[]⟩
 own:s.own=if ts.isEmpty=true then own0 else Fp.T::own0
 al:Al (Pr cb ca w.b w.a ga) lb own0
 ng:ga.isSome=jB .N own0
 ku:xQ own0=true->(w.a.e.st=6\/w.a.e.st=8)/\w.now+2<=w.a.e.du
 mt:s.mt=false->d' < w.b.e.id
 jy:Bq own0=true->EA cb ga (gr w.a.e)->(gr w.a.e).g=(gr w.b.e).g
 u1:s.u=true->∃l1 l2,w.a.ln=l1++mj w.a::l2/\NoR l1/\NoR l2/\(w.a.e.st=6\/w.a.e.st=8)/\w.now+2<=w.a.e.du
 u0:s.u=false->NoR w.a.ln
theorem Al.take{α β:Type}{R:α->β->Prop}{l:List α}{m:List β}(h:Al R l m)(k:Nat):Al R (l.take k) (m.take k):=by
 induction h generalizing k with
 | nil=>simp;exact .nil
 | cons h _ ih =>
  cases k with
  | zero=>exact .nil
  | succ k=>exact .cons h (ih k)
theorem zY(l:List Fp)(k:Nat):l.take k∈vj l:=by
 unfold vj;refine List.mem_map.2 ⟨min k l.length,List.mem_range.2 (by omega),?_⟩;rw[List.take_eq_take_iff];omega
theorem Ah{m:List Fp}(hm:jB .N m=false):∀l:List Fp,Bq (l++m)=Bq l
 | []=>by
  cases h:Bq m
  .exact h
  .have:=(vF h).2
   rw[hm]at this;cases this
 | .R::l=>by
  show jB .N (l++m)=jB .N l
  rw[mf,hm,Bool.or_false]
 | .K::l=>Ah hm l
 | .N::l=>Ah hm l
 | .T::l=>Ah hm l
structure Bk(s:Bs):Prop where
 nx:∀t∈Fx s,t∈B0
 u:s.u=true->xQ s.own=false
 t3:s.f.st=3->s.own=[]\/s.own=[.T]
 r:jB .R s.own=true->(s.f.st=6\/s.f.st=8)/\s.mt=false
theorem bk{s:Bs}(h:s∈B0):Bk s:=by
 have hs:=List.all_eq_true.1 G2 s h;unfold G1 at hs;simp only[zK,Bool.or_eq_true,Bool.not_eq_true',decide_eq_true_eq,beq_iff_eq,beq_eq_false_iff_ne]at hs;obtain⟨⟨⟨⟨⟨⟨⟨h1,h2⟩,h3⟩,h4⟩,h5⟩,h6⟩,h7⟩,h8⟩:=hs;refine⟨fun t ht=>?_,fun hu=>?_,fun h3'=>?_,fun hr=>?_⟩
 .have:=List.all_eq_true.1 h1 t ht
  obtain⟨x,hx,e⟩:=List.any_eq_true.1 this;have e':x=t:=by simpa using e
  rw[<- e'];exact hx
 .rcases h2 with q|q
  .rw [hu]at q;cases q
  .exact q
 .rcases h3 with(q|q)|q
  .exact absurd h3' q
  .exact Or.inl q
  .exact Or.inr q
 .rcases h5 with q|⟨⟨q1,_⟩,q2⟩
  .rw [hr]at q;cases q
  .exact ⟨q1,q2⟩
theorem G3{p:Fp}(hp:p≠.T)(l:List Fp):jB p (.T::l)=jB p l:=by
 unfold jB;rw[List.any_cons];cases p<;>first|rfl|exact absurd rfl hp
theorem Nrm.re(h:Re false now c0 x f):Re false now c0 x (lh f):=h.nrm
section
variable {ca cb:Cf} {w:Mw} {s:Bs} {d d':Int} {ga:Gh} {ts lb:List Op.Pk} {own0:List Fp}
theorem Qi.has(Q:Qi ca cb w s d d' ga ts lb own0){p:Fp}(hp:p≠.T):jB p s.own=jB p own0:=by
 rw[Q.own];split
 .rfl
 .exact G3 hp _
theorem Qi.kn(Q:Qi ca cb w s d d' ga ts lb own0):xQ s.own=xQ own0:=by
 unfold xQ;rw[Q.has (by decide),Q.has (by decide)]
theorem Qi.app(Q:Qi ca cb w s d d' ga ts lb own0)(o:List Fp):s.own++o=if ts.isEmpty=true then own0++o else Fp.T::(own0++o):=by
 rw[Q.own];split<;>rfl
theorem Qi.act(Q:Qi ca cb w s d d' ga ts lb own0){rpF:List Fp}{ga1:Gh}{u':Bool}(R':Re false w.now cb b' (io s.f ev))(hd:Hd w.b b' s.f ev rp)(hlb:w.b.ln.length<=40)(hid:0<=w.b.e.id/\w.b.e.id<255)(i1:Iv ca cb (dN w.a r) b' d2)(i2:Iv cb ca b' (dN w.a r) d')(hF2:b'.F2=w.b.F2\/xQ own0=false)(hrp:∀g,g=ga1\/jB .N rpF=false->Al (Pr cb ca b' (dN w.a r) g) rp rpF)(hN:jB .N rpF=true->jB .N own0=false/\ga1.isSome=true/\(EA cb ga1 (gr w.a.e)->(gr w.a.e).g=(gr b'.e).g))(hg:(gr b'.e).g=(gr w.b.e).g\/Bq own0=false)(hku:rpF≠[]->(w.a.e.st=6\/w.a.e.st=8)/\w.now+2<=w.a.e.du)(hsc:(ch s.f.st ev).2.2=true->jB .R own0=false)(u1:u'=true->∃l1 l2,r=l1++mj w.a::l2/\NoR l1/\NoR l2/\(w.a.e.st=6\/w.a.e.st=8)/\w.now+2<=w.a.e.du)(u0:u'=false->NoR r)(hm:∀o∈vj (kU s.f ev++rpF),(⟨lh (io s.f ev),s.own++o,u',s.mt && !(ch s.f.st ev).2.2⟩:Bs)∈B0):∃s' ga' lb' own',Qi ca cb ⟨dN w.a r,b',w.now⟩ s' d2 d' ga' ts lb' own':=by
 obtain⟨k,hk⟩:∃k,k=40-w.b.ln.length:=⟨_,rfl⟩;have hidS:(ch s.f.st ev).2.2=true->b'.e.id=w.b.e.id+1:=fun q=>by rw[hd.id,if_pos q];omega
 have hidN:(ch s.f.st ev).2.2=false->b'.e.id=w.b.e.id:=fun q=>by rw[hd.id,if_neg (by rw[q];decide)]
 have hln:b'.ln=ts++(lb++((if(ch s.f.st ev).2.2=true then[mj b']else[])++rp).take k):=by
  rw[hd.ln,List.take_append,List.take_of_length_le hlb,<- hk];conv=>lhs;rw[Q.ln]
  rw[List.append_assoc]
 have hnew:∀g,g=ga1\/jB .N rpF=false->Al (Pr cb ca b' (dN w.a r) g) ((if(ch s.f.st ev).2.2=true then[mj b']else[])++rp) (kU s.f ev++rpF):=by
  intro g hgg;unfold kU;cases(ch s.f.st ev).2.2
  .exact hrp g hgg
  .exact .cons rfl (hrp g hgg)
 have hsame:(b'.e.id=w.b.e.id/\b'.F1=w.b.F1)\/jB .R own0=false:=by
  cases q:(ch s.f.st ev).2.2
  .exact Or.inl ⟨hidN q,hd.f1 q⟩
  .exact Or.inr (hsc q)
 have hmt:(s.mt && !(ch s.f.st ev).2.2)=false->d' < b'.e.id:=by
  intro q;cases q2:(ch s.f.st ev).2.2
  .rw [q2]at q;rw[hidN q2];exact Q.mt (by simpa using q)
  .rw [hidS q2];have:=Q.ivb.d0.2
   omega
 have hkn:∀o,xQ (own0++o)=(xQ own0||xQ o):=by
  intro o;unfold xQ;rw[mf,mf];cases jB .K own0<;>cases jB .N own0<;>cases jB .K o<;>cases jB .N o<;>rfl
 have hNscr:jB .N (kU s.f ev)=false:=by unfold kU;split<;>rfl
 have hku':xQ (own0++(kU s.f ev++rpF).take k)=true->(w.a.e.st=6\/w.a.e.st=8)/\w.now+2<=w.a.e.du:=by
  intro q;rw[hkn,Bool.or_eq_true]at q;rcases q with q|q
  .exact Q.ku q
  .refine hku fun e=>?_
   rw[e,List.append_nil]at q;have:∀j,xQ ((kU s.f ev).take j)=false:=by
    intro j;unfold kU;split
    .cases j
     .rfl
     .rw [List.take_succ_cons,List.take_nil];rfl
    .simp;rfl
   rw[this]at q;cases q
 cases hNt:jB .N ((kU s.f ev++rpF).take k)
 .refine ⟨⟨lh (io s.f ev),s.own++(kU s.f ev++rpF).take k,u',s.mt && !(ch s.f.st ev).2.2⟩,ga,lb++((if(ch s.f.st ev).2.2=true then[mj b']else[])++rp).take k,own0++(kU s.f ev++rpF).take k,i1,i2,Q.gs.ln r,R'.nrm,hm _ (zY _ _),hln,Q.tp,Q.app _,?_,?_,hku',hmt,?_,u1,u0⟩
  .refine (vG Q.al hsame hF2 (Or.inl rfl) r).app ?_
   cases hNr:jB .N rpF
   .exact (hnew ga (Or.inr hNr)).take k
   .refine ((hnew ga1 (Or.inl rfl)).take k).imp fun q c hc hq=>?_
    cases c with
    | R=>exact hq
    | K=>exact hq
    | N=>exact absurd rfl (zt hNt _ hc)
    | T=>exact hq
  .rw [mf,hNt,Bool.or_false];exact Q.ng
  .intro q hmg;rw[Ah hNt]at q;rcases hg with e|e
   .show (gr w.a.e).g=(gr b'.e).g
    rw[e];exact Q.jy q hmg
   .rw [e]at q;cases q
 .have hNr:jB .N rpF=true:=by
   cases q:jB .N rpF
   .have:jB .N (kU s.f ev++rpF)=false:=by rw[mf,hNscr,q];rfl
    have h2:=zt this;obtain⟨x,hx,e⟩:=List.any_eq_true.1 (show((kU s.f ev++rpF).take k).any (fun x=>x==Fp.N)=true from hNt);have e':x=Fp.N:=by simpa using e
    exact absurd e' (h2 x (List.mem_of_mem_take hx))
   .rfl
  obtain⟨n1,n2,n3⟩:=hN hNr;refine⟨⟨lh (io s.f ev),s.own++(kU s.f ev++rpF).take k,u',s.mt && !(ch s.f.st ev).2.2⟩,ga1,lb++((if(ch s.f.st ev).2.2=true then[mj b']else[])++rp).take k,own0++(kU s.f ev++rpF).take k,i1,i2,Q.gs.ln r,R'.nrm,hm _ (zY _ _),hln,Q.tp,Q.app _,?_,?_,hku',hmt,fun _=>n3,u1,u0⟩
  .exact (vG Q.al hsame hF2 (Or.inr n1) r).app ((hnew ga1 (Or.inl rfl)).take k)
  .rw [mf,hNt,Bool.or_true];exact n2
theorem Qi.actT(Q:Qi ca cb w s d d' ga ts lb own0){q:Op.Pk}(h3:s.f.st=3)(R':Re false w.now cb b' (io s.f ev))(hd:Hd w.b b' s.f ev [q])(hq:q.code=6/\q.data=⟨#[]⟩)(hlb:w.b.ln.length<=40)(i1:Iv ca cb (dN w.a r) b' d2)(i2:Iv cb ca b' (dN w.a r) d')(hsc:(ch s.f.st ev).2.2=false)(u1:s.u=true->∃l1 l2,r=l1++mj w.a::l2/\NoR l1/\NoR l2/\(w.a.e.st=6\/w.a.e.st=8)/\w.now+2<=w.a.e.du)(u0:s.u=false->NoR r)(hm1:(⟨lh (io s.f ev),s.own,s.u,s.mt && !(ch s.f.st ev).2.2⟩:Bs)∈B0)(hm2:(⟨lh (io s.f ev),Ch s.own,s.u,s.mt && !(ch s.f.st ev).2.2⟩:Bs)∈B0):∃s' ts',Qi ca cb ⟨dN w.a r,b',w.now⟩ s' d2 d' ga ts' [] []:=by
 have hown:=(bk Q.sm).t3 h3;have hown0:own0=[]:=by
  have ho:=Q.own;cases ht:ts.isEmpty
  .rw [ht,if_neg (by decide)]at ho;rcases hown with e|e
   .rw [e]at ho;cases ho
   .rw [e]at ho;injection ho with _ e2;exact e2.symm
  .rw [ht,if_pos rfl]at ho;rcases hown with e|e
   .rw [<- ho,e]
   ·
    rw[e]at ho;have ha:=Q.al;rw[<- ho]at ha;cases ha with
    | cons h _=>exact h.elim
 subst hown0;have hlb0:lb=[]:=by
  have ha:=Q.al;cases ha with
  | nil=>rfl
 subst hlb0;have hbl:w.b.ln=ts:=by rw[Q.ln,List.append_nil]
 have hid:b'.e.id=w.b.e.id:=by rw[hd.id,hsc,if_neg (by decide)]
 have hmt:(s.mt && !(ch s.f.st ev).2.2)=false->d' < b'.e.id:=by
  intro e;rw[hsc]at e;rw[hid];exact Q.mt (by simpa using e)
 have hln:b'.ln=ts++([q]:List Op.Pk).take (40-w.b.ln.length):=by
  rw[hd.ln,hsc];show(w.b.ln++[q]).take 40=_
  rw[List.take_append,List.take_of_length_le hlb,hbl]
 have hng:ga.isSome=false:=Q.ng;by_cases hlt:w.b.ln.length<40
 .have e1:([q]:List Op.Pk).take (40-w.b.ln.length)=[q]:=by
   rw[List.take_of_length_le];show 1<=40-w.b.ln.length
   omega
  rw[e1]at hln;refine⟨⟨lh (io s.f ev),Ch s.own,s.u,s.mt && !(ch s.f.st ev).2.2⟩,ts++[q],i1,i2,Q.gs.ln r,R'.nrm,hm2,by rw[List.append_nil];exact hln,?_,?_,.nil,hng,fun e=>(by cases e),hmt,fun e=>(by cases e),u1,u0⟩
  .intro x hx;rcases List.mem_append.1 hx with e|e
   .exact Q.tp x e
   .rw [List.mem_singleton.1 e];exact hq
  .have e2:(ts++[q]).isEmpty=false:=by cases ts<;>rfl
   rw[e2,if_neg (by decide)];show Ch s.own=[Fp.T]
   unfold Ch;rcases hown with e|e
   .rw [e];rfl
   .rw [e];rfl
 .have e1:([q]:List Op.Pk).take (40-w.b.ln.length)=[]:=by
   rw[show 40-w.b.ln.length=0 by omega];rfl
  rw[e1]at hln;exact⟨⟨lh (io s.f ev),s.own,s.u,s.mt && !(ch s.f.st ev).2.2⟩,ts,i1,i2,Q.gs.ln r,R'.nrm,hm1,hln,Q.tp,Q.own,.nil,hng,fun e=>(by cases e),hmt,fun e=>(by cases e),u1,u0⟩
end
theorem Ci(w:World)(B:Nat)(sl:Value)(n:Nat)(hn:n<=maxLen)(hS:Src w B sl n)(hD:Dat w B sl n):Calls prog 61 #[(B,0)] w fun e w'=>∃x:Int,e=.returned (.int .i64 x)/\-9223372036854775808<=x/\x<=9223372036854775807/\Src w' B sl n/\Nigh B w w':=by
 have hBw:=hS.lt;have HS:=aa hS;have HD:=aa hD;clear hS hD;go_enter func61,ntmps61
 go_wp2_with fail
 refine(x8 _ B sl n 14 (by decide) hn (HS.out.same (zG _ _ _ hBw)) (HD.out.below ((zC _ _).alloc (by omega) _))).mono ?_;rintro e w1⟨r,rfl,hr,hS1,ht1⟩;have hr2:r<14:=by omega
 obtain⟨x,hx,hx1,hx2⟩:=sz ((ht1.block w (by omega)).trans (heap_alloc_last w _)) (by decide) r (by simpa using hr2);have hb2:Nigh B w w1:=((Nigh.refl _ _).alloc _).trans (Nigh.of_touch ht1);clear ht1 hr;have HS1:=aa hS1;clear hS1;go_wp2
 go_ret
 exact⟨x,rfl,hx1,hx2,uh HS1,hb2⟩
theorem Cj(w:World)(B:Nat)(sl:Value)(n:Nat)(hn:n<=maxLen)(hS:Src w B sl n)(hD:Dat w B sl n):Calls prog 35 #[(B,0)] w fun e w'=>∃x:Int,e=.returned (.int .i64 x)/\-9223372036854775808<=x/\x<=9223372036854775807/\Src w' B sl n/\Nigh B w w':=by
 have HD:=aa hD;have hB0:=hS.lt;have c:=zB w B sl n 10 (by decide) hn hS hD;clear hS hD;go_enter func35,ntmps35
 go_wp2_with fail
 refine c.mono ?_;rintro e w1⟨b,rfl,hS1,ht1⟩;have hn1:Nigh B w w1:=Nigh.of_touch ht1;have hb1:Below B w w1:=ht1.below;have HS1:=aa hS1;have hBw1:=hS1.lt;clear hS1 ht1 c;cases b
 .go_wp2_with fail
  refine(x8 _ B sl n 4 (by decide) hn (HS1.out.same (zG _ _ _ hBw1)) (HD.out.below (hb1.alloc (by omega) _))).mono ?_;rintro e w3⟨r,rfl,hr,hS3,ht3⟩;have hr2:r<4:=by omega
  obtain⟨y,hy,hy1,hy2⟩:=sz ((ht3.block w1 (by omega)).trans (heap_alloc_last w1 _)) (by decide) r (by simpa using hr2);have hb4:Nigh B w w3:=(hn1.alloc _).trans (Nigh.of_touch ht3);have HS3:=aa hS3;clear hS3 ht3 hr;go_wp2
  go_ret
  exact⟨y,rfl,hy1,hy2,uh HS3,hb4⟩
 .go_wp2_with fail
  refine(Ci w1 B sl n hn HS1.out (HD.out.below hb1)).mono ?_;rintro e w2⟨x,rfl,hx1,hx2,hS2,hb2⟩;have hBw:=hS2.lt;have HS2:=aa hS2;clear hS2;go_wp2_with fail
  have hn3:=hn1.trans hb2;have hb3:=hn3.below (by omega);refine(x8 _ B sl n 4 (by decide) hn (HS2.out.same (zG _ _ _ hBw)) (HD.out.below (hb3.alloc (by omega) _))).mono ?_;rintro e w3⟨r,rfl,hr,hS3,ht3⟩;have hr2:r<4:=by omega
  obtain⟨y,hy,hy1,hy2⟩:=sz ((ht3.block w2 (by omega)).trans (heap_alloc_last w2 _)) (by
   intro v hv;simp only[List.mem_cons,List.not_mem_nil,or_false]at hv;rcases hv with rfl|rfl|rfl|rfl;all_goals simp[Cp,hx1,hx2]) r (by simpa using hr2)
  have hb4:Nigh B w w3:=(hn3.alloc _).trans (Nigh.of_touch ht3);have HS3:=aa hS3;clear hS3 ht3 hr;go_wp2
  go_ret
  exact⟨y,rfl,hy1,hy2,uh HS3,hb4⟩
end Go.Proofs.YtjdgiimfpkideaaGreatDoor
