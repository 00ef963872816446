/- A numbered line, whatever is lost, comes twice or has bits turned: each event keeps what is said of both ends, or something false was found; rounds let all be got. Plain mathematics. A numbered line: what is got are the first of the texts, each once, in order; all of them when all is let come a hundred times; where nothing false is found. Plain mathematics. The draw of a run over a numbered line (DrawLineRun): texts, a window, a script and a way of settling, in new memory; what lay in memory stands. -/
import Derived.Test.YtkcghhkkepndnaaGreatDoorS39
import Derived.Test.YtkcghhkkepndnaaGreatDoorS23
import Derived.Test.YtkcghhkkepndnaaGreatDoorS09
import Derived.Test.YtkcghhkkepndnaaGreatDoorS01
import Derived.Test.YtkcghhkkepndnaaGreatDoorS15
import Derived.Test.YtkcghhkkepndnaaGreatDoorS30
import Derived.Deep.DeepCutAuto
import Derived.Test.YtkcghhkkepndnaaGreatDoorShW
namespace Go.Proofs.YtkcghhkkepndnaaGreatDoor
open Go.RowKit
section
variable {T:List ByteArray} {w A S R:Nat} {m:Nw}
theorem cmB_un (m:Nw):m.un≤(cmB m).un:=by
 unfold cmB
 split
 ·exact Int.le_refl _
 ·exact took_un _ _ _ _
theorem cmA_un (m:Nw):m.un≤(cmA m).un:=by
 unfold cmA
 split
 ·exact Int.le_refl _
 ·exact took_un _ _ _ _
theorem follow_df (s:Nl) (o:LO):(followN s o).df=s.df:=by
 unfold followN
 split<;>rfl
theorem hearN_df (s:Nl) (t:ByteArray):(hearN s t).df=s.df:=by
 unfold hearN
 split
 ·exact follow_df _ _
 ·rfl
theorem take1_df (tx:ByteArray) (x:Tk) (d:Hd.Fd):(take1 tx x d).s.df=x.s.df:=by
 unfold take1
 split
 ·exact hearN_df _ _
 ·rfl
theorem fold_df (tx:ByteArray) (F:List Hd.Fd):∀ x:Tk,(F.foldl (take1 tx) x).s.df=x.s.df:=by
 induction F with
 | nil=>intro x;rfl
 | cons d F ih=>intro x;rw [List.foldl_cons,ih,take1_df]
theorem took_df (f:Sf) (s:Nl) (bad un:Int):(tookN f s bad un).s.df=(dfN s f.bytes).df:=fold_df f.text _ ⟨dfN s f.bytes,bad,un,0⟩
theorem cmB_iv (h:Iv T w A S R m):0<(cmB m).un∨∃ R',R≤R'∧Iv T w A S R' (cmB m)∧(cmB m).a.ln=m.a.ln.tail∧(∃ X,(cmB m).b.ln=(m.b.ln ++ X).take 40) ∧
  (∀ f r,m.a.ln=f :: r→f.bytes=frameV f.text 0 false→f.text=txN (nbI T A)→A<T.length→A<R'∧∃ c,(c=2∨c=3)∧(cmB m).b.ln=(m.b.ln ++ [frameOfF (nbA c R')]).take 40∧R'≤max R (A+1)):=by
 obtain ⟨na,nb,c,ok⟩:=h.ok
 have okn:=cmB_ok ok
 have h0:=h.un
 have hw:=h.w1
 have har:=h.ar
 have has:=h.sx
 have hl40:m.b.ln.take 40=m.b.ln:=List.take_of_length_le ok.b.l
 by_cases hu:(cmB m).un=0
 ·refine Or.inr ?_
  cases e:m.a.ln with
  | nil =>
   have ec:cmB m=m:=by unfold cmB;rw [e]
   rw [ec]
   exact ⟨R,Nat.le_refl _,h,e,⟨[],by rw [List.append_nil,hl40]⟩,fun f r hf=>(by cases hf)⟩
  | cons f r =>
   have ec:cmB m=⟨lnN m.a r,(tookN f m.b m.bad m.un).s,(tookN f m.b m.bad m.un).bad,(tookN f m.b m.bad m.un).un⟩:=by unfold cmB;rw [e]
   have hut:(tookN f m.b m.bad m.un).un=m.un:=by rw [ec] at hu;exact hu.trans h0.symm
   have hsf:SfOk f:=ok.a.f f (by rw [e];exact List.mem_cons_self ..)
   have hla:=h.la
   rw [e] at hla
   obtain ⟨i,ht,hi1,hi2,hi3,I,q1,q2,q3⟩:=hla.head
   have hdf:=dfN_keep ok.b.d h.db.1 h.db.2 hsf.c
   have hdd:(tookN f m.b m.bad m.un).s.df.wd=false∧(tookN f m.b m.bad m.un).s.df.x=0:=by rw [took_df];exact hdf
   obtain ⟨k,hpb⟩:=h.pb
   have hearing:=hearB (s:=dfN m.b f.bytes) (k:=k) h.t hpb h.qb h.okB h.gb hi1 hi3 (by omega)
   obtain ⟨c2,k',R',hc,hRR,hN⟩:=hearing
   rw [← ht] at hN
   have hs2:((tookN f m.b m.bad m.un).s=dfN m.b f.bytes∧f.bytes≠frameV f.text 0 false)∨(tookN f m.b m.bad m.un).s=hearN (dfN m.b f.bytes) f.text:=by
    by_cases hcl:f.bytes=frameV f.text 0 false
    ·exact Or.inr (took_clean ok.b.d h.db.1 h.db.2 hsf (by rw [ht];exact (txN_size _).1) hcl hut)
    ·exact (took_safe hut).imp (fun x=>⟨x,hcl⟩) id
   rcases hs2 with ⟨hs,hncl⟩ | hs
   ·refine ⟨R,Nat.le_refl _,?_,by rw [ec];rfl,⟨[],by rw [ec,List.append_nil,hl40];show (tookN f m.b m.bad m.un).s.ln=_;rw [hs];rfl⟩,fun f2 r2 hf2 hcl htx hA=>?_⟩
    ·rw [ec] at okn ⊢
     refine ⟨⟨_,_,_,okn⟩,hw,h.t,h.pa,h.qa,?_,?_,?_,has,har,?_,?_,h.da,hdd,hut.trans h0⟩
     ·exact ⟨k,by show (tookN f m.b m.bad m.un).s.p=_;rw [hs];exact hpb⟩
     ·show (tookN f m.b m.bad m.un).s.Q=_;rw [hs];exact h.qb
     ·show (tookN f m.b m.bad m.un).s.gt=_;rw [hs];exact h.gb
     ·exact ⟨I,q1,fun j hj=>by have:=q2 j hj;exact ⟨this.1,this.2.1,this.2.2.1⟩,q3⟩
     ·show LbOk A R (tookN f m.b m.bad m.un).s.ln;rw [hs];exact h.lb
    ·injection hf2 with e1 e2
     rw [e1] at hncl
     exact absurd hcl hncl
   ·have hRle:R≤R':=by rcases hRR with x | x<;>omega
    have hR1:R'≤A+w∧R'≤T.length:=by rcases hRR with x | x<;>omega
    rw [hN] at hs
    refine ⟨R',hRle,?_,by rw [ec];rfl,⟨[frameOfF (nbA c2 R')],by rw [ec];show (tookN f m.b m.bad m.un).s.ln=_;rw [hs];rfl⟩,fun f2 r2 hf2 hcl htx hA=>?_⟩
    ·rw [ec] at okn ⊢
     refine ⟨⟨_,_,_,okn⟩,hw,h.t,h.pa,h.qa,?_,?_,?_,has,⟨by omega,hR1⟩,?_,?_,h.da,hdd,hut.trans h0⟩
     ·exact ⟨k',by show (tookN f m.b m.bad m.un).s.p=_;rw [hs]⟩
     ·show (tookN f m.b m.bad m.un).s.Q=_;rw [hs]
     ·show (tookN f m.b m.bad m.un).s.gt=_;rw [hs]
     ·exact ⟨I,q1,fun j hj=>by have:=q2 j hj;exact ⟨this.1,this.2.1,by rcases hRR with x | x<;>omega⟩,q3⟩
     ·show LbOk A R' (tookN f m.b m.bad m.un).s.ln
      rw [hs]
      exact (h.lb.snoc hRle (by omega) hc).take 40
    ·injection hf2 with e1 e2
     subst e1
     have hiA:i=A:=by
      have h3:=congrArg Nb.ns (txN_inj (nbI_ok h.t hi1) (nbI_ok h.t hA) (ht.symm.trans htx))
      have h4:((i % 8:Nat):Int)=((A % 8:Nat):Int):=h3
      omega
     refine ⟨by rcases hRR with x | x<;>omega,c2,hc,by rw [ec];show (tookN f m.b m.bad m.un).s.ln=_;rw [hs];rfl,by rcases hRR with x | x<;>omega⟩
 ·have:=cmB_un m
  exact Or.inl (by omega)
theorem cmA_iv (h:Iv T w A S R m):0<(cmA m).un∨∃ A' S',A≤A'∧Iv T w A' S' R (cmA m)∧(cmA m).a.ln=m.a.ln∧(cmA m).b.ln=m.b.ln.tail ∧
  (∀ c r X,m.b.ln=frameOfF (nbA c r) :: X→(c=2∨c=3)→A<r→r≤S→A<A'):=by
 obtain ⟨na,nb,c,ok⟩:=h.ok
 have okn:=cmA_ok ok
 have h0:=h.un
 have hw:=h.w1
 have har:=h.ar
 have has:=h.sx
 by_cases hu:(cmA m).un=0
 ·refine Or.inr ?_
  cases e:m.b.ln with
  | nil =>
   have ec:cmA m=m:=by unfold cmA;rw [e]
   rw [ec]
   exact ⟨A,S,Nat.le_refl _,h,rfl,e,fun c r X hf=>(by cases hf)⟩
  | cons f r =>
   have ec:cmA m=⟨(tookN f m.a m.bad m.un).s,lnN m.b r,(tookN f m.a m.bad m.un).bad,(tookN f m.a m.bad m.un).un⟩:=by unfold cmA;rw [e]
   have hut:(tookN f m.a m.bad m.un).un=m.un:=by rw [ec] at hu;exact hu.trans h0.symm
   have hsf:SfOk f:=ok.b.f f (by rw [e];exact List.mem_cons_self ..)
   have hlb:=h.lb
   rw [e] at hlb
   obtain ⟨k,q,ht,hk,hq1,hq2,hlr⟩:=hlb.head
   have htx:f.text=txN (nbA k q):=by rw [ht];rfl
   have hbt:f.bytes=frameV f.text 0 false:=by rw [ht];rfl
   have hdf:=dfN_keep ok.a.d h.da.1 h.da.2 hsf.c
   have hdd:(tookN f m.a m.bad m.un).s.df.wd=false∧(tookN f m.a m.bad m.un).s.df.x=0:=by rw [took_df];exact hdf
   have hs:=took_clean ok.a.d h.da.1 h.da.2 hsf (by rw [htx];exact (txN_size _).1) hbt hut
   rw [htx] at hs
   obtain ⟨A',S',g,hAS,hN⟩:=hearA (s:=dfN m.a f.bytes) hw.2 ⟨has.1,has.2.1⟩ h.pa h.qa h.okA ok.a.l hk ⟨hq1,by omega⟩
   rw [hN] at hs
   have hA:A≤A'∧A'≤q∨A≤A'∧A'=A:=by rcases hAS with x | x<;>omega
   refine ⟨A',S',by omega,?_,?_,by rw [ec];rfl,fun c2 r2 X hX hc2 hr1 hr2=>?_⟩
   ·rw [ec] at okn ⊢
    refine ⟨⟨_,_,_,okn⟩,hw,h.t,?_,?_,h.pb,h.qb,h.gb,by rcases hAS with x | x<;>omega,by rcases hAS with x | x<;>omega,?_,?_,hdd,h.db,hut.trans h0⟩
    ·show (tookN f m.a m.bad m.un).s.p=_;rw [hs]
    ·show (tookN f m.a m.bad m.un).s.Q=_;rw [hs]
    ·show LaOk T w A' R (tookN f m.a m.bad m.un).s.ln
     rw [hs]
     exact h.la.up (by omega)
    ·obtain ⟨J,j1,j2,j3⟩:=hlr
     exact ⟨J,j1,fun j hj=>by have:=j2 j hj;exact ⟨this.1,by omega,this.2.2⟩,j3⟩
   ·rw [ec]
    show (tookN f m.a m.bad m.un).s.ln=_
    rw [hs]
    rfl
   ·injection hX with e1 e2
    have h3:txN (nbA k q)=txN (nbA c2 r2):=by rw [← htx,e1];rfl
    have h4:=congrArg Nb.nr (txN_inj (nbA_ok hk q) (nbA_ok hc2 r2) h3)
    have h5:((q % 8:Nat):Int)=((r2 % 8:Nat):Int):=h4
    have h6:q=r2:=by omega
    rcases hAS with x | x<;>omega
 ·have:=cmA_un m
  exact Or.inl (by omega)
theorem next_iv (h:Iv T w A S R m):∃ S',S'=min (A+w) T.length∧Iv T w A S' R (sendNextN m)∧(sendNextN m).b=m.b∧(m.a.ln=[]→S=A→A<T.length→∃ f r,(sendNextN m).a.ln=f :: r∧f.bytes=frameV f.text 0 false∧f.text=txN (nbI T A)):=by
 obtain ⟨na,nb,c,ok⟩:=h.ok
 have okn:=next_ok ok
 have hw:=h.w1
 have har:=h.ar
 have has:=h.sx
 have hA:=h.okA
 have hsn:sentN m.a.p=S - A:=by
  unfold sentN
  rw [h.pa]
  dsimp only
  rw [far_of has.1 (by omega)]
  exact Int.toNat_natCast _
 have hql:m.a.Q.length=T.length - A:=by rw [h.qa,List.length_drop]
 have hwi:m.a.p.wi.toNat=w:=by rw [h.pa];exact Int.toNat_natCast _
 have hnm:nextM m.a.p m.a.Q=min (A+w) T.length - S:=by
  unfold nextM
  rw [hsn,hql,hwi]
  omega
 have e:nextF m.a.p m.a.Q=⟨⟨m.a.p.wi,(m.a.p.vs+(nextM m.a.p m.a.Q:Nat)) % 8,m.a.p.va,m.a.p.vr,m.a.p.ak⟩,m.a.Q,outs m.a.p.vs m.a.p.vr (m.a.Q.drop (sentN m.a.p)) (nextM m.a.p m.a.Q),[],0⟩:=if_pos hA
 have ho:outs m.a.p.vs m.a.p.vr (m.a.Q.drop (sentN m.a.p)) (nextM m.a.p m.a.Q)=(List.range (min (A+w) T.length - S)).map fun j=>nbI T (S+j):=by
  rw [hnm,hsn,h.qa,List.drop_drop,show A+(S - A)=S by omega,h.pa]
  unfold outs
  refine List.map_congr_left fun j hj=>?_
  have hj':=List.mem_range.1 hj
  unfold nbI
  have e1:(((S % 8:Nat):Int)+(j:Int)) % 8=(((S+j) % 8:Nat):Int):=by omega
  have e2:(T.drop S).getD j (⟨#[]⟩:ByteArray)=T.getD (S+j) ⟨#[]⟩:=by
   rw [List.getD_eq_getElem?_getD,List.getD_eq_getElem?_getD,List.getElem?_drop]
  rw [e2]
  exact congrArg (fun z=>(⟨1,z,0,T.getD (S+j) ⟨#[]⟩⟩:Nb)) e1
 have es:sendNextN m=⟨⟨⟨m.a.p.wi,(m.a.p.vs+(nextM m.a.p m.a.Q:Nat)) % 8,m.a.p.va,m.a.p.vr,m.a.p.ak⟩,m.a.Q,(m.a.ln ++ ((List.range (min (A+w) T.length - S)).map fun j=>nbI T (S+j)).map frameOfF).take 40,m.a.df,m.a.gt ++ []⟩,m.b,m.bad,m.un⟩:=by
  unfold sendNextN followN
  rw [e,ho]
  rfl
 refine ⟨min (A+w) T.length,rfl,?_,by rw [es],fun hl hSA hlt=>?_⟩
 ·rw [es] at okn ⊢
  refine ⟨⟨_,_,_,okn⟩,hw,h.t,?_,h.qa,h.pb,h.qb,h.gb,by omega,har,?_,h.lb,h.da,h.db,h.un⟩
  ·show (⟨m.a.p.wi,(m.a.p.vs+(nextM m.a.p m.a.Q:Nat)) % 8,m.a.p.va,m.a.p.vr,m.a.p.ak⟩:Lp)=_
   rw [hnm,h.pa]
   have e1:(((S % 8:Nat):Int)+((min (A+w) T.length - S:Nat):Int)) % 8=((min (A+w) T.length % 8:Nat):Int):=by omega
   exact congrArg (fun z=>(⟨(w:Int),z,((A % 8:Nat):Int),0,false⟩:Lp)) e1
  ·refine LaOk.take ?_ 40
   obtain ⟨I,h1,h2,h3⟩:=h.la
   refine ⟨I ++ (List.range (min (A+w) T.length - S)).map fun j=>S+j,?_,fun i hi=>?_,List.pairwise_append.2 ⟨h3,?_,fun a ha b hb=>?_⟩⟩
   ·rw [List.map_append,List.map_append,h1,List.map_map,List.map_map,List.map_map]
    rfl
   ·rcases List.mem_append.1 hi with hi | hi
    ·exact h2 i hi
    ·obtain ⟨j,hj,rfl⟩:=List.mem_map.1 hi
     have:=List.mem_range.1 hj
     omega
   ·rw [List.pairwise_map]
    exact (List.pairwise_lt_range (n:=min (A+w) T.length - S)).imp fun {a b} hab=>by omega
   ·obtain ⟨j,hj,rfl⟩:=List.mem_map.1 hb
    have:=h2 a ha
    omega
 ·rw [es]
  subst hSA
  obtain ⟨q,hq⟩:∃ q,min (S+w) T.length - S=q+1:=⟨min (S+w) T.length - S - 1,by omega⟩
  rw [hl,hq,List.range_succ_eq_map,List.map_cons,List.map_cons]
  exact ⟨frameOfF (nbI T (S+0)),_,rfl,rfl,rfl⟩
theorem again_iv (h:Iv T w A S R m):Iv T w A A R (sendAgainN m)∧(sendAgainN m).a.ln=m.a.ln∧(sendAgainN m).b=m.b:=by
 obtain ⟨na,nb,c,ok⟩:=h.ok
 have okn:=again_ok ok
 have hw:=h.w1
 have har:=h.ar
 have has:=h.sx
 have e:againF m.a.p m.a.Q=⟨⟨m.a.p.wi,m.a.p.va,m.a.p.va,m.a.p.vr,m.a.p.ak⟩,m.a.Q,[],[],0⟩:=if_pos h.okA
 have es:sendAgainN m=⟨⟨⟨m.a.p.wi,m.a.p.va,m.a.p.va,m.a.p.vr,m.a.p.ak⟩,m.a.Q,m.a.ln,m.a.df,m.a.gt ++ []⟩,m.b,m.bad,m.un⟩:=by
  unfold sendAgainN followN
  rw [e]
  dsimp only
  rw [if_pos rfl,List.map_nil,List.append_nil,List.take_of_length_le ok.a.l]
 rw [es] at okn ⊢
 refine ⟨⟨⟨_,_,_,okn⟩,hw,h.t,?_,h.qa,h.pb,h.qb,h.gb,by omega,har,h.la,h.lb,h.da,h.db,h.un⟩,rfl,rfl⟩
 show (⟨m.a.p.wi,m.a.p.va,m.a.p.va,m.a.p.vr,m.a.p.ak⟩:Lp)=_
 rw [h.pa]
end
end Go.Proofs.YtkcghhkkepndnaaGreatDoor
namespace Go.Proofs.YtkcghhkkepndnaaGreatDoor
open Go.RowKit
section
variable {T:List ByteArray} {w A S R:Nat} {m:Nw}
theorem Iv.lines (h:Iv T w A S R m) {l k:List Sf} (ok:∃ na nb c,NwOk na nb c ⟨lnN m.a l,lnN m.b k,m.bad,m.un⟩) (hl:LaOk T w A R l) (hk:LbOk A R k):Iv T w A S R ⟨lnN m.a l,lnN m.b k,m.bad,m.un⟩ :=
 ⟨ok,h.w1,h.t,h.pa,h.qa,h.pb,h.qb,h.gb,h.sx,h.ar,hl,hk,h.da,h.db,h.un⟩
theorem spoil_un (m:Nw) (n:Int):(spoilN m n).un=m.un:=by
 unfold spoilN
 split<;>rfl
theorem ev_un (m:Nw) (e:Int):m.un≤(evN m e).un:=by
 unfold evN
 repeat' split
 all_goals first
  | exact Int.le_refl _
  | exact cmB_un m
  | exact cmA_un m
  | (rw [spoil_un];exact Int.le_refl _)
theorem ev_iv (h:Iv T w A S R m) (e:Int):0<(evN m e).un∨∃ A' S' R',Iv T w A' S' R' (evN m e):=by
 obtain ⟨na,nb,c,ok⟩:=h.ok
 unfold evN
 repeat' split
 ·exact Or.inr ⟨A,S,R,h⟩
 ·obtain ⟨S',_,h1,_⟩:=next_iv h
  exact Or.inr ⟨A,S',R,h1⟩
 ·rcases cmB_iv h with h1 | ⟨R',_,h1,_⟩
  ·exact Or.inl h1
  ·exact Or.inr ⟨A,S,R',h1⟩
 ·exact Or.inr ⟨A,S,R,h.lines (k:=m.b.ln) ⟨_,_,_,tail_ok ok.a,ok.b,ok.bd,ok.un⟩ h.la.tail h.lb⟩
 ·refine Or.inr ⟨A,S,R,h.lines (k:=m.b.ln) ⟨_,_,_,dbl_ok ok.a,ok.b,ok.bd,ok.un⟩ ?_ h.lb⟩
  have hl:=h.la
  cases hs:m.a.ln with
  | nil=>exact LaOk.nil _ _ _ _
  | cons f r =>
   rw [hs] at hl
   rw [show dbl (f :: r)=if (f :: r).length<40 then f :: f :: r else f :: r from rfl]
   split
   ·obtain ⟨i,h1,h2,h3,h4,I,q1,q2,q3⟩:=hl.head
    refine ⟨i :: i :: I,by rw [List.map_cons,List.map_cons,List.map_cons,List.map_cons,q1,h1],fun j hj=>?_,List.pairwise_cons.2 ⟨fun j hj=>?_,List.pairwise_cons.2 ⟨fun j hj=>(q2 j hj).2.2.2,q3⟩⟩⟩
    ·rcases List.mem_cons.1 hj with rfl | hj
     ·exact ⟨h2,h3,h4⟩
     ·rcases List.mem_cons.1 hj with rfl | hj
      ·exact ⟨h2,h3,h4⟩
      ·have:=q2 j hj
       exact ⟨this.1,this.2.1,this.2.2.1⟩
    ·rcases List.mem_cons.1 hj with rfl | hj
     ·omega
     ·exact (q2 j hj).2.2.2
   ·exact hl
 ·refine Or.inr ⟨A,S,R,?_⟩
  have oks:=spoil_ok ok (e / 8)
  have hl:=h.la
  unfold spoilN at oks ⊢
  split
  ·exact h
  ·rename_i f r hs
   rw [hs] at oks hl
   refine h.lines (k:=m.b.ln) ⟨_,_,_,oks⟩ ?_ h.lb
   obtain ⟨I,q1,q2,q3⟩:=hl
   exact ⟨I,q1,q2,q3⟩
 ·rcases cmA_iv h with h1 | ⟨A',S',_,h1,_⟩
  ·exact Or.inl h1
  ·exact Or.inr ⟨A',S',R,h1⟩
 ·exact Or.inr ⟨A,S,R,h.lines (l:=m.a.ln) ⟨_,_,_,ok.a,tail_ok ok.b,ok.bd,ok.un⟩ h.la h.lb.tail⟩
 ·exact Or.inr ⟨A,A,R,(again_iv h).1⟩
theorem fold_un9 (L:List Int):∀ m:Nw,m.un≤(L.foldl evN m).un:=by
 induction L with
 | nil=>intro m;exact Int.le_refl _
 | cons e L ih=>intro m;rw [List.foldl_cons];exact Int.le_trans (ev_un m e) (ih _)
theorem fold_iv (L:List Int):∀ {A S R:Nat} {m:Nw},Iv T w A S R m→0<(L.foldl evN m).un∨∃ A' S' R',Iv T w A' S' R' (L.foldl evN m):=by
 induction L with
 | nil=>intro A S R m h;exact Or.inr ⟨A,S,R,h⟩
 | cons e L ih =>
  intro A S R m h
  rw [List.foldl_cons]
  rcases ev_iv h e with h1 | ⟨A',S',R',h1⟩
  ·exact Or.inl (Int.lt_of_lt_of_le h1 (fold_un9 L _))
  ·exact ih h1
theorem times_front {α:Type} (f:α→α) (n:Nat) (x:α):timesN f (n+1) x=timesN f n (f x):=by
 induction n with
 | zero=>rfl
 | succ n ih =>
  show f (timesN f (n+1) x)=f (timesN f n (f x))
  rw [ih]
theorem timesB_un (k:Nat) (m:Nw):m.un≤(timesN cmB k m).un:=by
 induction k with
 | zero=>exact Int.le_refl _
 | succ k ih=>exact Int.le_trans ih (cmB_un _)
theorem timesA_un (k:Nat) (m:Nw):m.un≤(timesN cmA k m).un:=by
 induction k with
 | zero=>exact Int.le_refl _
 | succ k ih=>exact Int.le_trans ih (cmA_un _)
theorem timesB_iv (k:Nat):∀ {A S R:Nat} {m:Nw},Iv T w A S R m→0<(timesN cmB k m).un∨∃ R',R≤R'∧Iv T w A S R' (timesN cmB k m)∧(timesN cmB k m).a.ln=m.a.ln.drop k∧∃ X,(timesN cmB k m).b.ln=m.b.ln ++ X:=by
 induction k with
 | zero=>intro A S R m h;exact Or.inr ⟨R,Nat.le_refl _,h,rfl,[],by rw [List.append_nil];rfl⟩
 | succ k ih =>
  intro A S R m h
  rw [times_front]
  obtain ⟨_,_,_,ok⟩:=h.ok
  have hl:=ok.b.l
  rcases cmB_iv h with h1 | ⟨R1,k1,h1,k2,⟨X1,k3⟩,_⟩
  ·exact Or.inl (Int.lt_of_lt_of_le h1 (timesB_un k _))
  ·rcases ih h1 with h2 | ⟨R2,j1,h2,j2,X2,j3⟩
   ·exact Or.inl h2
   ·refine Or.inr ⟨R2,by omega,h2,by rw [j2,k2,List.drop_tail],X1.take (40 - m.b.ln.length) ++ X2,?_⟩
    rw [j3,k3,List.take_append,List.take_of_length_le hl,List.append_assoc]
theorem timesA_iv (k:Nat):∀ {A S R:Nat} {m:Nw},Iv T w A S R m→0<(timesN cmA k m).un∨∃ A' S',A≤A'∧Iv T w A' S' R (timesN cmA k m)∧(timesN cmA k m).a.ln=m.a.ln∧(timesN cmA k m).b.ln=m.b.ln.drop k:=by
 induction k with
 | zero=>intro A S R m h;exact Or.inr ⟨A,S,Nat.le_refl _,h,rfl,rfl⟩
 | succ k ih =>
  intro A S R m h
  rw [times_front]
  rcases cmA_iv h with h1 | ⟨A1,S1,k1,h1,k2,k3,_⟩
  ·exact Or.inl (Int.lt_of_lt_of_le h1 (timesA_un k _))
  ·rcases ih h1 with h2 | ⟨A2,S2,j1,h2,j2,j3⟩
   ·exact Or.inl h2
   ·exact Or.inr ⟨A2,S2,by omega,h2,by rw [j2,k2],by rw [j3,k3,List.drop_tail]⟩
theorem set_un (m:Nw):m.un≤(setN1 m).un :=
 Int.le_trans (timesB_un (sendNextN m).a.ln.length (sendNextN m)) (timesA_un _ _)
theorem set_iv (h:Iv T w A S R m):0<(setN1 m).un∨∃ A' R',A≤A'∧Iv T w A' A' R' (setN1 m)∧(setN1 m).a.ln=[]∧(setN1 m).b.ln=[]∧(m.a.ln=[]→m.b.ln=[]→S=A→A<T.length→A<A'):=by
 obtain ⟨S',hS',h1,eb,hf⟩:=next_iv h
 have hdef:setN1 m=sendAgainN (timesN cmA (timesN cmB (sendNextN m).a.ln.length (sendNextN m)).b.ln.length (timesN cmB (sendNextN m).a.ln.length (sendNextN m))):=rfl
 have hun:(setN1 m).un=(timesN cmA (timesN cmB (sendNextN m).a.ln.length (sendNextN m)).b.ln.length (timesN cmB (sendNextN m).a.ln.length (sendNextN m))).un:=rfl
 rcases timesB_iv (sendNextN m).a.ln.length h1 with h2 | ⟨R2,_,h2,e2,_⟩
 ·exact Or.inl (by rw [hun];exact Int.lt_of_lt_of_le h2 (timesA_un _ _))
 ·rcases timesA_iv (timesN cmB (sendNextN m).a.ln.length (sendNextN m)).b.ln.length h2 with h3 | ⟨A3,S3,k1,h3,e3,e4⟩
  ·exact Or.inl (by rw [hun];exact h3)
  ·obtain ⟨h4,e5,e6⟩:=again_iv h3
   by_cases hz:(setN1 m).un=0
   ·refine Or.inr ?_
    have ea:(setN1 m).a.ln=[]:=by rw [hdef,e5,e3,e2,List.drop_length]
    have ebb:(setN1 m).b.ln=[]:=by rw [hdef,e6,e4,List.drop_length]
    by_cases hc:m.a.ln=[]∧m.b.ln=[]∧S=A∧A<T.length
    ·obtain ⟨c1,c2,c3,c4⟩:=hc
     obtain ⟨f,r,q1,q2,q3⟩:=hf c1 c3 c4
     have hk:(sendNextN m).a.ln.length=r.length+1:=by rw [q1,List.length_cons]
     have hb0:(sendNextN m).b.ln=[]:=by rw [eb,c2]
     have hw:=h.w1
     have har:=h.ar
     rw [hun,hk,times_front] at hz
     rw [hdef,hk,times_front] at ea ebb
     rw [hdef,hk,times_front]
     have u1:=timesA_un (timesN cmB r.length (cmB (sendNextN m))).b.ln.length (timesN cmB r.length (cmB (sendNextN m)))
     have u2:=timesB_un r.length (cmB (sendNextN m))
     rcases cmB_iv h1 with p | ⟨R1,_,p1,_,_,p3⟩
     ·omega
     ·obtain ⟨p4,c,hcc,p5,p6⟩:=p3 f r q1 q2 q3 c4
      rw [hb0] at p5
      rcases timesB_iv r.length p1 with p | ⟨R5,_,p7,_,X,p8⟩
      ·omega
      ·have p9:(timesN cmB r.length (cmB (sendNextN m))).b.ln=frameOfF (nbA c R1) :: X:=by rw [p8,p5];rfl
       rw [p9,List.length_cons,times_front] at u1 hz ea ebb ⊢
       have u3:=timesA_un X.length (cmA (timesN cmB r.length (cmB (sendNextN m))))
       rcases cmA_iv p7 with p | ⟨A6,S6,_,p10,_,_,p11⟩
       ·omega
       ·have hlt:=p11 c R1 X p9 hcc p4 (by rcases h.ar with ⟨x1,x2,x3⟩;omega)
        rcases timesA_iv X.length p10 with p | ⟨A7,S7,p12,p13,p14,p15⟩
        ·omega
        ·exact ⟨A7,R5,by omega,(again_iv p13).1,ea,ebb,fun _ _ _ _=>by omega⟩
    ·exact ⟨A3,R2,k1,h4,ea,ebb,fun c1 c2 c3 c4=>absurd ⟨c1,c2,c3,c4⟩ hc⟩
   ·have:=set_un m
    have:=h.un
    exact Or.inl (by omega)
theorem sets_un (k:Nat) (m:Nw):m.un≤(timesN setN1 k m).un:=by
 induction k with
 | zero=>exact Int.le_refl _
 | succ k ih=>exact Int.le_trans ih (set_un _)
theorem sets_iv (h:Iv T w A S R m) (k:Nat):0<(timesN setN1 (k+1) m).un∨∃ A' R',min k T.length≤A'∧Iv T w A' A' R' (timesN setN1 (k+1) m)∧(timesN setN1 (k+1) m).a.ln=[]∧(timesN setN1 (k+1) m).b.ln=[]:=by
 induction k with
 | zero =>
  rcases set_iv h with h1 | ⟨A',R',_,h1,h2,h3,_⟩
  ·exact Or.inl h1
  ·exact Or.inr ⟨A',R',by omega,h1,h2,h3⟩
 | succ k ih =>
  rcases ih with h1 | ⟨A1,R1,k1,h1,k2,k3⟩
  ·exact Or.inl (Int.lt_of_lt_of_le h1 (set_un _))
  ·rcases set_iv h1 with h2 | ⟨A2,R2,j1,h2,j2,j3,j4⟩
   ·exact Or.inl h2
   ·refine Or.inr ⟨A2,R2,?_,h2,j2,j3⟩
    have h5:=h1.sx
    by_cases hA:A1<T.length
    ·have:=j4 k2 k3 rfl hA
     omega
    ·omega
end
theorem start_iv {T:List ByteArray} {wi:Int} (hw:winOk wi=true) (hq:qOk T=true):Iv T wi.toNat 0 0 0 ⟨nl0 wi T,nl0 wi [],0,0⟩:=by
 have h1:=winOk_iff hw
 have e:lpNew wi=⟨(wi.toNat:Int),0,0,0,false⟩:=by
  unfold lpNew
  rw [if_pos hw,show ((wi.toNat:Nat):Int)=wi by omega]
 refine ⟨⟨0,0,0,nl0_ok hw hq,nl0_ok hw (by decide),⟨Int.le_refl _,Int.le_refl _⟩,⟨Int.le_refl _,Int.le_refl _⟩⟩,by omega,hq,e,rfl,⟨false,e⟩,rfl,rfl,by omega,by omega,LaOk.nil _ _ _ _,LbOk.nil _ _,⟨rfl,rfl⟩,⟨rfl,rfl⟩,rfl⟩
theorem line_law {T:List ByteArray} {wi:Int} (hw:winOk wi=true) (hq:qOk T=true) (L:List Int) (st:Bool) (hu:¬ 0<(lineN T wi L true).un) :
  (lineN T wi L true).a.Q.length=0∧(lineN T wi L true).b.gt=T∧∃ k,k≤T.length∧(lineN T wi L st).b.gt=T.take k∧((lineN T wi L st).a.Q.length=0→k=T.length):=by
 have h0:=start_iv hw hq
 have e:lineN T wi L true=timesN setN1 100 (L.foldl evN ⟨nl0 wi T,nl0 wi [],0,0⟩):=rfl
 have hl:=(qOk_all hq).1
 have full:(lineN T wi L true).a.Q.length=0∧(lineN T wi L true).b.gt=T:=by
  rcases fold_iv L h0 with h1 | ⟨A1,S1,R1,h1⟩
  ·exact absurd (Int.lt_of_lt_of_le h1 (sets_un 100 _)) hu
  ·rcases sets_iv h1 99 with h2 | ⟨A2,R2,k1,h2,_,_⟩
   ·exact absurd h2 hu
   ·have h3:=h2.sx
    have h4:=h2.ar
    rw [e]
    refine ⟨by rw [h2.qa,List.length_drop];omega,by rw [h2.gb,List.take_of_length_le (by omega)]⟩
 refine ⟨full.1,full.2,?_⟩
 cases st
 ·have ef:lineN T wi L false=L.foldl evN ⟨nl0 wi T,nl0 wi [],0,0⟩:=rfl
  rcases fold_iv L h0 with h1 | ⟨A1,S1,R1,h1⟩
  ·exact absurd (Int.lt_of_lt_of_le h1 (sets_un 100 _)) hu
  ·have h3:=h1.sx
   have h4:=h1.ar
   refine ⟨R1,h4.2.2,by rw [ef];exact h1.gb,fun hz=>?_⟩
   rw [ef,h1.qa,List.length_drop] at hz
   omega
 ·exact ⟨T.length,Nat.le_refl _,by rw [full.2,List.take_length],fun _=>rfl⟩
end Go.Proofs.YtkcghhkkepndnaaGreatDoor
namespace Go.Proofs.YtkcghhkkepndnaaGreatDoor
open Go.RowKit
structure Dv (w W:World) (sl:Value) (m:Nat) (v:Value) (T:List ByteArray) (u:Value) (L:List Int):Prop where
  s:Src W w.heap.size sl m
  t:W.ownsRow (w.heap.size+1) 9 1 v T.length (scells T)
  l:W.ownsRow (w.heap.size+1) 2 1 u L.length (icells L)
  g:Below w.heap.size w W
  R:∀ e ∈ L,e≤9223372036854775807
theorem Dv.nigh {w W W':World} {sl:Value} {m:Nat} {v:Value} {T:List ByteArray} {u:Value} {L:List Int} (h:Dv w W sl m v T u L) (hs:Src W' w.heap.size sl m) (hn:Nigh w.heap.size W W'):Dv w W' sl m v T u L :=
  ⟨hs,own_blk h.t fun g _ hv hg=>hn.block g (Array.getElem?_eq_some_iff.1 hg).1 (by have:=(own_typ h.t g hv).1;omega),own_blk h.l fun g _ hv hg=>hn.block g (Array.getElem?_eq_some_iff.1 hg).1 (by have:=(own_typ h.l g hv).1;omega),h.g.trans (hn.below (Nat.le_of_lt h.s.lt)),h.R⟩
theorem Dv.touch {w W W':World} {sl:Value} {m:Nat} {v:Value} {T:List ByteArray} {u:Value} {L:List Int} (h:Dv w W sl m v T u L) (hs:Src W' w.heap.size sl m) (ht:Touch w.heap.size W W'):Dv w W' sl m v T u L:=h.nigh hs (Nigh.of_touch ht)
theorem Dv.alloc {w W:World} {sl:Value} {m:Nat} {v:Value} {T:List ByteArray} {u:Value} {L:List Int} (h:Dv w W sl m v T u L) (o:Obj):Dv w (W.alloc o) sl m v T u L :=
  h.nigh (h.s.same (Below.heap_alloc _ _ _ h.s.lt)) ((Nigh.refl _ _).alloc _)
theorem Dv.size {w W:World} {sl:Value} {m:Nat} {v:Value} {T:List ByteArray} {u:Value} {L:List Int} (h:Dv w W sl m v T u L):w.heap.size+1≤W.heap.size:=h.s.lt
theorem Dv.setT {w W W':World} {sl:Value} {m:Nat} {v v':Value} {T T':List ByteArray} {u:Value} {L:List Int} (h:Dv w W sl m v T u L) (ho:W'.ownsRow (w.heap.size+1) 9 1 v' T'.length (scells T')) (hg:W.grownBy W' v.ownBlock):Dv w W' sl m v' T' u L:=by
  have hv:∀ q,v.ownBlock=some q→w.heap.size+1≤q:=fun q hq=>(own_typ h.t q hq).1
  refine ⟨h.s.same (hg.block _ h.s.lt fun e=>by have:=hv _ e.symm;omega),ho,own_blk h.l fun g cur _ hgg=>hg.block g (Array.getElem?_eq_some_iff.1 hgg).1 fun e=>?_,h.g.grown hg h.g.size (fun q hq=>by have:=hv q hq;omega),h.R⟩
  obtain ⟨_,_,c,hc⟩:=own_typ h.t g e.symm
  exact typ_ne hgg hc (by decide) rfl
theorem Dv.setL {w W W':World} {sl:Value} {m:Nat} {v:Value} {T:List ByteArray} {u u':Value} {L:List Int} {x:Int} (h:Dv w W sl m v T u L) (ho:W'.ownsRow (w.heap.size+1) 2 1 u' (L ++ [x]).length (icells (L ++ [x]))) (hg:W.grownBy W' u.ownBlock) (hx:x≤9223372036854775807):Dv w W' sl m v T u' (L ++ [x]):=by
  have hv:∀ q,u.ownBlock=some q→w.heap.size+1≤q:=fun q hq=>(own_typ h.l q hq).1
  refine ⟨h.s.same (hg.block _ h.s.lt fun e=>by have:=hv _ e.symm;omega),own_blk h.t fun g cur _ hgg=>hg.block g (Array.getElem?_eq_some_iff.1 hgg).1 fun e=>?_,ho,h.g.grown hg h.g.size (fun q hq=>by have:=hv q hq;omega),fun e he=>?_⟩
  · obtain ⟨_,_,c,hc⟩:=own_typ h.l g e.symm
    exact typ_ne hgg hc (by decide) rfl
  · rcases List.mem_append.1 he with he | he
    · exact h.R e he
    · rw [List.mem_singleton.1 he];exact hx
theorem Dv.cell3 {w W:World} {sl:Value} {m:Nat} {v:Value} {T:List ByteArray} {u:Value} {L:List Int} (h:Dv w W sl m v T u L):∃ z:Nat,z≤12∧W.cell? ⟨w.heap.size,3,none⟩=some (.int .i64 (z:Int)):=by
  obtain ⟨p,q,z,_,_,hz,hr⟩:=h.s
  exact ⟨z,hz,by rw [cell_of_row _ _ _ _ _ _ hr];rfl⟩
theorem made_zeroL (n:Nat):(madeCells (Value.int .u8 0).cells (n*1)).toList=(List.replicate n (0:Int)).map (Value.int .u8):=by
  apply List.ext_getElem
  · simp [madeCells,Value.cells]
  · intro i h1 h2
    simp [madeCells,Value.cells,Nat.mod_one]
set_option maxHeartbeats 8000000 in
set_option maxRecDepth 100000 in
theorem drawLi (w:World) (sl:Value) (m:Nat) (hn:m≤maxLen) (hD:Dat w w.heap.size sl m) :
    Calls Tryz.prog 5 #[sl] w fun e w'=>∃ (v:Value) (T:List ByteArray) (x:Int) (u:Value) (L:List Int) (st:Bool),e=.returned (.tuple #[v,.int .i64 x,u,.bool st])∧T.length≤20∧L.length≤100∧Dv w w' sl m v T u L:=by
  have DB:Hid (∀ W,Below w.heap.size w W→Dat W w.heap.size sl m):=hide fun W h=>hD.below h
  have C1:=hide (src_new w sl m hn hD)
  clear hD
  go_enter Tryz.func5,Tryz.ntmps5
  go_wp2_with fail
  refine (uh C1).mono ?_
  rintro e w1 ⟨rfl,hS1,hb1⟩
  have H1:Hid (Dv w (w1.alloc (.cells #[] 9)) sl m (.slice (some ⟨w1.heap.size,0,none⟩) 0 0) [] (.slice none 0 0) []):=hide
    ⟨hS1.same (Below.heap_alloc _ _ _ hS1.lt),World.ownsRow_lit w1 #[] 0 hS1.lt (Nat.zero_le _) rfl,World.ownsRow_nil _ _ _ _,hb1.alloc hb1.size _,fun _ h=>(by cases h)⟩
  clear hS1 hb1 C1
  go_upto_region 3 with fail
  generalize w1.alloc (.cells #[] 9)=w2 at H1 ⊢
  generalize (some ⟨w1.heap.size,0,none⟩:Option Addr)=p0 at H1 ⊢
  have c:=hide (src_n _ w.heap.size sl m 8 (by decide) hn (uh H1).s (uh DB _ (uh H1).g))
  go_wp2_with fail
  refine (uh c).mono ?_
  rintro e w3 ⟨r,rfl,hr,hS3,ht3⟩
  have H3:=hide ((uh H1).touch hS3 ht3)
  have hr8:r≤7:=by omega
  clear hS3 ht3 hr c H1
  go_wp2_with fail
  go_loopw [7,8] (fun v k wr=>∃ (j:Nat) (T:List ByteArray) (la:Option Addr) (lc:Nat),j≤r+1∧k=.int .i64 ((r:Int) - (j:Int))∧v=.slice la j lc∧T.length=j∧Dv w wr sl m (.slice la j lc) T (.slice none 0 0) []) (fun _ k _=>(intOf k+1).toNat)
  case atStart=>exact ⟨0,[],p0,0,Nat.zero_le _,by simp,rfl,rfl,uh H3⟩
  case round =>
    rename World=>wr
    obtain ⟨j,T,la,lc,hj,rfl,rfl,hT,hv⟩:=hrel
    clear H3
    by_cases hlt:j≤r
    · obtain ⟨q,hq⟩:∃ q:Nat,(r:Int) - (j:Int)=(q:Int):=⟨r - j,by omega⟩
      have hq7:q≤7:=by omega
      have HQ:=hide hq
      rw [hq]
      have d1:(0:Int)≤(q:Int):=by omega
      have HTL:=hide hT
      have c:=hide (src_n _ w.heap.size sl m 5 (by decide) hn hv.s (uh DB _ hv.g))
      have HV:=hide hv
      clear hv hq hT
      go_wp2_with fail
      refine (uh c).mono ?_
      rintro e w4 ⟨r5,rfl,hr5,hS4,ht4⟩
      have H4:=hide ((uh HV).touch hS4 ht4)
      have hr5':r5<100000:=by omega
      clear hS4 ht4 hr5 c HV
      have c2:=hide (src_odd_n _ w.heap.size sl m r5 hr5' hn (uh H4).s (uh DB _ (uh H4).g))
      go_wp2_with fail
      refine (uh c2).mono ?_
      rintro e w5 ⟨t,rfl,_,hS5,hn5⟩
      have H5:=hide ((uh H4).nigh hS5 hn5)
      clear hS5 hn5 c2 H4
      go_wp2_with (first
        | (at_builtin;refine append_txt rfl _ _ rfl (w.heap.size+1) (.slice la j lc) T j (uh HTL) rfl (by rw [← uh HTL];have h:=(uh H5).t;rw [uh HTL] at h ⊢;exact h) t rfl (by omega) (uh H5).size ?_
           rintro v6 w6 ho6 hg6
           obtain ⟨a6,c6,rfl⟩:=own_form ho6
           have H6:=hide (((uh H5).alloc _).setT (T':=T ++ [t]) (by rw [List.length_append,uh HTL];exact ho6) hg6)
           clear ho6 hg6 H5))
      go_roundw
      case rel =>
        refine ⟨j+1,T ++ [t],a6,c6,by omega,?_,rfl,by rw [List.length_append,uh HTL];rfl,uh H6⟩
        have:=uh HQ
        first
          | exact congrArg (Value.int .i64) (by omega)
          | (simp only [wrap64];exact congrArg (Value.int .i64) (by omega))
      case measure=>simp [intOf]<;>omega
    · have e:j=r+1:=by omega
      subst e
      have eq1:(r:Int) - ((r+1:Nat):Int)=-1:=by omega
      rw [eq1]
      have d1:¬ ((0:Int)≤-1):=by decide
      have HV:=hide hv
      have HTL:=hide hT
      have c:=hide (src_one _ w.heap.size sl m 15 (by decide) hn hv.s (uh DB _ hv.g))
      obtain ⟨j,hj1⟩:∃ j,r+1=j:=⟨_,rfl⟩
      rw [hj1] at HV HTL ⊢
      have hj8:j≤8:=by omega
      clear hv hT hj hj1 hlt eq1
      go_wp2_with fail
      refine (uh c).mono ?_
      rintro e w4 ⟨b,rfl,hS4,ht4⟩
      have H4:=hide ((uh HV).touch hS4 ht4)
      clear hS4 ht4 c HV
      go_upto_if 30 with fail
      go_cut [7] (fun v wx=>∃ (T:List ByteArray) (la:Option Addr) (n lc:Nat),v=.slice la n lc∧T.length=n∧n≤9∧Dv w wx sl m (.slice la n lc) T (.slice none 0 0) [])
      case first =>
        cases b
        · go_wp2_with fail
          go_meet
          exact ⟨T,la,j,lc,rfl,uh HTL,by omega,uh H4⟩
        · have c:=hide (src_n _ w.heap.size sl m 2 (by decide) hn (uh H4).s (uh DB _ (uh H4).g))
          go_wp2_with fail
          refine (uh c).mono ?_
          rintro e w8 ⟨r8,rfl,hr8,hS8,ht8⟩
          have hr8':r8<2:=by omega
          have H8:=hide ((uh H4).touch hS8 ht8)
          clear hr8 hS8 ht8 c H4
          obtain ⟨ui,hi1,hi2,hi3,hi4⟩:=u8info
          go_wp2_with (first
            | (at_make;refine wpList_make_full w8 rfl _ _ 22 rfl w8.heap.size 5 ui (.int .u8 0) 1 Tryz.underlying22 hi1 hi2 hi3 .i64 .i64 _ _ (200+r8) rfl rfl (by go_num) (by go_num) (by rw [hi4];omega) (by unfold maxLen;omega) (Nat.le_refl _) ?_
               rintro w9 ho9 hg9
               rw [made_zeroL] at ho9
               have hcv:=conv_own ho9
               have hb9:Below w8.heap.size w8 w9:=(Below.refl _ _).grown hg9 (Nat.le_refl _) (fun k hk=>by cases hk)
               have H9:=hide ((uh H8).nigh ((uh H8).s.same (hb9.block _ (uh H8).s.lt)) (Nigh.of_below hb9))
               clear ho9 hg9 hb9 H8)
            | (at_builtin;refine append_txt rfl _ _ rfl (w.heap.size+1) (.slice la j lc) T j (uh HTL) rfl (by rw [← uh HTL];have h:=(uh H9).t;rw [uh HTL] at h ⊢;exact h) (strOfNums (List.replicate (200+r8) 0)) rfl (by omega) (uh H9).size ?_
               rintro v6 w6 ho6 hg6
               obtain ⟨a6,c6,rfl⟩:=own_form ho6
               have H6:=hide (((uh H9).alloc _).setT (T':=T ++ [strOfNums (List.replicate (200+r8) 0)]) (by rw [List.length_append,uh HTL];exact ho6) hg6)
               clear ho6 hg6 H9))
          go_meet
          exact ⟨_,a6,j+1,c6,rfl,by rw [List.length_append,uh HTL];rfl,by omega,uh H6⟩
      case rest =>
        clear H4 HTL hj8
        obtain ⟨T,la,n,lc,rfl,hT,hn9,hv⟩:=hcut
        rename World=>w10
        have HTL:=hide hT
        have HV:=hide hv
        clear hv hT
        have c:=hide (src_n _ w.heap.size sl m 7 (by decide) hn (uh HV).s (uh DB _ (uh HV).g))
        go_wp2_with fail
        refine (uh c).mono ?_
        rintro e w11 ⟨r7,rfl,hr7,hS11,ht11⟩
        have hr7':r7<7:=by omega
        have H11:=hide ((uh HV).touch hS11 ht11)
        clear hr7 hS11 ht11 c HV
        have c:=hide (src_one _ w.heap.size sl m 15 (by decide) hn (uh H11).s (uh DB _ (uh H11).g))
        go_wp2_with fail
        refine (uh c).mono ?_
        rintro e w12 ⟨b,rfl,hS12,ht12⟩
        have H12:=hide ((uh H11).touch hS12 ht12)
        clear hS12 ht12 c H11
        go_upto_if 43 with fail
        go_cut [9] (fun v wx=>∃ x:Int,v=.int .i64 x∧Dv w wx sl m (.slice la n lc) T (.slice none 0 0) [])
        case first =>
          cases b
          · go_wp2_with fail
            go_meet
            exact ⟨_,rfl,uh H12⟩
          · have c:=hide (src_edge_n _ w.heap.size sl m hn (uh H12).s (uh DB _ (uh H12).g))
            go_wp2_with fail
            refine (uh c).mono ?_
            rintro e w13 ⟨x,rfl,_,_,hS13,hn13⟩
            have H13:=hide ((uh H12).nigh hS13 hn13)
            clear hS13 hn13 c H12
            go_wp2_with fail
            go_meet
            exact ⟨_,rfl,uh H13⟩
        case rest =>
          clear H12
          obtain ⟨x,rfl,hv⟩:=hcut
          rename World=>w14
          have hvd:=hv.alloc (.cells #[] 2)
          have H15:Hid (Dv w (w14.alloc (.cells #[] 2)) sl m (.slice la n lc) T (.slice (some ⟨w14.heap.size,0,none⟩) 0 0) []):=hide ⟨hvd.s,hvd.t,World.ownsRow_lit w14 #[] 0 hv.size (Nat.zero_le _) rfl,hvd.g,fun _ h=>(by cases h)⟩
          clear hvd hv
          go_upto_region 13 with fail
          generalize w14.alloc (.cells #[] 2)=w15 at H15 ⊢
          generalize (some ⟨w14.heap.size,0,none⟩:Option Addr)=p1 at H15 ⊢
          obtain ⟨z,hz,c3⟩:=(uh H15).cell3
          have c:=src_n _ w.heap.size sl m (20+4*z) (by omega) hn (uh H15).s (uh DB _ (uh H15).g)
          have e1:((20+4*z:Nat):Int)=20+4*(z:Int):=by omega
          rw [e1] at c
          have HC:=hide c
          clear c e1
          go_wp2_with fail
          refine (uh HC).mono ?_
          rintro e w16 ⟨k0,rfl,hk0,hS16,ht16⟩
          have hk:k0≤67:=by omega
          have H16:=hide ((uh H15).touch hS16 ht16)
          clear hk0 hS16 ht16 HC c3 hz H15
          go_wp2_with fail
          go_loopw [10,11] (fun u k wr=>∃ (j:Nat) (L:List Int) (ya:Option Addr) (yc:Nat),j≤k0∧k=.int .i64 ((k0 - j:Nat):Int)∧u=.slice ya j yc∧L.length=j∧Dv w wr sl m (.slice la n lc) T (.slice ya j yc) L) (fun _ k _=>(intOf k).toNat)
          case atStart=>exact ⟨0,[],p1,0,Nat.zero_le _,by simp,rfl,rfl,uh H16⟩
          case round =>
            rename World=>w17
            obtain ⟨j,L,ya,yc,hj,rfl,rfl,hL,hv⟩:=hrel
            clear H16
            by_cases hlt:j<k0
            · obtain ⟨q,hq⟩:∃ q:Nat,k0 - j=q:=⟨_,rfl⟩
              have HQ:=hide hq
              have hq0:0<q:=by omega
              have hq67:q≤67:=by omega
              rw [hq]
              have d1:(0:Int)<(q:Int):=by omega
              have HLL:=hide hL
              have HV:=hide (hv.alloc (.cells #[.int .i64 0,.int .i64 0,.int .i64 1,.int .i64 1,.int .i64 1,.int .i64 1,.int .i64 2,.int .i64 3,.int .i64 5,.int .i64 5,.int .i64 5,.int .i64 6,.int .i64 7] 2))
              have hBw:=hv.size
              have c:=hide (src_n _ w.heap.size sl m 13 (by decide) hn (uh HV).s (uh DB _ (uh HV).g))
              clear hv hq hL
              go_wp2_with fail
              refine (uh c).mono ?_
              rintro e w18 ⟨ri,rfl,hri,hS18,ht18⟩
              have hri':ri<13:=by omega
              obtain ⟨y,hy,hy1,hy2⟩:=lit_cell ((ht18.block w17.heap.size (by omega)).trans (heap_alloc_last w17 _)) (by decide) ri (by simpa using hri')
              have H18:=hide ((uh HV).touch hS18 ht18)
              clear hri hS18 ht18 c HV
              have c:=hide (src_one _ w.heap.size sl m 12 (by decide) hn (uh H18).s (uh DB _ (uh H18).g))
              go_wp2_with fail
              refine (uh c).mono ?_
              rintro e w19 ⟨b,rfl,hS19,ht19⟩
              have H19:=hide ((uh H18).touch hS19 ht19)
              clear hS19 ht19 c H18 hy
              go_upto_if 65 with fail
              go_cut [12] (fun v wx=>∃ y:Int,v=.int .i64 y∧y≤9223372036854775807∧Dv w wx sl m (.slice la n lc) T (.slice ya j yc) L)
              case first =>
                cases b
                · go_wp2_with fail
                  go_meet
                  exact ⟨_,rfl,hy2,uh H19⟩
                · have c:=hide (src_n _ w.heap.size sl m 300 (by decide) hn (uh H19).s (uh DB _ (uh H19).g))
                  go_wp2_with fail
                  refine (uh c).mono ?_
                  rintro e w20 ⟨r3,rfl,hr3,hS20,ht20⟩
                  have hr3':r3<300:=by omega
                  have H20:=hide ((uh H19).touch hS20 ht20)
                  clear hr3 hS20 ht20 c H19
                  go_wp2_with fail
                  go_meet
                  exact ⟨_,rfl,by omega,uh H20⟩
              case rest =>
                clear H19 hy1 hy2
                obtain ⟨y,rfl,hy2,hv⟩:=hcut
                rename World=>w21
                have c:=hide (src_one _ w.heap.size sl m 40 (by decide) hn hv.s (uh DB _ hv.g))
                have HV:=hide hv
                clear hv
                go_wp2_with fail
                refine (uh c).mono ?_
                rintro e w22 ⟨b2,rfl,hS22,ht22⟩
                have H22:=hide ((uh HV).touch hS22 ht22)
                clear hS22 ht22 c HV
                go_upto_if 71 with fail
                go_cut [12] (fun v wx=>∃ y:Int,v=.int .i64 y∧y≤9223372036854775807∧Dv w wx sl m (.slice la n lc) T (.slice ya j yc) L)
                case first =>
                  cases b2
                  · go_wp2_with fail
                    go_meet
                    exact ⟨_,rfl,hy2,uh H22⟩
                  · have c:=hide (src_edge_n _ w.heap.size sl m hn (uh H22).s (uh DB _ (uh H22).g))
                    go_wp2_with fail
                    refine (uh c).mono ?_
                    rintro e w23 ⟨y3,rfl,_,hy3,hS23,hn23⟩
                    have H23:=hide ((uh H22).nigh hS23 hn23)
                    clear hS23 hn23 c H22
                    go_wp2_with fail
                    go_meet
                    exact ⟨_,rfl,hy3,uh H23⟩
                case rest =>
                  clear H22 hy2
                  obtain ⟨y,rfl,hy2,hv⟩:=hcut
                  rename World=>w24
                  have HV:=hide hv
                  clear hv
                  go_wp2_with (first
                    | (at_builtin;refine append_int rfl _ _ rfl (w.heap.size+1) (.slice ya j yc) L j (uh HLL) rfl (by rw [← uh HLL];have h:=(uh HV).l;rw [uh HLL] at h ⊢;exact h) y rfl (by omega) (uh HV).size ?_
                       rintro v6 w6 ho6 hg6
                       obtain ⟨a6,c6,rfl⟩:=own_form ho6
                       have H6:=hide (((uh HV).alloc _).setL (x:=y) (by rw [List.length_append,uh HLL];exact ho6) hg6 hy2)
                       clear ho6 hg6 HV))
                  go_roundw
                  case rel =>
                    refine ⟨j+1,L ++ [y],a6,c6,by omega,?_,rfl,by rw [List.length_append,uh HLL];rfl,uh H6⟩
                    have:=uh HQ
                    exact congrArg (Value.int .i64) (by omega)
                  case measure=>simp [intOf]<;>omega
            · have e:j=k0:=by omega
              subst e
              have d1:¬ ((0:Int)<((j - j:Nat):Int)):=by omega
              have c:=hide (src_one _ w.heap.size sl m 2 (by decide) hn hv.s (uh DB _ hv.g))
              have HV:=hide hv
              have HLL:=hide hL
              clear hv hL hlt hj
              go_wp2_with fail
              refine (uh c).mono ?_
              rintro e w25 ⟨st,rfl,hS25,ht25⟩
              have H25:=hide ((uh HV).touch hS25 ht25)
              clear hS25 ht25 c HV
              go_wp2_with fail
              refine bodyPost_ret (v:=.tuple #[.slice la n lc,.int .i64 x,.slice ya j yc,.bool st]) (by simp [results,Tryz.results5]) rfl ⟨_,T,x,_,L,st,rfl,by rw [uh HTL];omega,by rw [uh HLL];omega,uh H25⟩
end Go.Proofs.YtkcghhkkepndnaaGreatDoor
