/- FmD FmE FmF FmG FmH SrcNigh IvR Bytes -/
import Derived.Test.YtjdgiimfpkideaaGreatDoorS37
namespace Go.Proofs.YtjdgiimfpkideaaGreatDoor
open Go.RowKit Go.Proofs.Tryz
variable {x c0 cx cy ax ay:Cf} {a b n G B:Nat} {p:Op.Pk} {c:Cx} {α β:Type} {o:EO} {L F1 F2:List Op.Opt} {cd k i kx ky:Int} {e e':En} {z:Bool} {rp:List Op.Pk} {w w':World} {v:Value}
theorem Fg(l:List (Int × Op.Opt))(m:Int)(h:2<=m):l.foldl (fun m v=>max m v.1) m=max m (l.foldl (fun m v=>max m v.1) 2):=by
 induction l generalizing m with
 | nil=>simp only[List.foldl_nil];omega
 | cons v l ih =>
  simp only[List.foldl_cons];rw[ih (max m v.1) (by omega),ih (max 2 v.1) (by omega)];omega
theorem Fh(l r:List (Int × Op.Opt)):mx (l++r)=max (mx l) (mx r):=by
 unfold mx;rw[List.foldl_append,Fg];exact(oG l 2).1
theorem Fi(k:Int)(l r:List (Int × Op.Opt)):fl k (l++r)=fl k l++fl k r:=by
 unfold fl;rw[List.filter_append,List.map_append]
def yo(y:Ye)(G:Nat)(x:Cf):Bool:=oS y x||pG G x||pl y x
def y_(y:Ye)(x:Cf):Bool:=x.p && !y.p
def zc(y:Ye)(x:Cf):Bool:=x.c && !y.c
def Bd(b:Bool)(o:Op.Opt):List Op.Opt:=if b=true then[o]else[]
theorem Cu{y:Ye}{x:Cf}(h:oS y x=true):((x.a:Int) != 4294967295)=true:=by
 unfold oS at h;exact(zK _ _▸h).1
theorem Cv{G:Nat}{x:Cf}(h:pG G x=true):((x.g:Int) != 0)=true:=by
 unfold pG at h;exact(zK _ _▸h).1
theorem DE(b q:Bool)(k:Int)(hk:k=3\/k=4)(u v:Op.Opt)(h:q=true->b=true):mx (Bw b (if q=true then(k,u)else(2,v)))=(if q=true then k else 2) /\
  fl k (Bw b (if q=true then(k,u)else(2,v)))=Bd q u/\(∀j,j≠k->j≠2->fl j (Bw b (if q=true then(k,u)else(2,v)))=[])/\(q=false->fl 2 (Bw b (if q=true then(k,u)else(2,v)))=Bd b v):=by
 cases q
 .cases b
  .exact ⟨rfl,rfl,fun _ _ _=>rfl,fun _=>rfl⟩
  .rcases hk with rfl|rfl
   .exact ⟨rfl,rfl,fun j _ h2=>by
     show fl j [((2:Int),v)]=[]
     unfold fl;rw[List.filter_cons_of_neg (by simpa using fun e=>h2 e.symm)];rfl,fun _=>rfl⟩
   .exact ⟨rfl,rfl,fun j _ h2=>by
     show fl j [((2:Int),v)]=[]
     unfold fl;rw[List.filter_cons_of_neg (by simpa using fun e=>h2 e.symm)];rfl,fun _=>rfl⟩
 .obtain rfl:=h rfl;rcases hk with rfl|rfl
  .exact ⟨rfl,rfl,fun j h1 _=>by
    show fl j [((3:Int),u)]=[]
    unfold fl;rw[List.filter_cons_of_neg (by simpa using fun e=>h1 e.symm)];rfl,fun hq=>by cases hq⟩
  .exact ⟨rfl,rfl,fun j h1 _=>by
    show fl j [((4:Int),u)]=[]
    unfold fl;rw[List.filter_cons_of_neg (by simpa using fun e=>h1 e.symm)];rfl,fun hq=>by cases hq⟩
theorem Ca(x y:Bool)(k:Int)(u v:Op.Opt):Bw x (if y=true then(2,v)else(k,u))=Bw x (if(x && !y)=true then(k,u)else(2,v)):=by
 cases x<;>cases y<;>rfl
theorem Be(y:Ye)(G:Nat)(h:sw x=true):mx (b_ y.m y.a G y.p y.c y.d (jD x))=(if tT y x=true then 4 else if yo y G x=true then 3 else 2) /\
  fl 4 (b_ y.m y.a G y.p y.c y.d (jD x))=Bd (y_ y x) ⟨7,⟨#[]⟩⟩++Bd (zc y x) ⟨8,⟨#[]⟩⟩ /\
  fl 3 (b_ y.m y.a G y.p y.c y.d (jD x))=Bd (oS y x) ⟨2,cK (x.a ||| y.a)⟩++(Bd (pG G x) ⟨5,cK (fv G)⟩++Bd (pl y x) ⟨9,fu 2⟩) /\
  (tT y x=false->yo y G x=false->fl 2 (b_ y.m y.a G y.p y.c y.d (jD x))=jD x):=by
 rw[DA y G h];have p1:mx (Bw ((x.m:Int) != 300) ((2:Int),(⟨1,ji x.m⟩:Op.Opt)))=2/\(∀j,j≠2->fl j (Bw ((x.m:Int) != 300) ((2:Int),(⟨1,ji x.m⟩:Op.Opt)))=[])/\fl 2 (Bw ((x.m:Int) != 300) ((2:Int),(⟨1,ji x.m⟩:Op.Opt)))=c_ ((x.m:Int) != 300) 1 (ji x.m):=by
  cases((x.m:Int) != 300)
  .exact ⟨rfl,fun _ _=>rfl,rfl⟩
  .exact ⟨rfl,fun j hj=>by
    show fl j [((2:Int),_)]=[]
    unfold fl;rw[List.filter_cons_of_neg (by simpa using fun e=>hj e.symm)];rfl,rfl⟩
 have p2:=DE ((x.a:Int) != 4294967295) (oS y x) 3 (Or.inl rfl) ⟨2,cK (x.a ||| y.a)⟩ ⟨2,cK x.a⟩ Cu;have p3:=DE ((x.g:Int) != 0) (pG G x) 3 (Or.inl rfl) ⟨5,cK (fv G)⟩ ⟨5,cK x.g⟩ Cv;have q4:=DE x.p (y_ y x) 4 (Or.inr rfl) ⟨7,⟨#[]⟩⟩ ⟨7,⟨#[]⟩⟩ (fun h=>(zK _ _▸h:x.p=true/\(!y.p)=true).1);have q5:=DE x.c (zc y x) 4 (Or.inr rfl) ⟨8,⟨#[]⟩⟩ ⟨8,⟨#[]⟩⟩ (fun h=>(zK _ _▸h:x.c=true/\(!y.c)=true).1);have q6:=DE x.d (pl y x) 3 (Or.inl rfl) ⟨9,fu 2⟩ ⟨9,fu 4⟩ (fun h=>(zK _ _▸h:x.d=true/\(!y.d)=true).1);rw[Ca x.p y.p 4,Ca x.c y.c 4,Ca x.d y.d 3];change mx _=_/\_
 simp only[Fh,Fi];refine⟨?_,?_,?_,?_⟩
 .rw [p1.1,p2.1,p3.1];have e4:=q4.1;have e5:=q5.1;have e6:=q6.1;unfold y_ at e4;unfold zc at e5;unfold pl at e6;rw[e4,e5,e6];unfold tT yo pl;generalize oS y x=ab;generalize pG G x=gb;generalize (x.p && !y.p)=pb;generalize (x.c && !y.c)=cb;generalize (x.d && !y.d)=db;cases ab<;>cases gb<;>cases pb<;>cases cb<;>cases db<;>rfl
 .rw [p1.2.1 4 (by decide),p2.2.2.1 4 (by decide) (by decide),p3.2.2.1 4 (by decide) (by decide)];have e4:=q4.2.1;have e5:=q5.2.1;have e6:=q6.2.2.1 4 (by decide) (by decide);unfold y_ at e4;unfold zc at e5;unfold pl at e6;rw[e4,e5,e6,List.append_nil];rfl
 .rw [p1.2.1 3 (by decide),p2.2.1,p3.2.1];have e4:=q4.2.2.1 3 (by decide) (by decide);have e5:=q5.2.2.1 3 (by decide) (by decide);have e6:=q6.2.1;unfold y_ at e4;unfold zc at e5;unfold pl at e6;rw[e4,e5,e6];rfl
 .intro hr hn;unfold tT at hr;unfold yo at hn;simp only[Bool.or_eq_false_iff]at hr hn;have e4:=q4.2.2.2 hr.1;have e5:=q5.2.2.2 hr.2;have e6:=q6.2.2.2 hn.2;unfold y_ at e4;unfold zc at e5;unfold pl at e6;rw[p1.2.2,p2.2.2.2 hn.1.1,p3.2.2.2 hn.1.2,e4,e5,e6,Ac];rfl
def mh(y:Ye)(G:Nat)(fl:Int)(x:Cf):Int:=if tT y x=true then 4 else if yo y G x=true then(if fl=3 then 4 else 3)else 2
def pf(y:Ye)(G:Nat)(fl:Int)(x:Cf):Cf :=
 if tT y x=true then {x with p:=x.p&&y.p,c:=x.c&&y.c}
 else {x with a:=if oS y x=true then(if fl=3 then 4294967295 else x.a ||| y.a)else x.a,g:=if pG G x=true then(if fl=3 then 0 else fv G)else x.g,d:=x.d&&y.d}
def lj(e:En):Ye:=⟨e.m1.toNat,e.a1.toNat,e.p1,e.c1,e.d1⟩
theorem Ey(h1:a<4294967296)(h2:b<4294967296):a ||| b<4294967296:=Nat.or_lt_two_pow (n:=32) h1 h2
theorem DF{G:Nat}:fv G<4294967296:=by unfold fv;omega
theorem qZ{m g:Nat}{p c d:Bool}(h1:64<=m/\m<=300)(h2:a<4294967296)(h3:g<4294967296):sw ⟨m,a,g,p,c,d⟩=true:=by
 simp only[sw,aK,bh,zK,decide_eq_true_eq];omega
theorem tv(f:α->Op.Opt->α)(b:Bool)(o:Op.Opt)(x:α):(Bd b o).foldl f x=if b=true then f x o else x:=by cases b<;>rfl
theorem C_(h:sw x=true)(hn:n<4294967296):fN x ⟨2,cK n⟩={x with a:=n}:=by
 have hb:=ux h;show li (aD 2 x (da (cK n).data.toList)) x=_
 rw[pj hn];show(if sw {x with a:=n}=true then {x with a:=n} else x)=_
 rw[if_pos (qZ ⟨hb.1,hb.2.1⟩ hn hb.2.2.2)]
theorem Bf(h:sw x=true)(hn:n<4294967296):fN x ⟨5,cK n⟩={x with g:=n}:=by
 have hb:=ux h;show li (aD 5 x (da (cK n).data.toList)) x=_
 rw[pj hn];show(if sw {x with g:=n}=true then {x with g:=n} else x)=_
 rw[if_pos (qZ ⟨hb.1,hb.2.1⟩ hb.2.2.1 hn)]
theorem zM(h:sw x=true):fN x ⟨9,fu 2⟩={x with d:=false}:=by
 have hb:=ux h;show li (aD 9 x (da (fu 2).data.toList)) x=_
 rw[BE];show(if sw {x with d:=x.d&&false}=true then {x with d:=x.d&&false} else x)=_
 rw[if_pos (qZ ⟨hb.1,hb.2.1⟩ hb.2.2.1 hb.2.2.2),Bool.and_false]
theorem BI(e:En)(h:sw x=true)(he:aK e.m1 e.a1 e.g2=true):(dI e (jD x)).1=mh (lj e) e.g2.toNat e.fl x /\
  (mh (lj e) e.g2.toNat e.fl x=2->(dI e (jD x)).2=jD x) /\
  (mh (lj e) e.g2.toNat e.fl x=3->bF x (dI e (jD x)).2=pf (lj e) e.g2.toNat e.fl x) /\
  (mh (lj e) e.g2.toNat e.fl x=4->gI x (dI e (jD x)).2=pf (lj e) e.g2.toNat e.fl x):=by
 have hb:=ux h;have hya:e.a1.toNat<4294967296:=by
  simp only[aK,bh,zK,decide_eq_true_eq]at he;omega
 have hr:Op.right (jD x)=true:=iP (jo {ag with m2:=x.m,a2:=x.a,g2:=x.g,p2:=x.p,c2:=x.c,d2:=x.d});obtain⟨r1,r2,r3,r4⟩:=Be (lj e) e.g2.toNat h;have hrep:ck e.m1 e.a1 e.g2 e.p1 e.c1 e.d1 (jD x)=(mx (b_ (lj e).m (lj e).a e.g2.toNat (lj e).p (lj e).c (lj e).d (jD x)),fl (mx (b_ (lj e).m (lj e).a e.g2.toNat (lj e).p (lj e).c (lj e).d (jD x))) (b_ (lj e).m (lj e).a e.g2.toNat (lj e).p (lj e).c (lj e).d (jD x))):=if_pos ⟨he,hr⟩;unfold dI;rw[hrep];generalize b_ (lj e).m (lj e).a e.g2.toNat (lj e).p (lj e).c (lj e).d (jD x)=V at*;have hya':(lj e).a<4294967296:=hya;generalize lj e=y at*;generalize e.g2.toNat=G at*;generalize e.fl=k at*;dsimp only;unfold mh pf;cases hrb:tT y x
 .rw [hrb]at r1;rw[if_neg (by decide)]at r1;cases hnb:yo y G x
  .rw [hnb]at r1;rw[if_neg (by decide)]at r1;rw[r1];exact⟨rfl,fun _=>r4 hrb hnb,fun h=>by simp at h,fun h=>by simp at h⟩
  .rw [hnb]at r1;rw[if_pos rfl]at r1;rw[r1,r3];by_cases hk:k=3
   .rw [if_pos ⟨rfl,hk⟩];simp only[hk,if_true];refine⟨rfl,fun h=>by simp at h,fun h=>by simp at h,fun _=>?_⟩;have hof:gX (jD x) (Bd (oS y x) ⟨2,cK (x.a ||| y.a)⟩++(Bd (pG G x) ⟨5,cK (fv G)⟩++Bd (pl y x) ⟨9,fu 2⟩))=Bd (oS y x) ⟨2,cK x.a⟩++(Bd (pG G x) ⟨5,cK x.g⟩++Bd (pl y x) ⟨9,fu 4⟩):=by
     unfold gX;rw[Ac];have ha:=@Cu y x;have hg:=@Cv G x;have hd:pl y x=true->x.d=true:=fun h=>(zK _ _▸h:x.d=true/\(!y.d)=true).1
     revert ha hg hd
     generalize oS y x=ab;generalize pG G x=gb;generalize pl y x=db;generalize ((x.a:Int) != 4294967295)=ba;generalize ((x.g:Int) != 0)=bg;generalize ((x.m:Int) != 300)=bm;generalize x.p=bp;generalize x.c=bc;generalize x.d=bd;intro ha hg hd;simp only[List.filter_append];have f1:∀(b:Bool)(t:ByteArray)(k:Int),k≠2->k≠5->k≠9->(c_ b k t).filter (fun o=>(Bd ab (⟨2,cK (x.a ||| y.a)⟩:Op.Opt)++(Bd gb ⟨5,cK (fv G)⟩++Bd db ⟨9,fu 2⟩)).any fun x=>x.kind==o.kind)=[]:=by
      intro b t k k2 k5 k9;cases b
      .rfl
      .show List.filter _ [_]=[]
       rw[List.filter_cons_of_neg]
       .rfl
       .simp only[List.any_append];cases ab<;>cases gb<;>cases db<;>simp[Bd,Ne.symm k2,Ne.symm k5,Ne.symm k9]
     rw[f1 bm _ 1 (by decide) (by decide) (by decide),f1 bp _ 7 (by decide) (by decide) (by decide),f1 bc _ 8 (by decide) (by decide) (by decide)];cases ba
     .have:ab=false:=by cases ab;rfl;exact absurd (ha rfl) (by decide)
      subst this;cases bg
      .have:gb=false:=by cases gb;rfl;exact absurd (hg rfl) (by decide)
       subst this;cases bd
       .have:db=false:=by cases db;rfl;exact absurd (hd rfl) (by decide)
        subst this;rfl
       .cases db<;>rfl
      .cases bd
       .have:db=false:=by cases db;rfl;exact absurd (hd rfl) (by decide)
        subst this;cases gb<;>rfl
       .cases gb<;>cases db<;>rfl
     .cases bg
      .have:gb=false:=by cases gb;rfl;exact absurd (hg rfl) (by decide)
       subst this;cases bd
       .have:db=false:=by cases db;rfl;exact absurd (hd rfl) (by decide)
        subst this;cases ab<;>rfl
       .cases ab<;>cases db<;>rfl
      .cases bd
       .have:db=false:=by cases db;rfl;exact absurd (hd rfl) (by decide)
        subst this;cases ab<;>cases gb<;>rfl
       .cases ab<;>cases gb<;>cases db<;>rfl
    rw[hof];unfold gI;rw[List.foldl_append,List.foldl_append,tv,tv,tv];have hd:∀b,pl y x=b->(x.d&&y.d)=if b=true then false else x.d:=by
     intro b hb;subst hb;unfold pl;cases x.d<;>cases y.d<;>rfl
    rw[hd _ rfl,if_neg (show ¬(false=true)by decide)];cases oS y x<;>cases pG G x<;>cases pl y x<;>rfl
   .rw [if_neg (fun h=>hk h.2)];simp only[hk,if_false,if_true];refine⟨rfl,fun h=>by simp at h,fun _=>?_,fun h=>by simp at h⟩;unfold bF;rw[List.foldl_append,List.foldl_append,tv,tv,tv];have hd:∀b,pl y x=b->(x.d&&y.d)=if b=true then false else x.d:=by
     intro b hb;subst hb;unfold pl;cases x.d<;>cases y.d<;>rfl
    rw[hd _ rfl,if_neg (show ¬(false=true)by decide)];have o1:=Ey hb.2.2.1 hya';have o2:=@DF G;have k1:sw {x with a:=x.a ||| y.a}=true:=qZ ⟨hb.1,hb.2.1⟩ o1 hb.2.2.2;have k2:sw {x with g:=fv G}=true:=qZ ⟨hb.1,hb.2.1⟩ hb.2.2.1 o2;have k3:sw {x with a:=x.a ||| y.a,g:=fv G}=true:=qZ ⟨hb.1,hb.2.1⟩ o1 o2;cases oS y x<;>cases pG G x<;>cases pl y x<;>simp only[if_true,if_false,Bool.false_eq_true,C_ h o1,Bf h o2,Bf k1 o2,zM h,zM k1,zM k2,zM k3]
 .rw [hrb]at r1;rw[if_pos rfl]at r1;rw[r1,r2,if_neg (fun h=>absurd h.1 (by decide))];refine⟨rfl,fun h=>by simp at h,fun h=>by simp at h,fun _=>?_⟩;unfold gI;rw[List.foldl_append,tv,tv];unfold y_ zc;rw[if_pos rfl];obtain⟨xm,xa,xg,xp,xc,xd⟩:=x;dsimp only;cases xp<;>cases xc<;>cases y.p<;>cases y.c<;>rfl
structure LeC(c0 x:Cf):Prop where
 ok:sw x=true
 p:x.p=true->c0.p=true
 c:x.c=true->c0.c=true
 d:x.d=true->c0.d=true
 a:x.a &&& c0.a=c0.a
theorem Bn(h:a<4294967296):4294967295 &&& a=a:=by
 rw[Nat.and_comm,show(4294967295:Nat)=2 ^ 32-1 by decide,Nat.and_two_pow_sub_one_eq_mod];omega
theorem Fj{c:Nat}(h:a &&& c=c):(a ||| b) &&& c=c:=by
 rw[uq]at h|-;rw[Nat.or_assoc,Nat.or_comm b c,<- Nat.or_assoc,h]
theorem LeC.refl(h:sw c0=true):LeC c0 c0:=⟨h,id,id,id,Nat.and_self _⟩
def AM(c0:Cf)(L:List Op.Opt):Prop:=∀o∈L,o.kind=2->da o.data.data.toList &&& c0.a=c0.a
theorem BJ{y:Cf}(h:LeC c0 x)(hy:sw y=true->LeC c0 y):LeC c0 (li y x):=by
 unfold li;split
 .exact hy (by assumption)
 .exact h
theorem BK:∀{L:List Op.Opt}{x:Cf},LeC c0 x->AM c0 L->LeC c0 (bF x L)
 | [],_,h,_=>h
 | o::L,x,h,hL=>by
  show LeC c0 (bF (fN x o) L)
  refine BK ?_ fun o' ho'=>hL o' (List.mem_cons_of_mem _ ho')
  unfold fN;split
  .refine BJ h fun hok=>?_
   unfold aD at hok|-;split
   .next hk=>rw[if_pos hk]at hok;exact⟨hok,h.p,h.c,h.d,h.a⟩
   .next hk =>
    rw[if_neg hk]at hok;split
    .next hk2=>rw[if_pos hk2]at hok;exact⟨hok,h.p,h.c,h.d,hL o (List.mem_cons_self ..) hk2⟩
    .next hk2 =>
     rw[if_neg hk2]at hok;split
     .next hk3=>rw[if_pos hk3]at hok;exact⟨hok,h.p,h.c,h.d,h.a⟩
     .next hk3 =>
      rw[if_neg hk3]at hok;split
      .next hk4=>rw[if_pos hk4]at hok;exact⟨hok,h.p,h.c,fun e=>h.d (zK _ _▸e).1,h.a⟩
      .exact h
  .exact h
theorem DG(h0:c0.a<4294967296):∀{L:List Op.Opt}{x:Cf},LeC c0 x->LeC c0 (gI x L)
 | [],_,h=>h
 | o::L,x,h=>by
  show LeC c0 (gI (lQ o.kind x) L)
  refine DG h0 ?_;have hb:=ux h.ok;unfold lQ;split
  .exact ⟨qZ ⟨by decide,by decide⟩ hb.2.2.1 hb.2.2.2,h.p,h.c,h.d,h.a⟩
  .split
   .exact ⟨qZ ⟨hb.1,hb.2.1⟩ (by decide) hb.2.2.2,h.p,h.c,h.d,Bn h0⟩
   .split
    .exact ⟨qZ ⟨hb.1,hb.2.1⟩ hb.2.2.1 (by decide),h.p,h.c,h.d,h.a⟩
    .split
     .exact ⟨qZ ⟨hb.1,hb.2.1⟩ hb.2.2.1 hb.2.2.2,fun e=>(by cases e),h.c,h.d,h.a⟩
     .split
      .exact ⟨qZ ⟨hb.1,hb.2.1⟩ hb.2.2.1 hb.2.2.2,h.p,fun e=>(by cases e),h.d,h.a⟩
      .split
       .exact ⟨qZ ⟨hb.1,hb.2.1⟩ hb.2.2.1 hb.2.2.2,h.p,h.c,fun e=>(by cases e),h.a⟩
       .exact h
theorem Bo{b:Bool}{u o:Op.Opt}(h:o∈Bd b u):o=u:=by
 unfold Bd at h;split at h
 .simpa using h
 .simp at h
theorem Da(e:En)(h:LeC c0 x)(he:aK e.m1 e.a1 e.g2=true)(h3:(dI e (jD x)).1=3):AM c0 (dI e (jD x)).2:=by
 have hb:=ux h.ok;have hya:e.a1.toNat<4294967296:=by
  simp only[aK,bh,zK,decide_eq_true_eq]at he;omega
 have hr:Op.right (jD x)=true:=iP (jo {ag with m2:=x.m,a2:=x.a,g2:=x.g,p2:=x.p,c2:=x.c,d2:=x.d});obtain⟨r1,r2,r3,r4⟩:=Be (lj e) e.g2.toNat h.ok;have hrep:ck e.m1 e.a1 e.g2 e.p1 e.c1 e.d1 (jD x)=(mx (b_ (lj e).m (lj e).a e.g2.toNat (lj e).p (lj e).c (lj e).d (jD x)),fl (mx (b_ (lj e).m (lj e).a e.g2.toNat (lj e).p (lj e).c (lj e).d (jD x))) (b_ (lj e).m (lj e).a e.g2.toNat (lj e).p (lj e).c (lj e).d (jD x))):=if_pos ⟨he,hr⟩;unfold dI at h3|-;rw[hrep]at h3|-;generalize b_ (lj e).m (lj e).a e.g2.toNat (lj e).p (lj e).c (lj e).d (jD x)=V at*;dsimp only at h3|-;by_cases hq:mx V=3/\e.fl=3
 .rw [if_pos hq]at h3;exact absurd (show(4:Int)=3 from h3) (by decide)
 .rw [if_neg hq]at h3|-;dsimp only at h3|-;rw[h3,r3];intro o ho hk;rcases List.mem_append.1 ho with ho|ho
  .rw [Bo ho];show da (cK (x.a ||| (lj e).a)).data.toList &&& c0.a=c0.a
   rw[pj (n:=x.a ||| (lj e).a) (Ey hb.2.2.1 hya)];exact Fj h.a
  .rcases List.mem_append.1 ho with ho|ho
   .rw [Bo ho]at hk;exact absurd (show(5:Int)=2 from hk) (by decide)
   .rw [Bo ho]at hk;exact absurd (show(9:Int)=2 from hk) (by decide)
def b2(b:Bool):Nat:=if b=true then 1 else 0
def rN(y:Ye)(x:Cf):Nat:=b2 (y_ y x)+(b2 (zc y x)+(b2 (pl y x)+b2 (oS y x)))
theorem Ez(y:Ye)(x:Cf):rN y x<=4:=by
 have:∀b,b2 b<=1:=fun b=>by cases b<;>decide
 have h1:=this (y_ y x);have h2:=this (zc y x);have h3:=this (pl y x);have h4:=this (oS y x);unfold rN;omega
theorem Eb(y:Ye)(x:Cf)(m g:Nat)(p c d:Bool):oS y ⟨m,x.a ||| y.a,g,p,c,d⟩=false:=by
 unfold oS;dsimp only;rw[Nat.or_assoc,Nat.or_self];simp
theorem DH(y:Ye)(m g:Nat)(p c d:Bool):oS y ⟨m,4294967295,g,p,c,d⟩=false:=by
 unfold oS;rfl
theorem Fk(y:Ye)(G:Nat)(k:Int)(x:Cf):rN y (pf y G k x)<=rN y x/\(tT y x=true\/oS y x=true\/pl y x=true->rN y (pf y G k x)<rN y x):=by
 cases hr:tT y x
 .have e:pf y G k x={x with a:=if oS y x=true then(if k=3 then 4294967295 else x.a ||| y.a)else x.a,g:=if pG G x=true then(if k=3 then 0 else fv G)else x.g,d:=x.d&&y.d}:=by
   unfold pf;rw[hr];rfl
  have ea:oS y (pf y G k x)=false:=by
   rw[e];cases ha:oS y x
   .exact ha
   .rw [if_pos rfl];by_cases hk:k=3
    .rw [if_pos hk];exact DH _ _ _ _ _ _
    .rw [if_neg hk];exact Eb y x _ _ _ _ _
  have ed:pl y (pf y G k x)=false:=by
   rw[e];unfold pl;dsimp only;cases x.d<;>cases y.d<;>rfl
  have ep:y_ y (pf y G k x)=y_ y x:=by rw[e];rfl
  have ec:zc y (pf y G k x)=zc y x:=by rw[e];rfl
  unfold rN;rw[ea,ed,ep,ec];constructor
  .show _+(_+(0+0))<=_
   omega
  .rintro (h|h|h)
   .cases h
   .rw [h];show _+(_+(0+0))<_+(_+(_+1));omega
   .rw [h];show _+(_+(0+0))<_+(_+(1+_));omega
 .have e:pf y G k x={x with p:=x.p&&y.p,c:=x.c&&y.c}:=by
   unfold pf;rw[hr];rfl
  have ea:oS y (pf y G k x)=oS y x:=by rw[e];rfl
  have ed:pl y (pf y G k x)=pl y x:=by rw[e];rfl
  have ep:y_ y (pf y G k x)=false:=by rw[e];unfold y_;dsimp only;cases x.p<;>cases y.p<;>rfl
  have ec:zc y (pf y G k x)=false:=by rw[e];unfold zc;dsimp only;cases x.c<;>cases y.c<;>rfl
  have hpc:b2 (y_ y x)+b2 (zc y x) >= 1:=by
   have hr':(y_ y x||zc y x)=true:=hr;cases hp:y_ y x
   .rw [hp]at hr';rw[show zc y x=true from hr'];decide
   .show 1+_ >= 1;omega
  unfold rN;rw[ea,ed,ep,ec];have:b2 false+(b2 false+(b2 (pl y x)+b2 (oS y x)))<b2 (y_ y x)+(b2 (zc y x)+(b2 (pl y x)+b2 (oS y x))):=by
   show 0+(0+_)<_
   omega
  exact⟨Nat.le_of_lt this,fun _=>this⟩
theorem Fl(y:Ye)(G:Nat)(k:Int)(x:Cf):(pf y G k x).g=if tT y x=false/\pG G x=true then(if k=3 then 0 else fv G)else x.g:=by
 unfold pf;cases tT y x
 .cases pG G x
  .rfl
  .rfl
 .rfl
theorem vx:pG G x=true↔x.g≠0/\x.g=G:=by
 unfold pG;rw[zK];constructor
 .rintro ⟨h1,h2⟩;have h2':(x.g:Int)=(G:Int):=by simpa using h2
  have h1':(x.g:Int)≠0:=by simpa using h1
  omega
 .rintro ⟨h1,h2⟩;subst h2;constructor
  .simpa using h1
  .simp
theorem Cb(f:α->Op.Opt->α)(b:Bool)(k:Int)(t:ByteArray)(x:α):(c_ b k t).foldl f x=if b=true then f x ⟨k,t⟩else x:=by cases b<;>rfl
theorem tE(h:sw x=true):iJ (jD x)=⟨x.m,x.a,x.p,x.c,x.d⟩:=by
 have hb:=ux h;have hr:Op.right (jD x)=true:=iP (jo {ag with m2:=x.m,a2:=x.a,g2:=x.g,p2:=x.p,c2:=x.c,d2:=x.d});unfold iJ;rw[if_pos hr];unfold ud;rw[Ac];simp only[List.foldl_append,Cb];have l1:∀z:Ln,xP z ⟨1,ji x.m⟩={z with m:=x.m}:=fun z=>by
  show gT 1 z (da (ji x.m).data.toList)=_
  rw[AL (by omega)];unfold gT;rw[if_pos rfl,show bh 64 300 (x.m:Int)=true by unfold bh;rw[decide_eq_true (by omega),decide_eq_true (by omega)];rfl];rfl
 have l2:∀z:Ln,xP z ⟨2,cK x.a⟩={z with a:=x.a}:=fun z=>by
  show gT 2 z (da (cK x.a).data.toList)=_
  rw[pj hb.2.2.1];rfl
 have l5:∀z:Ln,xP z ⟨5,cK x.g⟩=z:=fun z=>rfl
 have l7:∀z:Ln,xP z ⟨7,⟨#[]⟩⟩={z with p:=true}:=fun z=>rfl
 have l8:∀z:Ln,xP z ⟨8,⟨#[]⟩⟩={z with c:=true}:=fun z=>rfl
 have l9:∀z:Ln,xP z ⟨9,fu 4⟩={z with d:=true}:=fun z=>by
  show gT 9 z (da (fu 4).data.toList)=_
  rw[B_];unfold gT;simp
 have m1:(if((x.m:Int) != 300)=true then xP ⟨300,4294967295,false,false,false⟩ ⟨1,ji x.m⟩else⟨300,4294967295,false,false,false⟩)=⟨x.m,4294967295,false,false,false⟩:=by
  rw[l1];cases hq:((x.m:Int) != 300)
  .have:(x.m:Int)=300:=by simpa using hq
   have:x.m=300:=by omega
   rw[this];rfl
  .rfl
 have m2:(if((x.a:Int) != 4294967295)=true then xP ⟨x.m,4294967295,false,false,false⟩ ⟨2,cK x.a⟩else⟨x.m,4294967295,false,false,false⟩)=⟨x.m,x.a,false,false,false⟩:=by
  rw[l2];cases hq:((x.a:Int) != 4294967295)
  .have:(x.a:Int)=4294967295:=by simpa using hq
   have:x.a=4294967295:=by omega
   rw[this];rfl
  .rfl
 rw[m1,m2];simp only[l5,l7,l8,l9,ite_self];cases x.p<;>cases x.c<;>cases x.d<;>rfl
theorem vy(h:cC L=true):ar (co (Op.bytes L))=(L,0):=by
 have h2:(Op.bytes L).length<=250:=by
  unfold cC at h;rw[zK]at h;exact of_decide_eq_true h.2
 refine uw ?_ ?_
 .show ¬8000<(Op.bytes L).toArray.size
  simp;omega
 .exact Op.acc_bytes (iP h)
theorem uc(x:Cf):cC (jD x)=true:=jo {ag with m2:=x.m,a2:=x.a,g2:=x.g,p2:=x.p,c2:=x.c,d2:=x.d}
theorem vi{id:Int}(hc:0<=cd/\cd<=255)(hi:0<=id/\id<=255)(h:cC L=true):Op.pok ⟨cd,id,co (Op.bytes L)⟩=true:=by
 have h2:(Op.bytes L).length<=250:=by
  unfold cC at h;rw[zK]at h;exact of_decide_eq_true h.2
 refine decide_eq_true ⟨hc.1,hc.2,hi.1,hi.2,?_⟩;rw[eJ];exact h2
def Bp(n:Nat):Prop:=n=3\/n=6\/n=7\/n=8\/n=9
theorem Hg(hn:Bp n)(h:e.st=n):Evd c.now e F1 ((ch n 6).1:Nat) (ch n 6).2.1 (ch n 6).2.2 c.hd 0 [⟨2,c.ci,co (Op.bytes c.ao)⟩] (bj c ⟨e,F1,F2,[],[]⟩ (im 6)):=by
 rcases hn with rfl|rfl|rfl|rfl|rfl
 .exact Gc c e F1 F2 h
 .exact Gf c e F1 F2 h
 .exact Gi c e F1 F2 h
 .exact Gk c e F1 F2 h
 .exact Gm c e F1 F2 h
theorem Hh(hn:Bp n)(h:e.st=n):Evd c.now e F1 ((ch n 7).1:Nat) (ch n 7).2.1 (ch n 7).2.2 F2 (if c.ac=3 then min 3 (e.fl+1)else e.fl) [⟨c.ac,c.ci,co (Op.bytes c.ao)⟩] (bj c ⟨e,F1,F2,[],[]⟩ (im 7)):=by
 rcases hn with rfl|rfl|rfl|rfl|rfl
 .exact Gp c e F1 F2 h
 .exact Gr c e F1 F2 h
 .exact Gu c e F1 F2 h
 .exact Gx c e F1 F2 h
 .exact Gz c e F1 F2 h
theorem Hi(hn:Bp n)(h:e.st=n):Evd c.now e F1 ((ch n 8).1:Nat) (ch n 8).2.1 (ch n 8).2.2 F2 e.fl (if n=3 then[⟨6,c.ci,⟨#[]⟩⟩]else[]) (bj c ⟨e,F1,F2,[],[]⟩ (im 8)):=by
 rcases hn with rfl|rfl|rfl|rfl|rfl
 .exact GB c e F1 F2 h
 .exact GD c e F1 F2 h
 .exact GF c e F1 F2 h
 .exact GH c e F1 F2 h
 .exact GJ c e F1 F2 h
theorem Hj(hn:Bp n)(h:e.st=n):Evd c.now e F1 ((ch n 9).1:Nat) (ch n 9).2.1 (ch n 9).2.2 F2 e.fl (if n=3 then[⟨6,c.ci,⟨#[]⟩⟩]else[]) (bj c ⟨e,F1,F2,[],[]⟩ (im 9)):=by
 rcases hn with rfl|rfl|rfl|rfl|rfl
 .exact GL c e F1 F2 h
 .exact GN c e F1 F2 h
 .exact GP c e F1 F2 h
 .exact GR c e F1 F2 h
 .exact GT c e F1 F2 h
theorem GU(hn:Bp n)(h:e.st=n):Evd c.now e F1 ((ch n 11).1:Nat) (ch n 11).2.1 (ch n 11).2.2 F2 e.fl [] (bj c ⟨e,F1,F2,[],[]⟩ (im 11)):=by
 rcases hn with rfl|rfl|rfl|rfl|rfl
 .exact EW c e F1 F2 h
 .exact EY c e F1 F2 h
 .exact E_ c e F1 F2 h
 .exact Fb c e F1 F2 h
 .exact Fd c e F1 F2 h
theorem Hk(hn:n=6\/n=7\/n=8)(h:e.st=n):Evd c.now e F1 ((ch n 4).1:Nat) (ch n 4).2.1 (ch n 4).2.2 F2 e.fl [] (bj c ⟨e,F1,F2,[],[]⟩ (im 4)):=by
 rcases hn with rfl|rfl|rfl
 .exact FY c e F1 F2 h
 .exact F3 c e F1 F2 h
 .exact F5 c e F1 F2 h
theorem Hl(hn:n=6\/n=7\/n=8)(h:e.st=n):Evd c.now e F1 ((ch n 5).1:Nat) (ch n 5).2.1 (ch n 5).2.2 F2 e.fl [] (bj c ⟨e,F1,F2,[],[]⟩ (im 5)):=by
 rcases hn with rfl|rfl|rfl
 .exact F7 c e F1 F2 h
 .exact F9 c e F1 F2 h
 .exact Ga c e F1 F2 h
theorem Cw{ev:Nat}(hn:Bp n):Bp (ch n ev).1:=by
 unfold Bp at hn;unfold ch;split<;>first|(unfold Bp;decide)|exact hn
def Dj(e:En):Cf:=⟨e.m1.toNat,e.a1.toNat,e.g1.toNat,e.p1,e.c1,e.d1⟩
def mv(c:Cf):Ye:=⟨c.m,c.a,c.p,c.c,c.d⟩
theorem DI(e:En):lj e=mv (Dj e):=rfl
def AP(c0:Cf)(F:List Op.Opt):Prop:=∃c,sw c=true/\F=jD c/\(c.p=true->c0.p=true)/\(c.c=true->c0.c=true)/\(c.d=true->c0.d=true)/\c.a &&& c0.a=c0.a
structure Ge(now:Int)(c0:Cf)(s:Sd):Prop where
 ok:dJ s.e s.F1 s.F2=true
 du:gj s.e.st=true->now<s.e.du/\s.e.du<=now+3
 own:Dj s.e=c0
 ask:LeC c0 (gr s.e)
 f1:∃c,LeC c0 c/\s.F1=jD c
 fa:s.e.st≠3->s.F1=jD (gr s.e)
 f2:AP c0 s.F2
structure Re(z:Bool)(now:Int)(c0:Cf)(s:Sd)(f:Fe):Prop where
 g:Ge now c0 s
 ns:Bp f.st
 st:s.e.st=f.st
 rem:oy f.st=true->s.e.du=now+f.rem
 tr:z=true->s.e.tr=f.tr
theorem q_(hn:Bp n):gj (n:Int)=oy n:=by
 rcases hn with rfl|rfl|rfl|rfl|rfl<;>rfl
theorem jW(h:dJ e F1 F2=true):aK e.m1 e.a1 e.g1=true/\aK e.m2 e.a2 e.g2=true/\(0<=e.tr/\e.tr<=5)/\(0<=e.id/\e.id<=255)/\(0<=e.fl/\e.fl<=3)/\(gj e.st=true->0<=e.du)/\(gj e.st=false->e.du=-1)/\cC F1=true/\cC F2=true/\e.up=(e.st==9):=by
 unfold dJ at h;simp only[zK]at h;obtain⟨h1,h2,h3,h4,h5,h6,h7,h8,h9,h10,h11⟩:=h;simp only[bh,zK,decide_eq_true_eq]at h4 h6 h5;refine⟨h1,h2,⟨h4.1,h4.2⟩,h5,⟨h6.1,h6.2⟩,fun hr=>?_,fun hr=>?_,h7,h8,?_⟩
 .rw [if_pos hr]at h9;simp only[bh,zK,decide_eq_true_eq]at h9;exact h9.1
 .rw [if_neg (by rw[hr];decide)]at h9;simpa using h9
 .simpa using h10
theorem AQ(h:dJ e F1 F2=true):aK e.m1 e.a1 e.g2=true/\(Dj e).a<4294967296:=by
 obtain⟨h1,h2,_⟩:=jW h;simp only[aK,bh,zK,decide_eq_true_eq]at h1 h2|-;refine⟨⟨h1.1,h1.2.1,h2.2.2⟩,?_⟩;show e.a1.toNat<4294967296
 omega
theorem Re.ev{now:Int}{s:Sd}{f:Fe}(h:Re z now c0 s f){ev:Nat}{G:List Op.Opt}{fl:Int}(E:Evd now e' s.F1 ((ch f.st ev).1:Nat) (ch f.st ev).2.1 (ch f.st ev).2.2 G fl rp o)(hok:dJ o.e o.F1 o.F2=true)(hcf:Dj e'=c0)(hask:LeC c0 (gr e'))(hdu:e'.du=s.e.du)(htr:e'.tr=s.e.tr)(hG:AP c0 G)(hfa:(ch f.st ev).2.2=true\/(s.F1=jD (gr e')/\f.st≠3)\/((ch f.st ev).1=3/\(ch f.st ev).2.2=false))(l:List Op.Pk):Re z now c0 ⟨o.e,o.F1,o.F2,l⟩ (io f ev):=by
 have hs:=Cw (ev:=ev) h.ns;have hA:gr o.e=gr e':=by
  obtain⟨a1,a2,a3,a4,a5,a6⟩:=E.ak;unfold gr;rw[a1,a2,a3,a4,a5,a6]
 have hO:Dj o.e=Dj e':=by
  obtain⟨a1,a2,a3,a4,a5,a6⟩:=E.cf;unfold Dj;rw[a1,a2,a3,a4,a5,a6]
 have hst:o.e.st=((io f ev).st:Nat):=E.st;have hpo:=jW h.g.ok;have htr0:e'.tr=s.e.tr:=htr;have hdu':oy (ch f.st ev).1=true->o.e.du=now+(if((ch f.st ev).2.1||(ch f.st ev).2.2 || !oy f.st)=true then(3:Nat)else f.rem):=by
  intro hr;rw[E.du,if_pos (by rw[q_ hs];exact hr),hdu];cases hrun:oy f.st
  .have:s.e.du=-1:=hpo.2.2.2.2.2.2.1 (by rw[h.st,q_ h.ns];exact hrun)
   rw[this];have e1:(decide ((-1:Int)<0)||(ch f.st ev).2.1||(ch f.st ev).2.2)=true:=by rfl
   rw[if_pos e1,if_pos (by simp)];rfl
  .have hd:=h.rem hrun;have h0:0<=s.e.du:=hpo.2.2.2.2.2.1 (by rw[h.st,q_ h.ns];exact hrun);rw[decide_eq_false (by omega),Bool.false_or];cases hq:((ch f.st ev).2.1||(ch f.st ev).2.2)
   .rw [if_neg (by decide),if_neg (by simp),hd]
   .rw [if_pos rfl,if_pos (by simp)];rfl
 refine⟨⟨hok,?_,?_,?_,?_,?_,?_⟩,hs,hst,?_,?_⟩
 .intro hr;have hr':oy (ch f.st ev).1=true:=by
   rw[<- q_ hs];have:o.e.st=((ch f.st ev).1:Nat):=E.st
   rw[<- this];exact hr
  have hd:=hdu' hr';show now<o.e.du/\o.e.du<=now+3
  rw[hd];cases hrun:oy f.st
  .rw [if_pos (by simp)];omega
  .split
   .omega
   .have hrs:gj s.e.st=true:=by rw[h.st,q_ h.ns];exact hrun
    have hg:=h.g.du hrs;have hd2:=h.rem hrun;omega
 .exact hO.trans hcf
 .show LeC c0 (gr o.e)
  rw[hA];exact hask
 .show ∃c,LeC c0 c/\o.F1=jD c
  rw[E.f1];split
  .exact ⟨gr e',hask,rfl⟩
  .exact h.g.f1
 .intro hne;show o.F1=jD (gr o.e)
  rw[E.f1,hA];rcases hfa with hq|hq|hq
  .rw [if_pos hq];rfl
  .split
   .rfl
   .exact hq.1
  .exfalso;apply hne
   show o.e.st=3
   rw[E.st,hq.1];rfl
 .show AP c0 o.F2
  rw[E.f2];exact hG
 .intro hr;show o.e.du=now+((io f ev).rem:Nat)
  have hr':oy (ch f.st ev).1=true:=hr;rw[hdu' hr'];unfold io;dsimp only;rw[if_pos hr']
 .intro hz;have h1:=h.tr hz;show o.e.tr=((io f ev).tr:Nat)
  rw[E.tr,htr,h1];unfold io;dsimp only;cases(ch f.st ev).2.1<;>cases(ch f.st ev).2.2<;>simp only[if_true,if_false,Bool.false_eq_true]<;>omega
def mj(s:Sd):Op.Pk:=⟨1,s.e.id,co (Op.bytes s.F1)⟩
structure Hd(y y':Sd)(f:Fe)(ev:Nat)(rp:List Op.Pk):Prop where
 ln:y'.ln=(y.ln++((if(ch f.st ev).2.2=true then[mj y']else[])++rp)).take 40
 id:y'.e.id=if(ch f.st ev).2.2=true then(y.e.id+1)%256 else y.e.id
 f1:(ch f.st ev).2.2=false->y'.F1=y.F1
theorem BL(s:Sd)(h:o.cd=0):be s o=⟨o.e,o.F1,o.F2,(s.ln++o.sn).take 40⟩:=if_pos h
theorem BM(s:Sd)(h:o.cd≠0):be s o=s:=if_neg h
section
variable {z:Bool} {now:Int} {c0:Cf} {y:Sd} {f:Fe}
theorem Re.right(h:Re z now c0 y f)(hn:0<=now/\now<=1000000000):(dJ y.e y.F1 y.F2&&bh 0 1000000000 now)=true:=by
 rw[h.g.ok,Bool.true_and];unfold bh;rw[decide_eq_true hn.1,decide_eq_true hn.2];rfl
theorem zN(h:Re z now c0 y f)(hn:0<=now/\now<=1000000000)(hp:Op.pok p=true):bn y.e y.F1 y.F2 p now=aB now p y.e y.F1 y.F2:=by
 unfold bn;rw[if_pos ⟨h.right hn,hp⟩,if_neg];have:=h.ns
 rw[h.st];unfold Bp at this;omega
theorem Re.follow(h:Re z now c0 y f){ev:Nat}{G:List Op.Opt}{fl:Int}(E:Evd now e' y.F1 ((ch f.st ev).1:Nat) (ch f.st ev).2.1 (ch f.st ev).2.2 G fl rp o)(hok:dJ o.e o.F1 o.F2=true)(hcf:Dj e'=c0)(hask:LeC c0 (gr e'))(hdu:e'.du=y.e.du)(htr:e'.tr=y.e.tr)(hid:e'.id=y.e.id)(hG:AP c0 G)(hfa:(ch f.st ev).2.2=true\/(y.F1=jD (gr e')/\f.st≠3)\/((ch f.st ev).1=3/\(ch f.st ev).2.2=false)):Re z now c0 (be y o) (io f ev)/\Hd y (be y o) f ev rp/\(be y o).F2=G/\(be y o).e.fl=fl/\gr (be y o).e=gr e':=by
 rw[BL y E.cd];refine⟨h.ev E hok hcf hask hdu htr hG hfa _,⟨?_,?_,?_⟩,E.f2,E.fl,?_⟩
 .show (y.ln++o.sn).take 40=(y.ln++((if(ch f.st ev).2.2=true then[(⟨1,o.e.id,co (Op.bytes o.F1)⟩:Op.Pk)]else[])++rp)).take 40
  rw[E.sn,E.id,E.f1];split
  .rfl
  .rfl
 .show o.e.id=_
  rw[E.id,hid]
 .intro hs;show o.F1=y.F1
  rw[E.f1,if_neg (by rw[hs];decide)]
 .obtain ⟨a1,a2,a3,a4,a5,a6⟩:=E.ak;show gr o.e=gr e'
  unfold gr;rw[a1,a2,a3,a4,a5,a6]
theorem Cc{c:Cf}(h0:c0.a<4294967296)(hc:sw c=true)(h:mh (mv c0) G k c=2):tT (mv c0) c=false/\yo (mv c0) G c=false/\AP c0 (jD c):=by
 have key:tT (mv c0) c=false/\yo (mv c0) G c=false:=by
  unfold mh at h;cases hr:tT (mv c0) c
  .rw [hr]at h;cases hn:yo (mv c0) G c
   .exact ⟨rfl,rfl⟩
   .rw [hn]at h;simp only[if_true,if_false,Bool.false_eq_true]at h;split at h<;>cases h
  .rw [hr]at h;simp only[if_true]at h;cases h
 refine⟨key.1,key.2,c,hc,rfl,?_,?_,?_,?_⟩
 .intro hp;have h1:=key.1;unfold tT mv at h1;rw[hp]at h1;cases hq:c0.p
  .rw [hq]at h1;cases h1
  .rfl
 .intro hp;have h1:=key.1;unfold tT mv at h1;rw[hp]at h1;cases hq:c0.c
  .rw [hq]at h1;simp at h1
  .rfl
 .intro hp;have h1:=key.2;unfold yo pl mv at h1;rw[hp]at h1;cases hq:c0.d
  .rw [hq]at h1;simp at h1
  .rfl
 .have h1:=key.2;unfold yo oS mv at h1;simp only[Bool.or_eq_false_iff,Bool.and_eq_false_iff]at h1;rcases h1.1.1 with h2|h2
  .have:(c.a:Int)=4294967295:=by simpa using h2
   have:c.a=4294967295:=by omega
   rw[this];exact Bn h0
  .have:((c.a ||| c0.a:Nat):Int)=(c.a:Int):=by simpa using h2
   exact uq c.a c0.a |>.2 (by omega)
theorem Ad(h:Re z now c0 y f)(hn:0<=now/\now<=1000000000)(hi:0<=i/\i<=255){c:Cf}(hc:sw c=true)(ha:mh (mv c0) (gr y.e).g y.e.fl c=2):Re z now c0 (fk y ⟨1,i,co (Op.bytes (jD c))⟩ now) (io f 6)/\Hd y (fk y ⟨1,i,co (Op.bytes (jD c))⟩ now) f 6 [⟨2,i,co (Op.bytes (jD c))⟩]/\(fk y ⟨1,i,co (Op.bytes (jD c))⟩ now).F2=jD c/\(fk y ⟨1,i,co (Op.bytes (jD c))⟩ now).e.fl=0/\gr (fk y ⟨1,i,co (Op.bytes (jD c))⟩ now).e=gr y.e:=by
 have hcf:=AQ h.g.ok;have A:=BI y.e hc hcf.1;rw[DI,h.g.own]at A;have a1:(dI y.e (jD c)).1=2:=A.1.trans ha;have a2:=A.2.1 ha;have hF:=zN h hn (vi (cd:=1) (by decide) hi (uc c));have hR:=tg y.e y.F1 y.F2 ⟨1,i,co (Op.bytes (jD c))⟩ now;have e:aB now ⟨1,i,co (Op.bytes (jD c))⟩ y.e y.F1 y.F2=bj (aU now ⟨1,i,co (Op.bytes (jD c))⟩ (jD c) (dI y.e (jD c)) ai ai) ⟨y.e,y.F1,y.F2,[],[]⟩ (im 6):=by
  unfold aB;rw[if_pos rfl,vy (uc c),if_pos rfl,a1,if_pos rfl]
 rw[e]at hF;have E:=Hg (c:=aU now ⟨1,i,co (Op.bytes (jD c))⟩ (jD c) (dI y.e (jD c)) ai ai) (e:=y.e) (F1:=y.F1) (F2:=y.F2) h.ns h.st;have hk:=(hR.yes (by rw[hF];exact E.cd)).1;unfold fk;rw[hF]at hk|-;have hG:=(Cc (by rw[<- h.g.own];exact hcf.2) hc ha).2.2;have hE:Evd now y.e y.F1 ((ch f.st 6).1:Nat) (ch f.st 6).2.1 (ch f.st 6).2.2 (jD c) 0 [⟨2,i,co (Op.bytes (jD c))⟩] (bj (aU now ⟨1,i,co (Op.bytes (jD c))⟩ (jD c) (dI y.e (jD c)) ai ai) ⟨y.e,y.F1,y.F2,[],[]⟩ (im 6)):=by
  have:=E
  unfold aU at this|-;dsimp only at this;rw[a2]at this|-;exact this
 refine h.follow hE hk h.g.own h.g.ask rfl rfl rfl hG ?_;have hns:=h.ns;by_cases h3:f.st=3
 .left;rw[h3];rfl
 .right;left;exact⟨h.g.fa (by rw[h.st];omega),h3⟩
theorem Ae(h:Re z now c0 y f)(hn:0<=now/\now<=1000000000)(hi:0<=i/\i<=255){c:Cf}(hc:sw c=true)(ha:mh (mv c0) (gr y.e).g y.e.fl c≠2):∃L,cC L=true/\(mh (mv c0) (gr y.e).g y.e.fl c=3->bF c L=pf (mv c0) (gr y.e).g y.e.fl c)/\(mh (mv c0) (gr y.e).g y.e.fl c=4->gI c L=pf (mv c0) (gr y.e).g y.e.fl c) /\
  (∀cx,LeC cx c->mh (mv c0) (gr y.e).g y.e.fl c=3->AM cx L) /\
  Re z now c0 (fk y ⟨1,i,co (Op.bytes (jD c))⟩ now) (io f 7)/\Hd y (fk y ⟨1,i,co (Op.bytes (jD c))⟩ now) f 7 [⟨mh (mv c0) (gr y.e).g y.e.fl c,i,co (Op.bytes L)⟩]/\(fk y ⟨1,i,co (Op.bytes (jD c))⟩ now).F2=y.F2/\(fk y ⟨1,i,co (Op.bytes (jD c))⟩ now).e.fl=(if mh (mv c0) (gr y.e).g y.e.fl c=3 then min 3 (y.e.fl+1)else y.e.fl)/\gr (fk y ⟨1,i,co (Op.bytes (jD c))⟩ now).e=gr y.e:=by
 have hcf:=AQ h.g.ok;have A:=BI y.e hc hcf.1;rw[DI,h.g.own]at A;have a1:(dI y.e (jD c)).1=mh (mv c0) (gr y.e).g y.e.fl c:=A.1;refine⟨(dI y.e (jD c)).2,kB _ (uc c),A.2.2.1,A.2.2.2,fun cx hx h3=>Da y.e hx hcf.1 (a1.trans h3),?_⟩;have hF:=zN h hn (vi (cd:=1) (by decide) hi (uc c));have hR:=tg y.e y.F1 y.F2 ⟨1,i,co (Op.bytes (jD c))⟩ now;have e:aB now ⟨1,i,co (Op.bytes (jD c))⟩ y.e y.F1 y.F2=bj (aU now ⟨1,i,co (Op.bytes (jD c))⟩ (jD c) (dI y.e (jD c)) ai ai) ⟨y.e,y.F1,y.F2,[],[]⟩ (im 7):=by
  unfold aB;rw[if_pos rfl,vy (uc c),if_pos rfl,a1,if_neg ha]
 rw[e]at hF;have E:=Hh (c:=aU now ⟨1,i,co (Op.bytes (jD c))⟩ (jD c) (dI y.e (jD c)) ai ai) (e:=y.e) (F1:=y.F1) (F2:=y.F2) h.ns h.st;have hk:=(hR.yes (by rw[hF];exact E.cd)).1;unfold fk;rw[hF]at hk|-;have hE:Evd now y.e y.F1 ((ch f.st 7).1:Nat) (ch f.st 7).2.1 (ch f.st 7).2.2 y.F2 (if mh (mv c0) (gr y.e).g y.e.fl c=3 then min 3 (y.e.fl+1)else y.e.fl) [⟨mh (mv c0) (gr y.e).g y.e.fl c,i,co (Op.bytes (dI y.e (jD c)).2)⟩] (bj (aU now ⟨1,i,co (Op.bytes (jD c))⟩ (jD c) (dI y.e (jD c)) ai ai) ⟨y.e,y.F1,y.F2,[],[]⟩ (im 7)):=by
  have:=E
  unfold aU at this|-;dsimp only at this;rw[a1]at this|-;exact this
 refine h.follow hE hk h.g.own h.g.ask rfl rfl rfl h.g.f2 ?_;by_cases h3:f.st=3
 .left;rw[h3];rfl
 .right;left;exact⟨h.g.fa (by rw[h.st];omega),h3⟩
theorem Af(h:Re z now c0 y f)(hn:0<=now/\now<=1000000000):Re z now c0 (fk y ⟨2,y.e.id,co (Op.bytes y.F1)⟩ now) (io f 8)/\Hd y (fk y ⟨2,y.e.id,co (Op.bytes y.F1)⟩ now) f 8 (if f.st=3 then[⟨6,y.e.id,⟨#[]⟩⟩]else[])/\(fk y ⟨2,y.e.id,co (Op.bytes y.F1)⟩ now).F2=y.F2/\(fk y ⟨2,y.e.id,co (Op.bytes y.F1)⟩ now).e.fl=y.e.fl/\gr (fk y ⟨2,y.e.id,co (Op.bytes y.F1)⟩ now).e=gr y.e:=by
 have hpo:=jW h.g.ok;have hF:=zN h hn (vi (cd:=2) (by decide) hpo.2.2.2.1 hpo.2.2.2.2.2.2.2.1);have hR:=tg y.e y.F1 y.F2 ⟨2,y.e.id,co (Op.bytes y.F1)⟩ now;have e:aB now ⟨2,y.e.id,co (Op.bytes y.F1)⟩ y.e y.F1 y.F2=bj (aU now ⟨2,y.e.id,co (Op.bytes y.F1)⟩ [] (0,[]) ai ai) ⟨y.e,y.F1,y.F2,[],[]⟩ (im 8):=by
  unfold aB;rw[if_neg (by decide:¬(2:Int)=1),if_pos rfl,if_pos ⟨rfl,rfl⟩]
 rw[e]at hF;have E:=Hi (c:=aU now ⟨2,y.e.id,co (Op.bytes y.F1)⟩ [] (0,[]) ai ai) (e:=y.e) (F1:=y.F1) (F2:=y.F2) h.ns h.st;have hk:=(hR.yes (by rw[hF];exact E.cd)).1;unfold fk;rw[hF]at hk|-;refine h.follow E hk h.g.own h.g.ask rfl rfl rfl h.g.f2 ?_;by_cases h3:f.st=3
 .right;right;rw[h3];exact⟨rfl,rfl⟩
 .right;left;exact⟨h.g.fa (by rw[h.st];omega),h3⟩
theorem uy(h:Re z now c0 y f)(hn:0<=now/\now<=1000000000)(hcd:cd=3\/cd=4)(hL:cC L=true)(hnk:cd=3->AM c0 L):Re z now c0 (fk y ⟨cd,y.e.id,co (Op.bytes L)⟩ now) (io f 9)/\Hd y (fk y ⟨cd,y.e.id,co (Op.bytes L)⟩ now) f 9 (if f.st=3 then[⟨6,y.e.id,⟨#[]⟩⟩]else[])/\(fk y ⟨cd,y.e.id,co (Op.bytes L)⟩ now).F2=y.F2/\(fk y ⟨cd,y.e.id,co (Op.bytes L)⟩ now).e.fl=y.e.fl/\gr (fk y ⟨cd,y.e.id,co (Op.bytes L)⟩ now).e=(if cd=3 then bF (gr y.e) L else gI (gr y.e) L):=by
 have hpo:=jW h.g.ok;have hcf:=AQ h.g.ok;have hF:=zN h hn (vi (cd:=cd) (by omega) hpo.2.2.2.1 hL);have hR:=tg y.e y.F1 y.F2 ⟨cd,y.e.id,co (Op.bytes L)⟩ now;have hx:LeC c0 (if cd=3 then bF (gr y.e) L else gI (gr y.e) L):=by
  split
  .next h3=>exact BK h.g.ask (hnk h3)
  .exact DG (by rw[<- h.g.own];exact hcf.2) h.g.ask
 generalize hX:(if cd=3 then bF (gr y.e) L else gI (gr y.e) L)=X at*;have e:aB now ⟨cd,y.e.id,co (Op.bytes L)⟩ y.e y.F1 y.F2=bj (aU now ⟨cd,y.e.id,co (Op.bytes L)⟩ [] (0,[]) ai ai) ⟨ee y.e X,y.F1,y.F2,[],[]⟩ (im 9):=by
  unfold aB;rw[if_neg (show ¬cd=1 by omega),if_neg (show ¬cd=2 by omega),if_pos (show cd=3\/cd=4 from hcd),if_pos rfl,vy hL,if_pos rfl];dsimp only;rw[hX]
 rw[e]at hF;have E:=Hj (c:=aU now ⟨cd,y.e.id,co (Op.bytes L)⟩ [] (0,[]) ai ai) (e:=ee y.e X) (F1:=y.F1) (F2:=y.F2) h.ns h.st;have hk:=(hR.yes (by rw[hF];exact E.cd)).1;have hA:gr (ee y.e X)=X:=by
  unfold gr ee;simp
 unfold fk;rw[hF]at hk|-;have key:=h.follow E hk h.g.own (by rw[hA];exact hx) rfl rfl rfl h.g.f2 ?_
 .rw [hA]at key;exact key
 by_cases h3:f.st=3
 .right;right;rw[h3];exact⟨rfl,rfl⟩
 .left
  have:=h.ns
  rcases this with q|q|q|q|q
  .exact absurd q h3
  .rw [q];rfl
  .rw [q];rfl
  .rw [q];rfl
  .rw [q];rfl
theorem zO(h:Re z now c0 y f)(hn:0<=now/\now<=1000000000)(hi:0<=i/\i<=255):Re z now c0 (fk y ⟨6,i,⟨#[]⟩⟩ now) (io f 11)/\Hd y (fk y ⟨6,i,⟨#[]⟩⟩ now) f 11 []/\(fk y ⟨6,i,⟨#[]⟩⟩ now).F2=y.F2/\(fk y ⟨6,i,⟨#[]⟩⟩ now).e.fl=y.e.fl/\gr (fk y ⟨6,i,⟨#[]⟩⟩ now).e=gr y.e:=by
 have hF:=zN h hn (p:=⟨6,i,⟨#[]⟩⟩) (decide_eq_true ⟨show(0:Int)<=6 by decide,show(6:Int)<=255 by decide,hi.1,hi.2,show(0:Nat)<=250 by decide⟩);have hR:=tg y.e y.F1 y.F2 ⟨6,i,⟨#[]⟩⟩ now;have e:aB now ⟨6,i,⟨#[]⟩⟩ y.e y.F1 y.F2=bj (aU now ⟨6,i,⟨#[]⟩⟩ [] (0,[]) ai ai) ⟨y.e,y.F1,y.F2,[],[]⟩ (im 11):=rfl;rw[e]at hF;have E:=GU (c:=aU now ⟨6,i,⟨#[]⟩⟩ [] (0,[]) ai ai) (e:=y.e) (F1:=y.F1) (F2:=y.F2) h.ns h.st;have hk:=(hR.yes (by rw[hF];exact E.cd)).1;unfold fk;rw[hF]at hk|-;refine h.follow E hk h.g.own h.g.ask rfl rfl rfl h.g.f2 ?_;by_cases h3:f.st=3
 .right;right;rw[h3];exact⟨rfl,rfl⟩
 .right;left;exact⟨h.g.fa (by rw[h.st];omega),h3⟩
theorem ox(h:Re z now c0 y f)(hn:0<=now/\now<=1000000000)(hp:Op.pok p=true)(hc:p.code=2\/p.code=3\/p.code=4)(hi:p.id≠y.e.id):fk y p now=y:=by
 have hF:=zN h hn hp;have e:aB now p y.e y.F1 y.F2=bA 8:=by
  unfold aB;rcases hc with hc|hc
  .rw [if_neg (by omega),if_pos hc,if_neg (fun q=>hi q.1)]
  .rw [if_neg (by omega),if_neg (by omega),if_pos hc,if_neg hi]
 unfold fk;rw[hF,e];exact BM y (by decide)
theorem Ay(h:Re z now c0 y f)(hn:0<=now/\now+1<=1000000000)(hr:oy f.st=true->f.rem≠1/\f.rem≠0):gd y (now+1)=y/\Re z (now+1) c0 y ⟨f.st,f.rem-1,f.tr⟩:=by
 have hpo:=jW h.g.ok;constructor
 .unfold gd dq;rw[if_pos (by rw[h.g.ok,Bool.true_and];unfold bh;rw[decide_eq_true (by omega),decide_eq_true hn.2];rfl),if_pos]
  .exact BM y (by decide)
  .cases hrun:oy f.st
   .left
    rw[hpo.2.2.2.2.2.2.1 (by rw[h.st,q_ h.ns];exact hrun)];decide
   .right
    have:=h.rem hrun
    have:=hr hrun
    omega
 .refine ⟨⟨h.g.ok,fun hq=>?_,h.g.own,h.g.ask,h.g.f1,h.g.fa,h.g.f2⟩,h.ns,h.st,fun hrun=>?_,h.tr⟩
  .have hrun:oy f.st=true:=by rw[<- q_ h.ns,<- h.st];exact hq
   have h1:=h.rem hrun;have h2:=hr hrun;have h3:=h.g.du hq;omega
  .have h1:=h.rem hrun;have h2:=hr hrun;show y.e.du=now+1+((f.rem-1:Nat):Int)
   omega
theorem AR(h:Re z now c0 y f)(hn:0<=now/\now+1<=1000000000)(hrun:oy f.st=true)(h1:f.rem=1):(0<y.e.tr->Re z (now+1) c0 (gd y (now+1)) (io f 4)/\Hd y (gd y (now+1)) f 4 []/\(gd y (now+1)).F2=y.F2/\(gd y (now+1)).e.fl=y.e.fl/\gr (gd y (now+1)).e=gr y.e) /\
  (¬0<y.e.tr->Re z (now+1) c0 (gd y (now+1)) (io f 5)/\Hd y (gd y (now+1)) f 5 []/\(gd y (now+1)).F2=y.F2/\(gd y (now+1)).e.fl=y.e.fl/\gr (gd y (now+1)).e=gr y.e):=by
 have hrem:=h.rem hrun;have h678:f.st=6\/f.st=7\/f.st=8:=by
  rcases h.ns with q|q|q|q|q
  .rw [q]at hrun;cases hrun
  .exact Or.inl q
  .exact Or.inr (Or.inl q)
  .exact Or.inr (Or.inr q)
  .rw [q]at hrun;cases hrun
 have hb:(dJ y.e y.F1 y.F2&&bh 0 1000000000 (now+1))=true:=by
  rw[h.g.ok,Bool.true_and];unfold bh;rw[decide_eq_true (by omega),decide_eq_true hn.2];rfl
 have hd:¬(y.e.du<0\/now+1<y.e.du):=by omega
 have hR:=BD y.e y.F1 y.F2 (now+1)
 have h':∀(k:Fe),k.st=f.st->k.tr=f.tr->k.rem=1->Re z now c0 y k:=fun k k1 k2 k3=>⟨h.g,k1▸h.ns,by rw[k1];exact h.st,fun _=>by rw[k3,hrem,h1],fun hz=>by rw[k2];exact h.tr hz⟩
 have hfin:∀(o:EO)(ev:Nat),(ev=4\/ev=5)->Evd (now+1) y.e y.F1 ((ch f.st ev).1:Nat) (ch f.st ev).2.1 (ch f.st ev).2.2 y.F2 y.e.fl [] o->dJ o.e o.F1 o.F2=true ->
   Re z (now+1) c0 (be y o) (io f ev)/\Hd y (be y o) f ev []/\(be y o).F2=y.F2/\(be y o).e.fl=y.e.fl/\gr (be y o).e=gr y.e:=by
  intro o ev hev E hok;have hA:gr o.e=gr y.e:=by
   obtain⟨a1,a2,a3,a4,a5,a6⟩:=E.ak;unfold gr;rw[a1,a2,a3,a4,a5,a6]
  have hO:Dj o.e=Dj y.e:=by
   obtain⟨a1,a2,a3,a4,a5,a6⟩:=E.cf;unfold Dj;rw[a1,a2,a3,a4,a5,a6]
  have hs:=Cw (ev:=ev) h.ns;have hsc:(ev=4->(ch f.st ev).2.2=true/\(ch f.st ev).2.1=false)/\(ev=5->(ch f.st ev).2.2=false/\(ch f.st ev).2.1=false/\(ch f.st ev).1=3):=by
   constructor
   .rintro rfl;rcases h678 with q|q|q<;>rw[q]<;>exact⟨rfl,rfl⟩
   .rintro rfl;rcases h678 with q|q|q<;>rw[q]<;>exact⟨rfl,rfl,rfl⟩
  have hdu:oy (ch f.st ev).1=true->o.e.du=now+1+3/\ev=4:=by
   intro hr;rcases hev with q|q
   .refine ⟨?_,q⟩;rw[E.du,if_pos (by rw[q_ hs];exact hr),(hsc.1 q).1,Bool.or_true,if_pos rfl]
   .rw [(hsc.2 q).2.2]at hr;cases hr
  rw[BL y E.cd];refine⟨⟨⟨hok,?_,hO.trans h.g.own,?_,?_,?_,?_⟩,hs,E.st,?_,?_⟩,⟨?_,?_,?_⟩,E.f2,E.fl,hA⟩
  .intro hq;have hq':oy (ch f.st ev).1=true:=by
    rw[<- q_ hs];have:o.e.st=((ch f.st ev).1:Nat):=E.st
    rw[<- this];exact hq
   have:=(hdu hq').1
   show now+1<o.e.du/\o.e.du<=now+1+3
   omega
  .show LeC c0 (gr o.e)
   rw[hA];exact h.g.ask
  .show ∃c,LeC c0 c/\o.F1=jD c
   rw[E.f1];split
   .exact ⟨gr y.e,h.g.ask,rfl⟩
   .exact h.g.f1
  .intro hne;show o.F1=jD (gr o.e)
   rw[E.f1,hA];rcases hev with q|q
   .rw [if_pos (hsc.1 q).1];rfl
   .exfalso;apply hne
    show o.e.st=3
    rw[E.st,(hsc.2 q).2.2];rfl
  .show AP c0 o.F2
   rw[E.f2];exact h.g.f2
  .intro hr;have hr':oy (ch f.st ev).1=true:=hr;obtain⟨d1,d2⟩:=hdu hr';show o.e.du=now+1+((io f ev).rem:Nat)
   rw[d1];unfold io;dsimp only;rw[if_pos hr',(hsc.1 d2).1,(hsc.1 d2).2,if_pos (by rfl)];rfl
  .intro hz;have h2:=h.tr hz;show o.e.tr=((io f ev).tr:Nat)
   rw[E.tr,h2];unfold io;dsimp only;cases(ch f.st ev).2.1<;>cases(ch f.st ev).2.2<;>simp only[if_true,if_false,Bool.false_eq_true]<;>omega
  .show (y.ln++o.sn).take 40=(y.ln++((if(ch f.st ev).2.2=true then[(⟨1,o.e.id,co (Op.bytes o.F1)⟩:Op.Pk)]else[])++[])).take 40
   rw[E.sn,E.id,E.f1];split
   .rfl
   .rfl
  .exact E.id
  .intro hq;show o.F1=y.F1
   rw[E.f1,if_neg (by rw[hq];decide)]
 constructor
 .intro ht;have e:dq y.e y.F1 y.F2 (now+1)=bj (bY (now+1)) ⟨y.e,y.F1,y.F2,[],[]⟩ (im 4):=by
   unfold dq;rw[if_pos hb,if_neg hd,if_pos ht];rfl
  have E:=Hk (c:=bY (now+1)) (e:=y.e) (F1:=y.F1) (F2:=y.F2) h678 h.st;have hk:=(hR.yes (by rw[e];exact E.cd)).1;unfold gd;rw[e]at hk|-;exact hfin _ 4 (Or.inl rfl) E hk
 .intro ht;have e:dq y.e y.F1 y.F2 (now+1)=bj (bY (now+1)) ⟨y.e,y.F1,y.F2,[],[]⟩ (im 5):=by
   unfold dq;rw[if_pos hb,if_neg hd,if_neg ht];rfl
  have E:=Hl (c:=bY (now+1)) (e:=y.e) (F1:=y.F1) (F2:=y.F2) h678 h.st;have hk:=(hR.yes (by rw[e];exact E.cd)).1;unfold gd;rw[e]at hk|-;exact hfin _ 5 (Or.inr rfl) E hk
end
section
abbrev Gh:=Option (Nat × Int)
def Pr(cx cy:Cf)(x y:Sd)(g:Gh)(p:Op.Pk):Fp->Prop
 | .R=>p=mj x
 | .K=>p=⟨2,y.e.id,co (Op.bytes y.F1)⟩/\x.F2=y.F1
 | .N=>∃g0 k0 L,g=some (g0,k0)/\p=⟨mh (mv cx) g0 k0 (gr y.e),y.e.id,co (Op.bytes L)⟩/\mh (mv cx) g0 k0 (gr y.e)≠2/\cC L=true /\
   (mh (mv cx) g0 k0 (gr y.e)=3->bF (gr y.e) L=pf (mv cx) g0 k0 (gr y.e))/\(mh (mv cx) g0 k0 (gr y.e)=4->gI (gr y.e) L=pf (mv cx) g0 k0 (gr y.e))/\(mh (mv cx) g0 k0 (gr y.e)=3->AM cy L)
 | .T=>False
inductive Al {α β:Type} (R:α->β->Prop):List α->List β->Prop
 | nil:Al R [] []
 | cons {a:α} {b:β} {l:List α} {m:List β} (h:R a b) (t:Al R l m):Al R (a::l) (b::m)
theorem Al.len{R:α->β->Prop}{l:List α}{m:List β}(h:Al R l m):l.length=m.length:=by
 induction h with
 | nil=>rfl
 | cons _ _ ih=>simp[ih]
theorem Al.imp{R S:α->β->Prop}{l:List α}{m:List β}(h:Al R l m)(f:∀a b,b∈m->R a b->S a b):Al S l m:=by
 induction h with
 | nil=>exact .nil
 | cons h t ih=>exact .cons (f _ _ (List.mem_cons_self ..) h) (ih fun a b hb=>f a b (List.mem_cons_of_mem _ hb))
theorem Al.app{R:α->β->Prop}{l l':List α}{m m':List β}(h:Al R l m)(h':Al R l' m'):Al R (l++l') (m++m'):=by
 induction h with
 | nil=>exact h'
 | cons h _ ih=>exact .cons h ih
def Bq:List Fp->Bool
 | []=>false
 | .R::r=>jB .N r
 | _::r=>Bq r
def EA(c:Cf)(g:Gh)(a:Cf):Prop:=∃g0 k0,g=some (g0,k0)/\tT (mv c) a=false/\pG g0 a=true
structure Rs(z:Bool)(nx ny:Int)(cx cy:Cf)(x y:Sd)(fx fy:Fe)(xy yx:List Fp)(gx gy:Gh):Prop where
 nwx:0<=nx/\nx<=900000000
 nwy:0<=ny/\ny<=900000000
 ex:Re z nx cx x fx
 ey:Re z ny cy y fy
 lx:Al (Pr cx cy x y gy) x.ln xy
 ly:Al (Pr cy cx y x gx) y.ln yx
 nnx:gx.isSome=jB .N yx
 nny:gy.isSome=jB .N xy
 sx:fx.st=7\/fx.st=9->y.F2=x.F1
 sy:fy.st=7\/fy.st=9->x.F2=y.F1
 jx:Bq xy=true->EA cx gy (gr y.e)->(gr x.e).g=(gr y.e).g
 jy:Bq yx=true->EA cy gx (gr x.e)->(gr x.e).g=(gr y.e).g
theorem Rs.swap{nx ny:Int}{x y:Sd}{fx fy:Fe}{xy yx:List Fp}{gx gy:Gh}(h:Rs z nx ny cx cy x y fx fy xy yx gx gy):Rs z ny nx cy cx y x fy fx yx xy gy gx :=
 ⟨h.nwy,h.nwx,h.ey,h.ex,h.ly,h.lx,h.nny,h.nnx,h.sy,h.sx,fun a b=>(h.jy a b).symm,fun a b=>(h.jx a b).symm⟩
def vA(c:Cf)(g:Gh)(a:Cf):Cf:=match g with
 | none=>a
 | some q=>pf (mv c) q.1 q.2 a
def wt(c:Cf)(g:Gh)(a:Cf)(k:Int):Nat:=match g with
 | none=>(4-k).toNat
 | some q=>if q.2=3/\tT (mv c) a=false/\pG q.1 a=true then 0 else(4-k).toNat
def Calm(cx cy:Cf)(ax ay:Cf)(gx gy:Gh):Prop:=ax.g=0\/ay.g=0\/(ax.g≠ay.g/\¬EA cy gx ax/\¬EA cx gy ay)
open Classical in
noncomputable def Pot(cx cy:Cf)(ax ay:Cf)(kx ky:Int)(gx gy:Gh):Nat :=
 rN (mv cy) (vA cy gx ax)+rN (mv cx) (vA cx gy ay)+(if Calm cx cy ax ay gx gy then 0 else wt cy gx ax ky+wt cx gy ay kx)
theorem Calm.swap{gx gy:Gh}:Calm cx cy ax ay gx gy↔Calm cy cx ay ax gy gx:=by
 unfold Calm;constructor
 .rintro (h|h|⟨h1,h2,h3⟩)
  .exact Or.inr (Or.inl h)
  .exact Or.inl h
  .exact Or.inr (Or.inr ⟨fun e=>h1 e.symm,h3,h2⟩)
 .rintro (h|h|⟨h1,h2,h3⟩)
  .exact Or.inr (Or.inl h)
  .exact Or.inl h
  .exact Or.inr (Or.inr ⟨fun e=>h1 e.symm,h3,h2⟩)
theorem Pot.swap(cx cy ax ay:Cf)(kx ky:Int)(gx gy:Gh):Pot cx cy ax ay kx ky gx gy=Pot cy cx ay ax ky kx gy gx:=by
 unfold Pot;by_cases h:Calm cx cy ax ay gx gy
 .rw [if_pos h,if_pos (Calm.swap.1 h)];omega
 .rw [if_neg h,if_neg (fun q=>h (Calm.swap.2 q))];omega
theorem Pot.le(cx cy ax ay:Cf)(kx ky:Int)(gx gy:Gh)(hx:0<=kx)(hy:0<=ky):Pot cx cy ax ay kx ky gx gy<=16:=by
 have w4:∀(c:Cf)(g:Gh)(a:Cf)(k:Int),0<=k->wt c g a k<=4:=by
  intro c g a k hk;unfold wt;split
  .omega
  .split<;>omega
 have h1:=Ez (mv cy) (vA cy gx ax);have h2:=Ez (mv cx) (vA cx gy ay);have h3:=w4 cy gx ax ky hy;have h4:=w4 cx gy ay kx hx;unfold Pot;split<;>omega
theorem Aq(y:Ye)(G:Nat)(k:Int)(x:Cf):mh y G k x=2\/mh y G k x=3\/mh y G k x=4:=by
 unfold mh;repeat' split
 all_goals omega
theorem Ec{y:Ye}(h:mh y G k x≠2):tT y x=true\/yo y G x=true:=by
 unfold mh at h;cases hr:tT y x
 .cases hn:yo y G x
  .rw [hr,hn]at h;simp at h
  .exact Or.inr rfl
 .exact Or.inl rfl
theorem Ed{gy:Gh}(hk:0<=ky/\ky<=3)(h:mh (mv cy) ay.g ky ax≠2):Pot cx cy ax ay kx (if mh (mv cy) ay.g ky ax=3 then min 3 (ky+1)else ky) (some (ay.g,ky)) gy+1<=Pot cx cy ax ay kx ky none gy:=by
 have hr:=Fk (mv cy) ay.g ky ax;have hv:vA cy (some (ay.g,ky)) ax=pf (mv cy) ay.g ky ax:=rfl;have hv0:vA cy none ax=ax:=rfl;have hcalm:Calm cx cy ax ay none gy->Calm cx cy ax ay (some (ay.g,ky)) gy:=by
  rintro(q|q|⟨q1,q2,q3⟩)
  .exact Or.inl q
  .exact Or.inr (Or.inl q)
  .refine Or.inr (Or.inr ⟨q1,?_,q3⟩);rintro⟨g0,k0,e,_,hg⟩;injection e with e;injection e with e1 e2;subst e1;exact q1 (vx.1 hg).2
 have hw0:wt cy none ax ky=(4-ky).toNat:=rfl;have hwle:wt cy (some (ay.g,ky)) ax (if mh (mv cy) ay.g ky ax=3 then min 3 (ky+1)else ky)<=wt cy none ax ky:=by
  rw[hw0];unfold wt;dsimp only;split
  .omega
  .split<;>omega
 by_cases hb:tT (mv cy) ax=true\/oS (mv cy) ax=true\/pl (mv cy) ax=true
 .have h1:=hr.2 hb;unfold Pot;rw[hv,hv0];by_cases hc:Calm cx cy ax ay none gy
  .rw [if_pos hc,if_pos (hcalm hc)];omega
  .rw [if_neg hc];split
   .omega
   .omega
 .have hrb:tT (mv cy) ax=false:=by
   cases q:tT (mv cy) ax
   .rfl
   .exact absurd (Or.inl q) hb
  have hab:oS (mv cy) ax=false:=by
   cases q:oS (mv cy) ax
   .rfl
   .exact absurd (Or.inr (Or.inl q)) hb
  have hdb:pl (mv cy) ax=false:=by
   cases q:pl (mv cy) ax
   .rfl
   .exact absurd (Or.inr (Or.inr q)) hb
  have hgb:pG ay.g ax=true:=by
   rcases Ec h with q|q
   .rw [hrb]at q;cases q
   .unfold yo at q;rw[hab,hdb]at q;simpa using q
  have hg:=vx.1 hgb;have hnc:¬Calm cx cy ax ay none gy:=by
   rintro(q|q|⟨q1,_⟩)
   .exact hg.1 q
   .exact hg.1 (hg.2.trans q)
   .exact q1 hg.2
  have hnb:yo (mv cy) ay.g ax=true:=by unfold yo;rw[hgb];simp
  have hans:mh (mv cy) ay.g ky ax=if ky=3 then 4 else 3:=by
   unfold mh;rw[hrb,hnb];simp
  have hwlt:wt cy (some (ay.g,ky)) ax (if mh (mv cy) ay.g ky ax=3 then min 3 (ky+1)else ky)+1<=wt cy none ax ky:=by
   rw[hw0,hans];unfold wt;dsimp only;by_cases h3:ky=3
   .rw [if_pos ⟨h3,hrb,hgb⟩];omega
   .rw [if_neg (fun q=>h3 q.1),if_neg h3,if_pos rfl];omega
  unfold Pot;rw[hv,hv0,if_neg hnc];have:=hr.1
  split<;>omega
theorem Ee{gy:Gh}(h:pG ay.g ax=false)(hj:EA cx gy ay->ax.g=ay.g):Pot cx cy ax ay kx 0 none gy<=Pot cx cy ax ay kx ky none gy:=by
 have hc:Calm cx cy ax ay none gy:=by
  by_cases h0:ax.g=0
  .exact Or.inl h0
  .by_cases h1:ax.g=ay.g
   .have:pG ay.g ax=true:=vx.2 ⟨h0,h1⟩
    rw[h]at this;cases this
   .refine Or.inr (Or.inr ⟨h1,?_,fun q=>h1 (hj q)⟩);rintro⟨_,_,e,_⟩;cases e
 unfold Pot;rw[if_pos hc,if_pos hc];exact zD _
theorem Ef{gx:Gh}{g0:Nat}{k0:Int}:Pot cx cy ax (pf (mv cx) g0 k0 ay) kx ky gx none<=Pot cx cy ax ay kx ky gx (some (g0,k0)):=by
 have hv:vA cx (some (g0,k0)) ay=pf (mv cx) g0 k0 ay:=rfl;have hv0:vA cx none (pf (mv cx) g0 k0 ay)=pf (mv cx) g0 k0 ay:=rfl;have hg:=Fl (mv cx) g0 k0 ay;have nn:∀c a,¬EA c none a:=fun c a=>by rintro⟨_,_,e,_⟩;cases e
 have hcalm:Calm cx cy ax ay gx (some (g0,k0))->Calm cx cy ax (pf (mv cx) g0 k0 ay) gx none:=by
  rintro(q|q|⟨q1,q2,q3⟩)
  .exact Or.inl q
  .refine Or.inr (Or.inl ?_);rw[hg,if_neg]
   .exact q
   .rintro ⟨_,h2⟩;exact(vx.1 h2).1 q
  .refine Or.inr (Or.inr ⟨?_,q2,nn _ _⟩);rw[hg,if_neg]
   .exact q1
   .rintro ⟨h1,h2⟩;exact q3 ⟨g0,k0,rfl,h1,h2⟩
 unfold Pot;rw[hv,hv0];by_cases hc:Calm cx cy ax ay gx (some (g0,k0))
 .rw [if_pos hc,if_pos (hcalm hc)];exact zD _
 .rw [if_neg hc];by_cases hm:k0=3/\tT (mv cx) ay=false/\pG g0 ay=true
  .have:Calm cx cy ax (pf (mv cx) g0 k0 ay) gx none:=by
    refine Or.inr (Or.inl ?_);rw[hg,if_pos ⟨hm.2.1,hm.2.2⟩,if_pos hm.1]
   rw[if_pos this];omega
  .have e1:wt cx (some (g0,k0)) ay kx=(4-kx).toNat:=if_neg hm;have e2:wt cx none (pf (mv cx) g0 k0 ay) kx=(4-kx).toNat:=rfl;rw[e1,e2];split<;>omega
end
structure Nigh(B:Nat)(w w':World):Prop where
 os:w'.os=w.os
 tape:w'.tape=w.tape
 output:w'.output=w.output
 size:w.heap.size<=w'.heap.size
 block:∀g,g<w.heap.size->g≠B->w'.heap[g]?=w.heap[g]?
theorem Nigh.refl(B:Nat)(w:World):Nigh B w w:=⟨rfl,rfl,rfl,zD _,fun _ _ _=>rfl⟩
theorem Nigh.trans{a b c:World}(h:Nigh B a b)(k:Nigh B b c):Nigh B a c :=
 ⟨k.os.trans h.os,k.tape.trans h.tape,k.output.trans h.output,zE h.size k.size,fun g hg hne=>(k.block g (Nat.lt_of_lt_of_le hg h.size) hne).trans (h.block g hg hne)⟩
theorem Nigh.of_touch(h:Touch B w w'):Nigh B w w':=⟨h.os,h.tape,h.output,Nat.le_of_eq h.size.symm,fun g _ hne=>h.block g hne⟩
theorem Nigh.of_below(h:Below w w w'):Nigh B w w':=⟨h.os,h.tape,h.output,h.size,fun g hg _=>h.block g hg⟩
theorem Nigh.alloc{a:World}(h:Nigh B a w)(o:Obj):Nigh B a (w.alloc o):=h.trans (Nigh.of_below ((zC _ _).alloc (zD _) o))
theorem Nigh.grown{a:World}{row:Option Nat}(h:Nigh B a w)(hg:w.grownBy w' row)(hr:∀q,row=some q->a.heap.size<=q):Nigh B a w' :=
 ⟨hg.os.trans h.os,hg.tape.trans h.tape,hg.output.trans h.output,zE h.size hg.size,fun g hgl hne=>(hg.block g (Nat.lt_of_lt_of_le hgl h.size) fun e=>by have:=hr g e.symm;omega).trans (h.block g hgl hne)⟩
theorem Nigh.setCell{a:World}(h:Nigh B a w)(p:Addr)(v:Value)(hp:a.heap.size<=p.block):Nigh B a (w.setCell p v) :=
 ⟨h.os,h.tape,h.output,by simpa[World.setCell]using h.size,fun g hgl hne=>(zJ _ _ _ _ (by omega)).trans (h.block g hgl hne)⟩
theorem Nigh.below(h:Nigh B w w')(hB:B<=w.heap.size):Below B w w':=⟨h.os,h.tape,h.output,h.size,fun g hg=>h.block g (by omega) (by omega)⟩
def fE(l:List Int):List Value:=l.map (Value.int .i64)
theorem A6(l r:List Int):fE (l++r)=fE l++fE r:=by simp[fE]
theorem dB(l:List Int)(i:Nat)(t:Int)(h:l[i]?=some t):(fE l)[i]?=some (.int .i64 t):=by simp[fE,h]
theorem xO:∃i,prog.info? 2=some i/\i.zero=some (.int .i64 0)/\i.size=1/\i.bytes=8:=by
 have h:(prog.info? 2).map (fun i=>(i.zero,i.size,i.bytes))=some (some ((0:Int):V),1,8):=by kernel_rfl
 obtain⟨i,hi,hzz⟩:=Option.map_eq_some_iff.1 h;simp only[Prod.mk.injEq]at hzz;exact⟨i,hi,hzz.1,hzz.2.1,hzz.2.2⟩
def HoldsI(w:World)(v:Value)(L:List Int):Prop :=
 (∃ad cp,v=.slice ad 0 cp/\L=[])\/∃g cp cur,v=.slice (some ⟨g,0,none⟩) L.length cp/\w.heap[g]?=some (.cells cur 2)/\L.length<=cur.size/\∀j,j<L.length->cur[j]?=(fE L)[j]?
theorem HoldsI.own{base:Nat}{L:List Int}(h:w.ownsRow base 2 1 v L.length (fE L)):HoldsI w v L:=by
 rcases h.2 with⟨h1,h2⟩|⟨g,cap,cur,h1,_,h3,h4,_,h6,h7⟩
 .exact Or.inl ⟨_,_,h1,List.eq_nil_of_length_eq_zero h2⟩
 .refine Or.inr ⟨g,cap,cur,h1,h3,by rw[h6];omega,fun j hj=>?_⟩;rw[<- h7,List.getElem?_take,if_pos (by omega),Array.getElem?_toList]
theorem HoldsI.below{L:List Int}(h:HoldsI w v L)(hb:Below n w w')(hn:n=w.heap.size):HoldsI w' v L:=by
 subst hn;exact h.imp id fun⟨g,cp,cur,h1,h2,h3⟩=>⟨g,cp,cur,h1,(hb.block g (ge.1 h2).1).trans h2,h3⟩
theorem HoldsI.form{L:List Int}(h:HoldsI w v L):∃ad cp,v=.slice ad L.length cp:=by
 rcases h with⟨ad,cp,h1,h2⟩|⟨g,cp,cur,h1,_⟩
 .exact ⟨ad,cp,by rw[h1,h2];rfl⟩
 .exact ⟨_,_,h1⟩
theorem Cd{wr:World}{ops:Array Oper}{rest:List Oper}{o:Oper}{a:Act}{Q:Exit->Act->World->Prop}(hgd:o.guard=none)(s x:Operand)(ho:o.op=.call {callee:=.builtin .append,args:=#[s,x],argTypes:=#[25,25]})(base:Nat)(v:Value)(L:List Int)(n:Nat)(hn:L.length=n)(hs:a.eval s=v)(hown:wr.ownsRow base 2 1 v n (fE L))(t:Int)(hx:a.eval x=.slice (some (wr,0)) 1 1)(hlen:n<=1000000)(hbase:base<=wr.heap.size)(h:∀v' w',w'.ownsRow base 2 1 v' (n+1) (fE (L++[t]))->(wr.alloc (.cells #[t] 2)).grownBy w' v.ownBlock->wpList prog ops Q rest (a.put o.dst v') w'):wpList prog ops Q (o::rest) a (wr.alloc (.cells #[t] 2)):=by
 obtain⟨i0,hi0,hz0,hz1,hz2⟩:=xO;refine wpList_append_own _ hgd s x 25 ho base 2 i0 _ 1 8 underlying25 hi0 hz0 hz1 hz2 rfl (by decide) v n (fE L) hs (hown.alloc _) (wr,0) 1 1 [t] hx rfl ?_ ?_ ?_ ?_ ?_ ?_
 .intro i u hu;rw[Addr.add_lit,Nat.zero_add,World.cell?_alloc_at _ _ _ _ rfl,<- hu];simp
 .intro u hu;simp only[List.mem_cons,List.not_mem_nil,or_false]at hu;rw[hu];rfl
 .unfold maxLen;omega
 .omega
 .simp;omega
 .intro v' w2 hown2 hg2 _;refine h v' w2 ?_ hg2;rw[A6];exact hown2
section
open Go.ChangeShapes Go.WideShapes Go.ChangeAt Go.RowKit
theorem Eg:prog.cellsOf 5=1:=by kernel_rfl
theorem Fm{H:Type}{enc:TypeId × Value->H}{W:World}{a:Option Addr}{len cap:Nat}{d:DataW H}{ps:List MemPlace}(h:DataW.Trod enc prog W 0 (fun _=>true) true 22 (a,len,cap) d ps):Dat W W (a,len,cap) len/\len<=maxLen:=by
 obtain⟨fuel,hf⟩:=h;rcases open_ints underlying22 underlying5 Eg hf with⟨hcs,hx⟩|⟨a',len',cap',zs,hcs,_,hl,hm,hz,hx,hcell,hwz⟩
 .simp [Value.cells]at hcs;obtain⟨rfl,rfl,rfl⟩:=hcs;exact⟨⟨⟨_,_,rfl⟩,fun i hi=>absurd hi (Nat.not_lt_zero i)⟩,Nat.zero_le _⟩
 .simp [Value.cells]at hcs;obtain⟨rfl,rfl,rfl⟩:=hcs;simp only[if_true]at hz;refine⟨⟨⟨_,_,rfl⟩,fun i hi=>?_⟩,by omega⟩;have hc:=hcell i (by omega);obtain⟨b,o,sp⟩:=a';have hsp:sp=none:=by
   cases sp with
   | none=>rfl
   | some x =>
    have hc0:=hcell 0 (by omega);unfold World.cell? Addr.add at hc0;split at hc0<;>simp at hc0
  subst hsp;have hadd:(⟨b,o,none⟩:Addr).add i=⟨b,o+i,none⟩:=by unfold Addr.add;split<;>simp_all
  rw[hadd]at hc;have hw:=hwz (zs.getD i 0) (by
   rw[List.getD_eq_getElem?_getD,List.getElem?_eq_getElem (by omega)];exact List.getElem_mem _)
  have hb:0<=zs.getD i 0/\zs.getD i 0<=255:=by simpa[Lit.wf,IntKind.min,IntKind.max,IntKind.signed,IntKind.bits]using hw
  obtain⟨x,hx2⟩:=Int.eq_ofNat_of_zero_le hb.1;refine⟨b,o,cap,x,rfl,World.block_lt_of_cell? W _ hc,?_,by omega⟩;rw[hc,hx2]
end
end Go.Proofs.YtjdgiimfpkideaaGreatDoor
