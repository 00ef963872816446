/- EnM -/
import Derived.Test.YtjdgiimfpkideaaGreatDoorS27
namespace Go.Proofs.YtjdgiimfpkideaaGreatDoor
open Go.RowKit Go.Proofs.Tryz
variable {a b:ByteArray} {x:Bool × Bool} {s s':St} {c:Cx}
def Di(a b:ByteArray):Bool:=a.data.toList==b.data.toList
theorem Bj:Di a b=true↔a=b:=by
 obtain⟨⟨l⟩⟩:=a;obtain⟨⟨m⟩⟩:=b;unfold Di;constructor
 .intro h;have:l=m:=by simpa using h
  rw[this]
 .intro h;rw[h];simp
theorem Bl(h:a≠b):Di a b=false:=by
 cases e:Di a b
 .rfl
 .exact absurd (Bj.1 e) h
def DX(x:Bool × Bool)(a:ByteArray):Bool × Bool :=
 if Di a mP||Di a pY then(x.1,x.2 && !x.1)else if Di a dz then(true,true)else if Di a bL then(false,true)else x
structure Ir(x:Bool × Bool)(s:St):Prop where
 u:s.e.up=x.1
 l:x.2=true->(if s.e.up=true then dQ s.e.i1 s.e.i2 s.e.i3 s.e.i4 s.e.i5 (iJ s.F1)&&dQ s.e.o1 s.e.o2 s.e.o3 s.e.o4 s.e.o5 (iJ s.F2)else dQ s.e.i1 s.e.i2 s.e.i3 s.e.i4 s.e.i5 ⟨0,0,false,false,false⟩&&dQ s.e.o1 s.e.o2 s.e.o3 s.e.o4 s.e.o5 ⟨0,0,false,false,false⟩)=true
 d:-1<=s.e.du/\s.e.du<=1000000003
theorem Bb(x:Ln):dQ x.m x.a x.p x.c x.d x=true:=by
 unfold dQ;simp
theorem Ir.same(h:Ir x s)(e1:s'.e.up=s.e.up)(e2:(s'.e.i1,s'.e.i2,s'.e.i3,s'.e.i4,s'.e.i5)=(s.e.i1,s.e.i2,s.e.i3,s.e.i4,s.e.i5))(e3:(s'.e.o1,s'.e.o2,s'.e.o3,s'.e.o4,s'.e.o5)=(s.e.o1,s.e.o2,s.e.o3,s.e.o4,s.e.o5))(e4:s'.F1=s.F1)(e5:s'.F2=s.F2)(hd:-1<=s'.e.du/\s'.e.du<=1000000003):Ir x s':=by
 simp only[Prod.mk.injEq]at e2 e3;obtain⟨a1,a2,a3,a4,a5⟩:=e2;obtain⟨b1,b2,b3,b4,b5⟩:=e3;refine⟨e1.trans h.u,fun hx=>?_,hd⟩;have:=h.l hx
 rw[e1,a1,a2,a3,a4,a5,b1,b2,b3,b4,b5,e4,e5];exact this
theorem Ir.rows(h:Ir x s)(e1:s'.e.up=s.e.up)(e2:(s'.e.i1,s'.e.i2,s'.e.i3,s'.e.i4,s'.e.i5)=(s.e.i1,s.e.i2,s.e.i3,s.e.i4,s.e.i5))(e3:(s'.e.o1,s'.e.o2,s'.e.o3,s'.e.o4,s'.e.o5)=(s.e.o1,s.e.o2,s.e.o3,s.e.o4,s.e.o5))(hd:-1<=s'.e.du/\s'.e.du<=1000000003):Ir (x.1,x.2 && !x.1) s':=by
 simp only[Prod.mk.injEq]at e2 e3;obtain⟨a1,a2,a3,a4,a5⟩:=e2;obtain⟨b1,b2,b3,b4,b5⟩:=e3;refine⟨e1.trans h.u,fun hx=>?_,hd⟩;rw[zK]at hx;have h1:=h.l hx.1;have h2:s.e.up=false:=by
  rw[h.u];simpa using hx.2
 rw[e1,a1,a2,a3,a4,a5,b1,b2,b3,b4,b5,h2];rw[h2]at h1;exact h1
theorem Du(h1:a≠mP)(h2:a≠pY)(h3:a≠dz)(h4:a≠bL):DX x a=x:=by
 unfold DX;rw[Bl h1,Bl h2,Bl h3,Bl h4];rfl
theorem Ir.act(h:Ir x s)(hn:0<=c.now/\c.now<=1000000000)(a:ByteArray):Ir (DX x a) (bv c a s):=by
 have hd3:-1<=c.now+3/\c.now+3<=1000000003:=by omega
 unfold bv;by_cases h1:a=mO
 .subst h1;exact h.same rfl rfl rfl rfl rfl h.d
 rw[if_neg h1];by_cases h2:a=pT
 .subst h2;exact h.same rfl rfl rfl rfl rfl h.d
 rw[if_neg h2];by_cases h3:a=mP
 .subst h3;exact h.rows rfl rfl rfl hd3
 rw[if_neg h3];by_cases h4:a=mQ
 .subst h4;exact h.same rfl rfl rfl rfl rfl hd3
 rw[if_neg h4];by_cases h5:a=pY
 .subst h5;exact h.rows rfl rfl rfl h.d
 rw[if_neg h5];by_cases h6:a=pZ
 .subst h6;exact h.same rfl rfl rfl rfl rfl h.d
 rw[if_neg h6];by_cases h7:a=p5
 .subst h7;exact h.same rfl rfl rfl rfl rfl h.d
 rw[if_neg h7];by_cases h8:a=p6
 .subst h8;exact h.same rfl rfl rfl rfl rfl h.d
 rw[if_neg h8];by_cases h9:a=p7
 .subst h9;rw[if_pos rfl];unfold fj;split
  .exact h.same rfl rfl rfl rfl rfl h.d
  .exact h
 rw[if_neg h9];by_cases h10:a=dz
 .subst h10;refine⟨rfl,fun _=>?_,h.d⟩;show(dQ (iJ s.F1).m (iJ s.F1).a (iJ s.F1).p (iJ s.F1).c (iJ s.F1).d (iJ s.F1)&&dQ (iJ s.F2).m (iJ s.F2).a (iJ s.F2).p (iJ s.F2).c (iJ s.F2).d (iJ s.F2))=true
  rw[Bb,Bb];rfl
 rw[if_neg h10];by_cases h11:a=bL
 .subst h11;exact⟨rfl,fun _=>rfl,h.d⟩
 rw[if_neg h11,Du h3 h5 h10 h11];exact h.same rfl rfl rfl rfl rfl h.d
theorem Ir.fold(hn:0<=c.now/\c.now<=1000000000):∀(A:List ByteArray)(x:Bool × Bool)(s:St),Ir x s->Ir (A.foldl DX x) (A.foldl (fun s a=>bv c a s) s)
 | [],_,_,h=>h
 | a::A,x,s,h=>Ir.fold hn A (DX x a) (bv c a s) (h.act hn a)
theorem Dv(c:Cx)(a:ByteArray)(s:St):(bv c a s).tl=s.tl++[a]\/((bv c a s).tl=s.tl/\a≠dz/\a≠bL):=by
 unfold bv;by_cases h1:a=mO
 .subst h1;exact Or.inr ⟨rfl,by decide,by decide⟩
 rw[if_neg h1];by_cases h2:a=pT
 .subst h2;exact Or.inr ⟨rfl,by decide,by decide⟩
 rw[if_neg h2];by_cases h3:a=mP
 .subst h3;exact Or.inr ⟨rfl,by decide,by decide⟩
 rw[if_neg h3];by_cases h4:a=mQ
 .subst h4;exact Or.inr ⟨rfl,by decide,by decide⟩
 rw[if_neg h4];by_cases h5:a=pY
 .subst h5;exact Or.inr ⟨rfl,by decide,by decide⟩
 rw[if_neg h5];by_cases h6:a=pZ
 .subst h6;exact Or.inr ⟨rfl,by decide,by decide⟩
 rw[if_neg h6];by_cases h7:a=p5
 .subst h7;exact Or.inr ⟨rfl,by decide,by decide⟩
 rw[if_neg h7];by_cases h8:a=p6
 .subst h8;exact Or.inr ⟨rfl,by decide,by decide⟩
 rw[if_neg h8];by_cases h9:a=p7
 .subst h9;rw[if_pos rfl];refine Or.inr ⟨?_,by decide,by decide⟩;unfold fj;split<;>rfl
 rw[if_neg h9];by_cases h10:a=dz
 .subst h10;exact Or.inl rfl
 rw[if_neg h10];by_cases h11:a=bL
 .subst h11;exact Or.inl rfl
 rw[if_neg h11];exact Or.inl rfl
theorem An(c:Cx)(b:ByteArray)(hb:b=dz\/b=bL):∀(A:List ByteArray)(s:St),b∈(A.foldl (fun s a=>bv c a s) s).tl↔b∈s.tl\/b∈A
 | [],s=>by simp
 | a::A,s=>by
  rw[List.foldl_cons,An c b hb A];rcases Dv c a s with h|⟨h,n1,n2⟩
  .rw [h];simp only[List.mem_append,List.mem_cons,List.not_mem_nil,or_false];constructor
   .rintro ((h|h)|h)
    .exact Or.inl h
    .exact Or.inr (Or.inl h)
    .exact Or.inr (Or.inr h)
   .rintro (h|h|h)
    .exact Or.inl (Or.inl h)
    .exact Or.inl (Or.inr h)
    .exact Or.inr h
  .rw [h];have hn:b≠a:=fun e=>by
    rcases hb with hb|hb
    .exact n1 (e▸hb)
    .exact n2 (e▸hb)
   simp[hn]
def Cs(i k:Nat):Bool :=
 (iN i k == -1)||(decide (0<=iN i k/\iN i k<=9)&&(((cU (dE i k)).foldl DX (k==9,true)).2&&((((cU (dE i k)).foldl DX (k==9,true)).1==(iN i k==9)) &&
  (((((cU (dE i k)).foldl DX (k==9,true)).1 && !(k==9))==(cU (dE i k)).any (Di · dz))&&(((k==9) && !((cU (dE i k)).foldl DX (k==9,true)).1)==(cU (dE i k)).any (Di · bL))))))
theorem C5:((List.range 16).all fun i=>(List.range 10).all fun k=>Cs i k)=true:=by kernel_rfl
def B8(L:List ByteArray)(b:ByteArray):Bool:=L.any fun x=>x.toList==b.toList
theorem Ct(A:List ByteArray)(b:ByteArray):A.any (Di · b)=B8 A b:=by
 unfold B8 Di;congr 1
 funext x
 rw[ByteArray.toList_eq,ByteArray.toList_eq]
theorem Aa(A:List ByteArray)(b:ByteArray):B8 A b=true↔b∈A:=by
 rw[<- Ct,List.any_eq_true];constructor
 .rintro ⟨x,hx,h⟩;rw[<- Bj.1 h];exact hx
 .intro h;exact⟨b,h,Bj.2 rfl⟩
structure Ok9(e:En)(o:EO):Prop where
 no:o.cd≠0->o=bA o.cd
 yes:o.cd=0->dJ o.e o.F1 o.F2=true/\(o.e.up && !e.up)=B8 o.tl dz/\(e.up && !o.e.up)=B8 o.tl bL
theorem oT(e:En)(cd:Int)(h:cd≠0):Ok9 e (bA cd):=⟨fun _=>rfl,fun h0=>absurd h0 h⟩
theorem oz{e:En}{F1 F2:List Op.Opt}{i:Nat}(hi:i<16)(hf:Fit 0 c ⟨e,F1,F2,[],[]⟩)(hen:dJ e F1 F2=true):Ok9 e (bj c ⟨e,F1,F2,[],[]⟩ (im i)):=by
 have hen0:=hen;simp only[dJ,zK,bh,decide_eq_true_eq]at hen;obtain⟨_,_,hst,htr,hid,hfl,_,_,hdu,hup,hln⟩:=hen;obtain⟨k,hk⟩:∃k:Nat,e.st=(k:Int):=⟨e.st.toNat,by omega⟩;have hk10:k<10:=by omega
 obtain⟨hp,_,_⟩:=iO (gp hi) hk10;have hpl:=List.all_eq_true.1 (List.all_eq_true.1 C5 i (List.mem_range.2 hi)) k (List.mem_range.2 hk10);have hd0:-1<=e.du/\e.du<=1000000003:=by
  split at hdu
  .simp only[zK,decide_eq_true_eq]at hdu;omega
  .have:=eq_of_beq hdu
   omega
 have hup2:e.up=(k==9):=by
  have:=eq_of_beq hup
  rw[this,hk,Bool.eq_iff_iff];simp;omega
 have hir:Ir (k==9,true) ⟨e,F1,F2,[],[]⟩:=⟨hup2,fun _=>hln,hd0⟩;unfold bj;rw[show(St.mk e F1 F2 [] []).e.st=(k:Int)from hk,hp];by_cases hn:iN i k=-1
 .rw [if_pos hn,if_neg (show ¬((8:Int)=0)by decide)];exact oT e 8 (by decide)
 rw[if_neg hn];dsimp only;rw[if_pos rfl];unfold Cs at hpl;have hn2:(iN i k == -1)=false:=zL hn;rw[hn2,Bool.false_or]at hpl;simp only[zK,decide_eq_true_eq,Ct]at hpl;obtain⟨hr9,hcl,hu9,htu,htd⟩:=hpl;have hfold:=Ir.fold hf.now (cU (dE i k)) _ _ hir;have hfit:=hf.fold (cU (dE i k)) (cU (dE i k)).length;rw[List.take_length]at hfit;have t1:=An c dz (Or.inl rfl) (cU (dE i k)) ⟨e,F1,F2,[],[]⟩;have t2:=An c bL (Or.inr rfl) (cU (dE i k)) ⟨e,F1,F2,[],[]⟩;generalize cU (dE i k)=A at*;generalize iN i k=st' at*;generalize A.foldl DX (k==9,true)=xx at*;generalize A.foldl (fun s a=>bv c a s) ⟨e,F1,F2,[],[]⟩=s9 at*;obtain⟨u9,c9⟩:=xx;dsimp only at hcl hu9 htu htd hfold;subst hcl;have hu9':u9=(st'==9):=eq_of_beq hu9;have e1:s9.e.up=u9:=hfold.u;refine⟨fun h=>absurd rfl h,fun _=>⟨?_,?_,?_⟩⟩
 .have q1:=hfit.cf;have q2:=hfit.ask;have q3:=hfit.tr;have q4:=hfit.id;have q5:=hfit.fl;have q6:=hfit.f1;have q7:=hfit.f2;have q8:=hfold.l rfl;have q9:=hfold.d;have qn:=hf.now;unfold fm;simp only[dJ,zK,bh,decide_eq_true_eq];refine⟨q1,q2,hr9,q3,q4,q5,q6,q7,?_,?_,q8⟩
  .by_cases hrun:gj st'=true
   .rw [if_pos hrun,if_pos hrun];simp only[zK,decide_eq_true_eq];split
    .omega
    .rename_i hno
     rw[Bool.or_eq_true,decide_eq_true_eq]at hno;have:¬s9.e.du<0:=fun h=>hno (Or.inl h)
     omega
   .rw [if_neg hrun,if_neg hrun];rfl
  .rw [e1,hu9'];simp
 .show (s9.e.up && !e.up)=B8 s9.tl dz
  rw[e1,hup2];have:=eq_of_beq htu
  rw[this,Bool.eq_iff_iff,Aa,Aa,t1];simp
 .show (e.up && !s9.e.up)=B8 s9.tl bL
  rw[e1,hup2];have:=eq_of_beq htd
  rw[this,Bool.eq_iff_iff,Aa,Aa,t2];simp
end Go.Proofs.YtjdgiimfpkideaaGreatDoor
