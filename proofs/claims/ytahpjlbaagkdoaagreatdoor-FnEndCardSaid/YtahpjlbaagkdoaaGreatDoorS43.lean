/- EnM -/
import Derived.Test.YtahpjlbaagkdoaaGreatDoorS24
namespace Go.Proofs.YtahpjlbaagkdoaaGreatDoor
open Go.RowKit Go.Proofs.Tryz
def isA (a b:ByteArray):Bool:=a.data.toList == b.data.toList
theorem isA_iff {a b:ByteArray}:isA a b=true↔a=b:=by
 obtain ⟨⟨l⟩⟩:=a;obtain ⟨⟨m⟩⟩:=b;unfold isA;constructor
 ·intro h;have:l=m:=by simpa using h
  rw [this]
 ·intro h;rw [h];simp
theorem isA_no {a b:ByteArray} (h:a≠b):isA a b=false:=by
 cases e:isA a b
 ·rfl
 ·exact absurd (isA_iff.1 e) h
def upA (x:Bool × Bool) (a:ByteArray):Bool × Bool :=
 if isA a nScr || isA a nSca then (x.1,x.2 && !x.1) else if isA a nTlu then (true,true) else if isA a nTld then (false,true) else x
structure Ir (x:Bool × Bool) (s:St):Prop where
 u:s.e.up=x.1
 l:x.2=true→(if s.e.up=true then lnIs s.e.i1 s.e.i2 s.e.i3 s.e.i4 s.e.i5 (lineOf s.F1) && lnIs s.e.o1 s.e.o2 s.e.o3 s.e.o4 s.e.o5 (lineOf s.F2) else lnIs s.e.i1 s.e.i2 s.e.i3 s.e.i4 s.e.i5 ⟨0,0,false,false,false⟩ && lnIs s.e.o1 s.e.o2 s.e.o3 s.e.o4 s.e.o5 ⟨0,0,false,false,false⟩)=true
 d:-1≤s.e.du∧s.e.du≤1000000003
theorem lnIs_self (x:Ln):lnIs x.m x.a x.p x.c x.d x=true:=by
 unfold lnIs;simp
theorem Ir.same {x:Bool × Bool} {s s':St} (h:Ir x s) (e1:s'.e.up=s.e.up) (e2:(s'.e.i1,s'.e.i2,s'.e.i3,s'.e.i4,s'.e.i5)=(s.e.i1,s.e.i2,s.e.i3,s.e.i4,s.e.i5)) (e3:(s'.e.o1,s'.e.o2,s'.e.o3,s'.e.o4,s'.e.o5)=(s.e.o1,s.e.o2,s.e.o3,s.e.o4,s.e.o5)) (e4:s'.F1=s.F1) (e5:s'.F2=s.F2) (hd:-1≤s'.e.du∧s'.e.du≤1000000003):Ir x s':=by
 simp only [Prod.mk.injEq] at e2 e3;obtain ⟨a1,a2,a3,a4,a5⟩:=e2;obtain ⟨b1,b2,b3,b4,b5⟩:=e3;refine ⟨e1.trans h.u,fun hx=>?_,hd⟩;have:=h.l hx
 rw [e1,a1,a2,a3,a4,a5,b1,b2,b3,b4,b5,e4,e5];exact this
theorem Ir.rows {x:Bool × Bool} {s s':St} (h:Ir x s) (e1:s'.e.up=s.e.up) (e2:(s'.e.i1,s'.e.i2,s'.e.i3,s'.e.i4,s'.e.i5)=(s.e.i1,s.e.i2,s.e.i3,s.e.i4,s.e.i5)) (e3:(s'.e.o1,s'.e.o2,s'.e.o3,s'.e.o4,s'.e.o5)=(s.e.o1,s.e.o2,s.e.o3,s.e.o4,s.e.o5)) (hd:-1≤s'.e.du∧s'.e.du≤1000000003):Ir (x.1,x.2 && !x.1) s':=by
 simp only [Prod.mk.injEq] at e2 e3;obtain ⟨a1,a2,a3,a4,a5⟩:=e2;obtain ⟨b1,b2,b3,b4,b5⟩:=e3;refine ⟨e1.trans h.u,fun hx=>?_,hd⟩;rw [Bool.and_eq_true] at hx;have h1:=h.l hx.1;have h2:s.e.up=false:=by
  rw [h.u];simpa using hx.2
 rw [e1,a1,a2,a3,a4,a5,b1,b2,b3,b4,b5,h2];rw [h2] at h1;exact h1
theorem upA_else {a:ByteArray} {x:Bool × Bool} (h1:a≠nScr) (h2:a≠nSca) (h3:a≠nTlu) (h4:a≠nTld):upA x a=x:=by
 unfold upA;rw [isA_no h1,isA_no h2,isA_no h3,isA_no h4];rfl
theorem Ir.act {x:Bool × Bool} {c:Cx} {s:St} (h:Ir x s) (hn:0≤c.now∧c.now≤1000000000) (a:ByteArray):Ir (upA x a) (actF c a s):=by
 have hd3:-1≤c.now+3∧c.now+3≤1000000003:=by omega
 unfold actF;by_cases h1:a=nIrc
 ·subst h1;exact h.same rfl rfl rfl rfl rfl h.d
 rw [if_neg h1];by_cases h2:a=nZrc
 ·subst h2;exact h.same rfl rfl rfl rfl rfl h.d
 rw [if_neg h2];by_cases h3:a=nScr
 ·subst h3;exact h.rows rfl rfl rfl hd3
 rw [if_neg h3];by_cases h4:a=nStr
 ·subst h4;exact h.same rfl rfl rfl rfl rfl hd3
 rw [if_neg h4];by_cases h5:a=nSca
 ·subst h5;exact h.rows rfl rfl rfl h.d
 rw [if_neg h5];by_cases h6:a=nScn
 ·subst h6;exact h.same rfl rfl rfl rfl rfl h.d
 rw [if_neg h6];by_cases h7:a=nSta
 ·subst h7;exact h.same rfl rfl rfl rfl rfl h.d
 rw [if_neg h7];by_cases h8:a=nScj
 ·subst h8;exact h.same rfl rfl rfl rfl rfl h.d
 rw [if_neg h8];by_cases h9:a=nSer
 ·subst h9;rw [if_pos rfl];unfold doSer;split
  ·exact h.same rfl rfl rfl rfl rfl h.d
  ·exact h
 rw [if_neg h9];by_cases h10:a=nTlu
 ·subst h10;refine ⟨rfl,fun _=>?_,h.d⟩;show (lnIs (lineOf s.F1).m (lineOf s.F1).a (lineOf s.F1).p (lineOf s.F1).c (lineOf s.F1).d (lineOf s.F1) && lnIs (lineOf s.F2).m (lineOf s.F2).a (lineOf s.F2).p (lineOf s.F2).c (lineOf s.F2).d (lineOf s.F2))=true
  rw [lnIs_self,lnIs_self];rfl
 rw [if_neg h10];by_cases h11:a=nTld
 ·subst h11;exact ⟨rfl,fun _=>rfl,h.d⟩
 rw [if_neg h11,upA_else h3 h5 h10 h11];exact h.same rfl rfl rfl rfl rfl h.d
theorem Ir.fold {c:Cx} (hn:0≤c.now∧c.now≤1000000000):∀ (A:List ByteArray) (x:Bool × Bool) (s:St),Ir x s→Ir (A.foldl upA x) (A.foldl (fun s a=>actF c a s) s)
 | [],_,_,h=>h
 | a :: A,x,s,h=>Ir.fold hn A (upA x a) (actF c a s) (h.act hn a)
theorem act_told (c:Cx) (a:ByteArray) (s:St):(actF c a s).tl=s.tl ++ [a]∨((actF c a s).tl=s.tl∧a≠nTlu∧a≠nTld):=by
 unfold actF;by_cases h1:a=nIrc
 ·subst h1;exact Or.inr ⟨rfl,by decide,by decide⟩
 rw [if_neg h1];by_cases h2:a=nZrc
 ·subst h2;exact Or.inr ⟨rfl,by decide,by decide⟩
 rw [if_neg h2];by_cases h3:a=nScr
 ·subst h3;exact Or.inr ⟨rfl,by decide,by decide⟩
 rw [if_neg h3];by_cases h4:a=nStr
 ·subst h4;exact Or.inr ⟨rfl,by decide,by decide⟩
 rw [if_neg h4];by_cases h5:a=nSca
 ·subst h5;exact Or.inr ⟨rfl,by decide,by decide⟩
 rw [if_neg h5];by_cases h6:a=nScn
 ·subst h6;exact Or.inr ⟨rfl,by decide,by decide⟩
 rw [if_neg h6];by_cases h7:a=nSta
 ·subst h7;exact Or.inr ⟨rfl,by decide,by decide⟩
 rw [if_neg h7];by_cases h8:a=nScj
 ·subst h8;exact Or.inr ⟨rfl,by decide,by decide⟩
 rw [if_neg h8];by_cases h9:a=nSer
 ·subst h9;rw [if_pos rfl];refine Or.inr ⟨?_,by decide,by decide⟩;unfold doSer;split<;>rfl
 rw [if_neg h9];by_cases h10:a=nTlu
 ·subst h10;exact Or.inl rfl
 rw [if_neg h10];by_cases h11:a=nTld
 ·subst h11;exact Or.inl rfl
 rw [if_neg h11];exact Or.inl rfl
theorem fold_told (c:Cx) (b:ByteArray) (hb:b=nTlu∨b=nTld):∀ (A:List ByteArray) (s:St),b ∈ (A.foldl (fun s a=>actF c a s) s).tl↔b ∈ s.tl∨b ∈ A
 | [],s=>by simp
 | a :: A,s=>by
  rw [List.foldl_cons,fold_told c b hb A];rcases act_told c a s with h | ⟨h,n1,n2⟩
  ·rw [h];simp only [List.mem_append,List.mem_cons,List.not_mem_nil,or_false];constructor
   ·rintro ((h | h) | h)
    ·exact Or.inl h
    ·exact Or.inr (Or.inl h)
    ·exact Or.inr (Or.inr h)
   ·rintro (h | h | h)
    ·exact Or.inl (Or.inl h)
    ·exact Or.inl (Or.inr h)
    ·exact Or.inr h
  ·rw [h];have hn:b≠a:=fun e=>by
    rcases hb with hb | hb
    ·exact n1 (e ▸ hb)
    ·exact n2 (e ▸ hb)
   simp [hn]
def placeUp (i k:Nat):Bool :=
 (nxtAt i k == -1) || (decide (0≤nxtAt i k∧nxtAt i k≤9) && (((wordsOf (actAt i k)).foldl upA (k == 9,true)).2 && ((((wordsOf (actAt i k)).foldl upA (k == 9,true)).1 == (nxtAt i k == 9)) &&
  (((((wordsOf (actAt i k)).foldl upA (k == 9,true)).1 && !(k == 9)) == (wordsOf (actAt i k)).any (isA · nTlu)) && (((k == 9) && !((wordsOf (actAt i k)).foldl upA (k == 9,true)).1) == (wordsOf (actAt i k)).any (isA · nTld))))))
theorem places_up:((List.range 16).all fun i=>(List.range 10).all fun k=>placeUp i k)=true:=by kernel_rfl
def hasT (L:List ByteArray) (b:ByteArray):Bool:=L.any fun x=>x.toList == b.toList
theorem any_isA (A:List ByteArray) (b:ByteArray):A.any (isA · b)=hasT A b:=by
 unfold hasT isA;congr 1
 funext x
 rw [ByteArray.toList_eq,ByteArray.toList_eq]
theorem hasT_iff (A:List ByteArray) (b:ByteArray):hasT A b=true↔b ∈ A:=by
 rw [← any_isA,List.any_eq_true];constructor
 ·rintro ⟨x,hx,h⟩;rw [← isA_iff.1 h];exact hx
 ·intro h;exact ⟨b,h,isA_iff.2 rfl⟩
structure Ok9 (e:En) (o:EO):Prop where
 no:o.cd≠0→o=eoErr o.cd
 yes:o.cd=0→enOk o.e o.F1 o.F2=true∧(o.e.up && !e.up)=hasT o.tl nTlu∧(e.up && !o.e.up)=hasT o.tl nTld
theorem ok9_err (e:En) (cd:Int) (h:cd≠0):Ok9 e (eoErr cd):=⟨fun _=>rfl,fun h0=>absurd h0 h⟩
theorem evF_right {c:Cx} {e:En} {F1 F2:List Op.Opt} {i:Nat} (hi:i<16) (hf:Fit 0 c ⟨e,F1,F2,[],[]⟩) (hen:enOk e F1 F2=true):Ok9 e (evF c ⟨e,F1,F2,[],[]⟩ (evT i)):=by
 have hen0:=hen;simp only [enOk,Bool.and_eq_true,within,decide_eq_true_eq] at hen;obtain ⟨_,_,hst,htr,hid,hfl,_,_,hdu,hup,hln⟩:=hen;obtain ⟨k,hk⟩:∃ k:Nat,e.st=(k:Int):=⟨e.st.toNat,by omega⟩;have hk10:k<10:=by omega
 obtain ⟨hp,_,_⟩:=place_at (evT_at hi) hk10;have hpl:=List.all_eq_true.1 (List.all_eq_true.1 places_up i (List.mem_range.2 hi)) k (List.mem_range.2 hk10);have hd0:-1≤e.du∧e.du≤1000000003:=by
  split at hdu
  ·simp only [Bool.and_eq_true,decide_eq_true_eq] at hdu;omega
  ·have:=eq_of_beq hdu
   omega
 have hup2:e.up=(k == 9):=by
  have:=eq_of_beq hup
  rw [this,hk,Bool.eq_iff_iff];simp;omega
 have hir:Ir (k == 9,true) ⟨e,F1,F2,[],[]⟩:=⟨hup2,fun _=>hln,hd0⟩;unfold evF;rw [show (St.mk e F1 F2 [] []).e.st=(k:Int) from hk,hp];by_cases hn:nxtAt i k=-1
 ·rw [if_pos hn,if_neg (show ¬ ((8:Int)=0) by decide)];exact ok9_err e 8 (by decide)
 rw [if_neg hn];dsimp only;rw [if_pos rfl];unfold placeUp at hpl;have hn2:(nxtAt i k == -1)=false:=beq_eq_false_iff_ne.2 hn;rw [hn2,Bool.false_or] at hpl;simp only [Bool.and_eq_true,decide_eq_true_eq,any_isA] at hpl;obtain ⟨hr9,hcl,hu9,htu,htd⟩:=hpl;have hfold:=Ir.fold hf.now (wordsOf (actAt i k)) _ _ hir;have hfit:=hf.fold (wordsOf (actAt i k)) (wordsOf (actAt i k)).length;rw [List.take_length] at hfit;have t1:=fold_told c nTlu (Or.inl rfl) (wordsOf (actAt i k)) ⟨e,F1,F2,[],[]⟩;have t2:=fold_told c nTld (Or.inr rfl) (wordsOf (actAt i k)) ⟨e,F1,F2,[],[]⟩;generalize wordsOf (actAt i k)=A at *;generalize nxtAt i k=st' at *;generalize A.foldl upA (k == 9,true)=xx at *;generalize A.foldl (fun s a=>actF c a s) ⟨e,F1,F2,[],[]⟩=s9 at *;obtain ⟨u9,c9⟩:=xx;dsimp only at hcl hu9 htu htd hfold;subst hcl;have hu9':u9=(st' == 9):=eq_of_beq hu9;have e1:s9.e.up=u9:=hfold.u;refine ⟨fun h=>absurd rfl h,fun _=>⟨?_,?_,?_⟩⟩
 ·have q1:=hfit.cf;have q2:=hfit.ask;have q3:=hfit.tr;have q4:=hfit.id;have q5:=hfit.fl;have q6:=hfit.f1;have q7:=hfit.f2;have q8:=hfold.l rfl;have q9:=hfold.d;have qn:=hf.now;unfold endE;simp only [enOk,Bool.and_eq_true,within,decide_eq_true_eq];refine ⟨q1,q2,hr9,q3,q4,q5,q6,q7,?_,?_,q8⟩
  ·by_cases hrun:runs st'=true
   ·rw [if_pos hrun,if_pos hrun];simp only [Bool.and_eq_true,decide_eq_true_eq];split
    ·omega
    ·rename_i hno
     rw [Bool.or_eq_true,decide_eq_true_eq] at hno;have:¬ s9.e.du<0:=fun h=>hno (Or.inl h)
     omega
   ·rw [if_neg hrun,if_neg hrun];rfl
  ·rw [e1,hu9'];simp
 ·show (s9.e.up && !e.up)=hasT s9.tl nTlu
  rw [e1,hup2];have:=eq_of_beq htu
  rw [this,Bool.eq_iff_iff,hasT_iff,hasT_iff,t1];simp
 ·show (e.up && !s9.e.up)=hasT s9.tl nTld
  rw [e1,hup2];have:=eq_of_beq htd
  rw [this,Bool.eq_iff_iff,hasT_iff,hasT_iff,t2];simp
end Go.Proofs.YtahpjlbaagkdoaaGreatDoor
