/- EnM -/
import Derived.Test.YtjebigodbnefiaaGreatDoorS26
namespace Go.Proofs.YtjebigodbnefiaaGreatDoor
open Go.RowKit Go.Proofs.Tryz
def zb (a b:ByteArray):Bool:=a.data.toList == b.data.toList
theorem yf {a b:ByteArray}:zb a b=true↔a=b:=by
 obtain ⟨⟨l⟩⟩:=a;obtain ⟨⟨m⟩⟩:=b;unfold zb;constructor
 ·intro h;have:l=m:=by simpa using h
  rw [this]
 ·intro h;rw [h];simp
theorem mT {a b:ByteArray} (h:a≠b):zb a b=false:=by
 cases e:zb a b
 ·rfl
 ·exact absurd (yf.1 e) h
def AL (x:Bool × Bool) (a:ByteArray):Bool × Bool :=
 if zb a mP || zb a pY then (x.1,x.2 && !x.1) else if zb a dz then (true,true) else if zb a bL then (false,true) else x
structure Ir (x:Bool × Bool) (s:St):Prop where
 u:s.e.up=x.1
 l:x.2=true→(if s.e.up=true then dQ s.e.i1 s.e.i2 s.e.i3 s.e.i4 s.e.i5 (aQ s.F1) && dQ s.e.o1 s.e.o2 s.e.o3 s.e.o4 s.e.o5 (aQ s.F2) else dQ s.e.i1 s.e.i2 s.e.i3 s.e.i4 s.e.i5 ⟨0,0,false,false,false⟩ && dQ s.e.o1 s.e.o2 s.e.o3 s.e.o4 s.e.o5 ⟨0,0,false,false,false⟩)=true
 d:-1≤s.e.du∧s.e.du≤1000000003
theorem gU (x:Ln):dQ x.m x.a x.p x.c x.d x=true:=by
 unfold dQ;simp
theorem Ir.same {x:Bool × Bool} {s s':St} (h:Ir x s) (e1:s'.e.up=s.e.up) (e2:(s'.e.i1,s'.e.i2,s'.e.i3,s'.e.i4,s'.e.i5)=(s.e.i1,s.e.i2,s.e.i3,s.e.i4,s.e.i5)) (e3:(s'.e.o1,s'.e.o2,s'.e.o3,s'.e.o4,s'.e.o5)=(s.e.o1,s.e.o2,s.e.o3,s.e.o4,s.e.o5)) (e4:s'.F1=s.F1) (e5:s'.F2=s.F2) (hd:-1≤s'.e.du∧s'.e.du≤1000000003):Ir x s':=by
 simp only [Prod.mk.injEq] at e2 e3;obtain ⟨a1,a2,a3,a4,a5⟩:=e2;obtain ⟨b1,b2,b3,b4,b5⟩:=e3;refine ⟨e1.trans h.u,fun hx=>?_,hd⟩;have:=h.l hx
 rw [e1,a1,a2,a3,a4,a5,b1,b2,b3,b4,b5,e4,e5];exact this
theorem Ir.rows {x:Bool × Bool} {s s':St} (h:Ir x s) (e1:s'.e.up=s.e.up) (e2:(s'.e.i1,s'.e.i2,s'.e.i3,s'.e.i4,s'.e.i5)=(s.e.i1,s.e.i2,s.e.i3,s.e.i4,s.e.i5)) (e3:(s'.e.o1,s'.e.o2,s'.e.o3,s'.e.o4,s'.e.o5)=(s.e.o1,s.e.o2,s.e.o3,s.e.o4,s.e.o5)) (hd:-1≤s'.e.du∧s'.e.du≤1000000003):Ir (x.1,x.2 && !x.1) s':=by
 simp only [Prod.mk.injEq] at e2 e3;obtain ⟨a1,a2,a3,a4,a5⟩:=e2;obtain ⟨b1,b2,b3,b4,b5⟩:=e3;refine ⟨e1.trans h.u,fun hx=>?_,hd⟩;rw [Bool.and_eq_true] at hx;have h1:=h.l hx.1;have h2:s.e.up=false:=by
  rw [h.u];simpa using hx.2
 rw [e1,a1,a2,a3,a4,a5,b1,b2,b3,b4,b5,h2];rw [h2] at h1;exact h1
theorem wa {a:ByteArray} {x:Bool × Bool} (h1:a≠mP) (h2:a≠pY) (h3:a≠dz) (h4:a≠bL):AL x a=x:=by
 unfold AL;rw [mT h1,mT h2,mT h3,mT h4];rfl
theorem Ir.act {x:Bool × Bool} {c:Cx} {s:St} (h:Ir x s) (hn:0≤c.now∧c.now≤1000000000) (a:ByteArray):Ir (AL x a) (bv c a s):=by
 have hd3:-1≤c.now+3∧c.now+3≤1000000003:=by omega
 unfold bv;by_cases h1:a=mO
 ·subst h1;exact h.same rfl rfl rfl rfl rfl h.d
 rw [if_neg h1];by_cases h2:a=pT
 ·subst h2;exact h.same rfl rfl rfl rfl rfl h.d
 rw [if_neg h2];by_cases h3:a=mP
 ·subst h3;exact h.rows rfl rfl rfl hd3
 rw [if_neg h3];by_cases h4:a=mQ
 ·subst h4;exact h.same rfl rfl rfl rfl rfl hd3
 rw [if_neg h4];by_cases h5:a=pY
 ·subst h5;exact h.rows rfl rfl rfl h.d
 rw [if_neg h5];by_cases h6:a=pZ
 ·subst h6;exact h.same rfl rfl rfl rfl rfl h.d
 rw [if_neg h6];by_cases h7:a=sB
 ·subst h7;exact h.same rfl rfl rfl rfl rfl h.d
 rw [if_neg h7];by_cases h8:a=p6
 ·subst h8;exact h.same rfl rfl rfl rfl rfl h.d
 rw [if_neg h8];by_cases h9:a=p7
 ·subst h9;rw [if_pos rfl];unfold fj;split
  ·exact h.same rfl rfl rfl rfl rfl h.d
  ·exact h
 rw [if_neg h9];by_cases h10:a=dz
 ·subst h10;refine ⟨rfl,fun _=>?_,h.d⟩;show (dQ (aQ s.F1).m (aQ s.F1).a (aQ s.F1).p (aQ s.F1).c (aQ s.F1).d (aQ s.F1) && dQ (aQ s.F2).m (aQ s.F2).a (aQ s.F2).p (aQ s.F2).c (aQ s.F2).d (aQ s.F2))=true
  rw [gU,gU];rfl
 rw [if_neg h10];by_cases h11:a=bL
 ·subst h11;exact ⟨rfl,fun _=>rfl,h.d⟩
 rw [if_neg h11,wa h3 h5 h10 h11];exact h.same rfl rfl rfl rfl rfl h.d
theorem Ir.fold {c:Cx} (hn:0≤c.now∧c.now≤1000000000):∀ (A:List ByteArray) (x:Bool × Bool) (s:St),Ir x s→Ir (A.foldl AL x) (A.foldl (fun s a=>bv c a s) s)
 | [],_,_,h=>h
 | a :: A,x,s,h=>Ir.fold hn A (AL x a) (bv c a s) (h.act hn a)
def AM (L:List ByteArray) (b:ByteArray):Bool:=L.any fun x=>x.toList == b.toList
structure Ok9 (e:En) (o:EO):Prop where
 no:o.cd≠0→o=bA o.cd
 yes:o.cd=0→dJ o.e o.F1 o.F2=true∧(o.e.up && !e.up)=AM o.tl dz∧(e.up && !o.e.up)=AM o.tl bL
end Go.Proofs.YtjebigodbnefiaaGreatDoor
