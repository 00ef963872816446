/- WkC SpecOne SpecRep LwD -/
import Derived.Test.YtjebigodbnefiaaGreatDoorS14
import Derived.Test.YtjebigodbnefiaaGreatDoorS15
import Derived.Test.YtjebigodbnefiaaGreatDoorS10
namespace Go.Proofs.YtjebigodbnefiaaGreatDoor
open Go.RowKit Go.Proofs.Tryz
theorem nN (e:En) (a1 a2:Option Addr) (n1 n2 m1 m2:Nat):(aA e (.slice a1 n1 m1) (.slice a2 n2 m2)).all (·.oneCell')=true:=by kernel_rfl
theorem bH (w:World) (g k:Nat) (cs:Array Value) (h:k≠g):(w.setRow g cs).heap[k]?=w.heap[k]?:=by
 unfold World.setRow;simp [Array.getElem?_modify,Ne.symm h]
structure OnS (w:World) (C O R:Array Value) (q:World):Prop where
 c:q.heap[w.heap.size]?=some (.cells C 35)
 o:q.heap[w.heap.size+1]?=some (.cells O 27)
 r:q.heap[w.heap.size+1+1]?=some (.cells R 27)
 b:Below w.heap.size w q
theorem OnS.step {w:World} {C O R:Array Value} {q q':World} (h:OnS w C O R q) (hb:Below q.heap.size q q'):OnS w C O R q' :=
 ⟨(hb.block _ (ge.1 h.c).1).trans h.c,(hb.block _ (ge.1 h.o).1).trans h.o,(hb.block _ (ge.1 h.r).1).trans h.r,h.b.trans (hb.mono h.b.size)⟩
theorem OnS.drew {w:World} {C O R:Array Value} {q:World} (h:OnS w C O R q):OnS w C O R q.drew:=⟨h.c,h.o,h.r,h.b.drew⟩
structure RpS (w:World) (N:Nat) (C:Array Value) (vn vr:Value) (Fn Fr:List Op.Opt) (q:World):Prop where
 c:q.heap[w.heap.size]?=some (.cells C 35)
 r:q.heap[w.heap.size+1]?=some (.cells #[.int .i64 0,.slice none 0 0] 180)
 n:q.heap[N]?=some (.cells #[.int .i64 3,vn] 180)
 j:q.heap[N+1]?=some (.cells #[.int .i64 4,vr] 180)
 b:Below w.heap.size w q
 on:q.ownsRow (N+1+1) 27 2 vn Fn.length (aj Fn)
 oj:q.ownsRow (N+1+1) 27 2 vr Fr.length (aj Fr)
 dj:∀ g,vn.ownBlock=some g→vr.ownBlock≠some g
 lt:w.heap.size+1<N
theorem RpS.size {w:World} {N:Nat} {C:Array Value} {vn vr:Value} {Fn Fr:List Op.Opt} {q:World} (h:RpS w N C vn vr Fn Fr q):N+1<q.heap.size:=(ge.1 h.j).1
theorem RpS.step {w:World} {N:Nat} {C:Array Value} {vn vr:Value} {Fn Fr:List Op.Opt} {q q':World} (h:RpS w N C vn vr Fn Fr q) (hb:Below q.heap.size q q'):RpS w N C vn vr Fn Fr q':=by
 have hs:=h.size;have hl:=h.lt;exact ⟨(hb.block _ (by omega)).trans h.c,(hb.block _ (by omega)).trans h.r,(hb.block _ (by omega)).trans h.n,(hb.block _ hs).trans h.j,h.b.trans (hb.mono h.b.size),ew h.on fun g hg=>hb.block g (World.ownsRow.lt h.on g hg).2,ew h.oj fun g hg=>hb.block g (World.ownsRow.lt h.oj g hg).2,h.dj,hl⟩
theorem RpS.drew {w:World} {N:Nat} {C:Array Value} {vn vr:Value} {Fn Fr:List Op.Opt} {q:World} (h:RpS w N C vn vr Fn Fr q):RpS w N C vn vr Fn Fr q.drew :=
 h.step ⟨rfl,rfl,rfl,zD _,fun _ _=>rfl⟩
theorem RpS.drewN {w:World} {N:Nat} {C:Array Value} {vn vr:Value} {Fn Fr:List Op.Opt} {q:World} (h:RpS w N C vn vr Fn Fr q) (k:Nat):RpS w N C vn vr Fn Fr (q.drewN k) :=
 h.step ⟨rfl,rfl,rfl,zD _,fun _ _=>rfl⟩
theorem RpS.putX {w:World} {N:Nat} {C:Array Value} {vn vr:Value} {Fn Fr:List Op.Opt} {q:World} (h:RpS w N C vn vr Fn Fr q) (X i:Nat) (x:Value) (hX:N+1<X) (h1:∀ g,vn.ownBlock=some g→g≠X) (h2:∀ g,vr.ownBlock=some g→g≠X):RpS w N C vn vr Fn Fr (q.setCell ⟨X,i,none⟩ x):=by
 have hl:=h.lt;refine ⟨?_,?_,?_,?_,h.b.setCell (p:=⟨X,i,none⟩) (by simp;omega) _,ew h.on fun g hg=>Below.heap_setCell _ _ _ _ (h1 g hg),ew h.oj fun g hg=>Below.heap_setCell _ _ _ _ (h2 g hg),h.dj,hl⟩
 ·rw [Below.heap_setCell _ _ _ _ (by simp;omega)];exact h.c
 ·rw [Below.heap_setCell _ _ _ _ (by simp;omega)];exact h.r
 ·rw [Below.heap_setCell _ _ _ _ (by simp;omega)];exact h.n
 ·rw [Below.heap_setCell _ _ _ _ (by simp;omega)];exact h.j
structure RpX (w:World) (N:Nat) (C:Array Value) (vn vr:Value) (Fn Fr:List Op.Opt) (kd:Int) (t:ByteArray) (X:Nat) (q:World):Prop where
 s:RpS w N C vn vr Fn Fr q
 x:q.heap[X]?=some (.cells #[.int .i64 kd,.string t] 27)
 l:N+1<X
 n1:∀ g,vn.ownBlock=some g→g≠X
 n2:∀ g,vr.ownBlock=some g→g≠X
theorem RpX.step {w:World} {N:Nat} {C:Array Value} {vn vr:Value} {Fn Fr:List Op.Opt} {kd:Int} {t:ByteArray} {X:Nat} {q q':World} (h:RpX w N C vn vr Fn Fr kd t X q) (hb:Below q.heap.size q q'):RpX w N C vn vr Fn Fr kd t X q' :=
 ⟨h.s.step hb,(hb.block _ (ge.1 h.x).1).trans h.x,h.l,h.n1,h.n2⟩
theorem RpX.drewN {w:World} {N:Nat} {C:Array Value} {vn vr:Value} {Fn Fr:List Op.Opt} {kd:Int} {t:ByteArray} {X:Nat} {q:World} (h:RpX w N C vn vr Fn Fr kd t X q) (k:Nat):RpX w N C vn vr Fn Fr kd t X (q.drewN k) :=
 h.step ⟨rfl,rfl,rfl,zD _,fun _ _=>rfl⟩
theorem RpX.new1 {w:World} {N:Nat} {C:Array Value} {vn vr:Value} {Fn Fr:List Op.Opt} {q q':World} (h:RpS w N C vn vr Fn Fr q) (hb:Below q.heap.size q q') (kd:Int) (t:ByteArray) :
  RpX w N C vn vr Fn Fr kd t q'.heap.size (q'.alloc (.cells #[.int .i64 kd,.string t] 27)):=by
 have hs:=h.size;have h2:=hb.size;refine ⟨(h.step hb).step ((zC _ _).alloc (zD _) _),zF q' _,by omega,fun g hg=>?_,fun g hg=>?_⟩
 ·have:=(World.ownsRow.lt h.on g hg).2;omega
 ·have:=(World.ownsRow.lt h.oj g hg).2;omega
theorem RpX.put {w:World} {N:Nat} {C:Array Value} {vn vr:Value} {Fn Fr:List Op.Opt} {kd:Int} {t:ByteArray} {X:Nat} {q:World} (h:RpX w N C vn vr Fn Fr kd t X q) (kd':Int) (t':ByteArray) :
  RpX w N C vn vr Fn Fr kd' t' X ((q.setCell ⟨X,0,none⟩ (.int .i64 kd')).setCell ⟨X,1,none⟩ (.string t')) :=
 ⟨(h.s.putX X 0 _ h.l h.n1 h.n2).putX X 1 _ h.l h.n1 h.n2,aM h.x _ _,h.l,h.n1,h.n2⟩
structure Rg (lo hi:Nat) (w w':World):Prop where
 os:w'.os=w.os
 tape:w'.tape=w.tape
 output:w'.output=w.output
 size:w.heap.size≤w'.heap.size
 block:∀ b,b<w.heap.size→¬ (lo≤b∧b<hi)→w'.heap[b]?=w.heap[b]?
theorem Rg.below {lo hi n:Nat} {w0 w w':World} (h:Rg lo hi w w') (hb:Below n w0 w) (hn:n≤lo) (h0:n≤w0.heap.size):Below n w0 w' :=
 ⟨h.os.trans hb.os,h.tape.trans hb.tape,h.output.trans hb.output,zE hb.size h.size,fun b hlt=>(h.block b (Nat.lt_of_lt_of_le hlt (zE h0 hb.size)) (fun e=>by omega)).trans (hb.block b hlt)⟩
def s8 (lo hi:Nat) (n:Nat) (v:Value):Prop:=∀ g,nb n v=some g→lo≤g∧g<hi
structure Four (lo hi n1 n2 n3 n4:Nat) (v1 v2 vs vt:Value):Prop where
 r1:s8 lo hi n1 v1
 r2:s8 lo hi n2 v2
 r3:s8 lo hi n3 vs
 r4:s8 lo hi n4 vt
 d12:Df (nb n1 v1) (nb n2 v2)
 d31:Df (nb n3 vs) (nb n1 v1)
 d32:Df (nb n3 vs) (nb n2 v2)
 d41:Df (nb n4 vt) (nb n1 v1)
 d42:Df (nb n4 vt) (nb n2 v2)
 d43:Df (nb n4 vt) (nb n3 vs)
def AnD (o:EO) (lo hi:Nat) (cs:Array Value) (q:World):Prop :=
 ∃ x1 x2 x5 x7 y1 y2 y5 y7,cs=aC o.e (.slice x1 o.F1.length y1) (.slice x2 o.F2.length y2) (.slice x5 o.sn.length y5) (.slice x7 o.tl.length y7) o.cd∧HoldsO q (.slice x1 o.F1.length y1) o.F1∧HoldsO q (.slice x2 o.F2.length y2) o.F2∧HoldsP q (.slice x5 o.sn.length y5) o.sn∧HoldsT q (.slice x7 o.tl.length y7) o.tl ∧
  Four lo hi o.F1.length o.F2.length o.sn.length o.tl.length (.slice x1 o.F1.length y1) (.slice x2 o.F2.length y2) (.slice x5 o.sn.length y5) (.slice x7 o.tl.length y7)
def MkD (o:EO) (cs:Array Value) (q:World):Prop :=
 ∃ x1 x2 x5 x7 y1 y2 y5 y7,cs=aC o.e (.slice x1 o.F1.length y1) (.slice x2 o.F2.length y2) (.slice x5 o.sn.length y5) (.slice x7 o.tl.length y7) o.cd∧HoldsO q (.slice x1 o.F1.length y1) (jb 1 o.F1.length)∧HoldsO q (.slice x2 o.F2.length y2) (jb (1+2*o.F1.length) o.F2.length)∧HoldsP q (.slice x5 o.sn.length y5) (mpk (1+2*o.F1.length+2*o.F2.length) o.sn.length)∧HoldsT q (.slice x7 o.tl.length y7) (mtl (1+2*o.F1.length+2*o.F2.length+3*o.sn.length) o.tl.length)
structure EoB (o:EO):Prop where
 l1:o.F1.length≤2000
 l2:o.F2.length≤2000
 l3:o.sn.length≤100
 l4:o.tl.length≤100000
theorem fD {n:Nat} {v:Value} {g:Nat} (h:nb n v=some g):v.ownBlock=some g:=by
 unfold nb at h;split at h
 ·cases h
 ·exact h
theorem Df.ap {n n':Nat} {v v':Value} (h:Ap v v'):Df (nb n v) (nb n' v'):=fun g h1 h2=>h g (fD h1) (fD h2)
theorem AnD.of {w q:World} {o:EO} {cs:Array Value} (h:EvA w o (.returned (.agg cs)) q):AnD o w.heap.size q.heap.size cs q∧Below w.heap.size w q∧cs.size=33∧cs.all (·.oneCell')=true:=by
 obtain ⟨v1,v2,vs,vt,e,o1,o2,os,ot,ap,lo⟩:=h;have e':cs=aC o.e v1 v2 vs vt o.cd:=by injection e with e;injection e
 obtain ⟨a1,p1,e1⟩:=af o1;obtain ⟨a2,p2,e2⟩:=af o2;obtain ⟨a3,p3,e3⟩:=af os;obtain ⟨a4,p4,e4⟩:=af ot;subst e1 e2 e3 e4 e';refine ⟨⟨a1,a2,a3,a4,p1,p2,p3,p4,rfl,HoldsO.own o1,HoldsO.own o2,HoldsP.own os,HoldsT.own ot,?_⟩,lo,rfl,aG _ _ _ _ _ _ _ _ _ _ _ _ _ _⟩;exact ⟨fun g hg=>o1.lt g (fD hg),fun g hg=>o2.lt g (fD hg),fun g hg=>os.lt g (fD hg),fun g hg=>ot.lt g (fD hg),Df.ap ap,Df.ap (gl os o1 (by decide)),Df.ap (gl os o2 (by decide)),Df.ap (gl ot o1 (by decide)),Df.ap (gl ot o2 (by decide)),Df.ap (gl ot os (by decide))⟩
theorem AnD.step {o:EO} {lo hi:Nat} {cs:Array Value} {q q':World} (h:AnD o lo hi cs q) (hb:Below q.heap.size q q'):AnD o lo hi cs q':=by
 obtain ⟨x1,x2,x5,x7,y1,y2,y5,y7,e,h1,h2,h3,h4,f⟩:=h;exact ⟨x1,x2,x5,x7,y1,y2,y5,y7,e,h1.below hb rfl,h2.below hb rfl,h3.below hb rfl,h4.below hb rfl,f⟩
theorem MkD.step {o:EO} {cs:Array Value} {q q':World} (h:MkD o cs q) (hb:Below q.heap.size q q'):MkD o cs q':=by
 obtain ⟨x1,x2,x5,x7,y1,y2,y5,y7,e,h1,h2,h3,h4⟩:=h;exact ⟨x1,x2,x5,x7,y1,y2,y5,y7,e,h1.below hb rfl,h2.below hb rfl,h3.below hb rfl,h4.below hb rfl⟩
def ToX (e:En) (F1 F2:List Op.Opt) (lo hi:Nat) (cl:List Value) (q:World):Prop :=
 ∃ u1 z1 u2 z2,cl=(aA e (.slice u1 F1.length z1) (.slice u2 F2.length z2)).toList∧HoldsO q (.slice u1 F1.length z1) F1∧HoldsO q (.slice u2 F2.length z2) F2∧s8 lo hi F1.length (.slice u1 F1.length z1)∧s8 lo hi F2.length (.slice u2 F2.length z2)∧(F1≠[]→F2≠[]→(Value.slice u1 F1.length z1).ownBlock≠(Value.slice u2 F2.length z2).ownBlock)
theorem ToX.step {e:En} {F1 F2:List Op.Opt} {lo hi:Nat} {cl:List Value} {q q':World} (h:ToX e F1 F2 lo hi cl q) (hb:Below q.heap.size q q'):ToX e F1 F2 lo hi cl q':=by
 obtain ⟨u1,z1,u2,z2,h1,h2,h3,f⟩:=h;exact ⟨u1,z1,u2,z2,h1,h2.below hb rfl,h3.below hb rfl,f⟩
theorem ToX.len {e:En} {F1 F2:List Op.Opt} {lo hi:Nat} {cl:List Value} {q:World} (h:ToX e F1 F2 lo hi cl q):cl.length=30:=by
 obtain ⟨u1,z1,u2,z2,h1,_⟩:=h;rw [h1];rfl
theorem ToX.one {e:En} {F1 F2:List Op.Opt} {lo hi:Nat} {cl:List Value} {q:World} (h:ToX e F1 F2 lo hi cl q):cl.toArray.all (·.oneCell')=true:=by
 obtain ⟨u1,z1,u2,z2,h1,_⟩:=h;rw [h1];kernel_rfl
end Go.Proofs.YtjebigodbnefiaaGreatDoor
