/- DrEw -/
import Derived.Test.YtahpjlbaagkdoaaGreatDoorS32
import Derived.Test.YtahpjlbaagkdoaaGreatDoorS34
import Derived.Test.YtahpjlbaagkdoaaGreatDoorS35
namespace Go.Proofs.YtahpjlbaagkdoaaGreatDoor
open Go.RowKit Go.Proofs.Tryz
def EnR9 (W:World) (ca:Array Value):Prop:=∃ (e:En) (F1 F2:List Op.Opt) (x1 x2:Option Addr) (y1 y2:Nat),ca=enC e (.slice x1 F1.length y1) (.slice x2 F2.length y2)∧HoldsO W (.slice x1 F1.length y1) F1∧HoldsO W (.slice x2 F2.length y2) F2∧F1.length≤100000∧F2.length≤100000
def EnV (W:World) (A:Nat):Prop:=∃ ca,W.heap[A]?=some (.cells ca 29)∧EnR9 W ca
def PkV (W:World) (P:Nat):Prop:=∃ p:Op.Pk,W.heap[P]?=some (.cells #[.int .i64 p.code,.int .i64 p.id,.string p.data] 35)
structure AnR9 (W:World) (cs:Array Value) (cd:Int) (a5:Option Addr) (c5:Nat) (sn:List Op.Pk):Prop where
 sz:cs.size=33
 one:cs.all (·.oneCell')=true
 en:EnR9 W (cs.extract 0 30)
 kc:cs[32]?=some (.int .i64 cd)
 ks:cs[30]?=some (.slice a5 sn.length c5)
 hp:HoldsP W (.slice a5 sn.length c5) sn
 le:sn.length≤100
theorem EnR9.size {W:World} {ca:Array Value} (h:EnR9 W ca):ca.size=30:=by
 obtain ⟨e,F1,F2,x1,x2,y1,y2,rfl,_⟩:=h;rfl
theorem EnR9.one {W:World} {ca:Array Value} (h:EnR9 W ca):ca.all (·.oneCell')=true:=by
 obtain ⟨e,F1,F2,x1,x2,y1,y2,rfl,_⟩:=h;exact enC_all _ _ _ _ _ _ _
theorem holdO_keep {W W':World} {v:Value} {F:List Op.Opt} (h:HoldsO W v F) (k:∀ (g:Nat) (cur:Array Value),W.heap[g]?=some (.cells cur 116)→W'.heap[g]?=W.heap[g]?):HoldsO W' v F :=
 h.imp id fun ⟨g,cp,cur,e,q1,q2⟩=>⟨g,cp,cur,e,(k g cur q1).trans q1,q2⟩
theorem EnR9.keep {W W':World} {ca:Array Value} (h:EnR9 W ca) (k:∀ (g:Nat) (cur:Array Value),W.heap[g]?=some (.cells cur 116)→W'.heap[g]?=W.heap[g]?):EnR9 W' ca:=by
 obtain ⟨e,F1,F2,x1,x2,y1,y2,rfl,h1,h2,l⟩:=h;exact ⟨e,F1,F2,x1,x2,y1,y2,rfl,holdO_keep h1 k,holdO_keep h2 k,l⟩
theorem AnR9.keep {W W':World} {cs:Array Value} {cd:Int} {a5:Option Addr} {c5:Nat} {sn:List Op.Pk} (h:AnR9 W cs cd a5 c5 sn) (k:∀ (g:Nat) (cur:Array Value),W.heap[g]?=some (.cells cur 116)→W'.heap[g]?=W.heap[g]?)
  (kp:sn≠[]→∀ (g:Nat) (cur:Array Value),(Value.slice a5 sn.length c5).ownBlock=some g→W.heap[g]?=some (.cells cur 35)→W'.heap[g]?=W.heap[g]?):AnR9 W' cs cd a5 c5 sn:=by
 refine ⟨h.sz,h.one,h.en.keep k,h.kc,h.ks,?_,h.le⟩;by_cases hs:sn=[]
 ·subst hs;exact Or.inl ⟨_,_,rfl,rfl⟩
 ·exact h.hp.imp id fun ⟨g,cp,cur,e,q1,q2⟩=>⟨g,cp,cur,e,(kp hs g cur (by rw [e];rfl) q1).trans q1,q2⟩
def Ans9 (W:World) (r:Ending) (q:World):Prop:=∃ (cs:Array Value) (cd:Int) (a5:Option Addr) (c5:Nat) (sn:List Op.Pk),r=.returned (.agg cs)∧AnR9 q cs cd a5 c5 sn∧(∀ g,(Value.slice a5 sn.length c5).ownBlock=some g→W.heap.size≤g)∧Below W.heap.size W q
theorem eoC_end (e:En) (v1 v2 vs vt:Value) (cd:Int):(eoC e v1 v2 vs vt cd).extract 0 30=enC e v1 v2:=by kernel_rfl
theorem eoC_cd (e:En) (v1 v2 vs vt:Value) (cd:Int):(eoC e v1 v2 vs vt cd)[32]?=some (.int .i64 cd):=by kernel_rfl
theorem eoC_sn (e:En) (v1 v2 vs vt:Value) (cd:Int):(eoC e v1 v2 vs vt cd)[30]?=some vs:=by kernel_rfl
theorem eoC_size (e:En) (v1 v2 vs vt:Value) (cd:Int):(eoC e v1 v2 vs vt cd).size=33:=by kernel_rfl
theorem ans9 {W q:World} {o:EO} {r:Ending} (h:EvA W o r q) (hB:EoB o):Ans9 W r q:=by
 obtain ⟨v1,v2,vs,vt,e,o1,o2,os,ot,ap,lo⟩:=h;obtain ⟨a1,p1,e1⟩:=own_form o1;obtain ⟨a2,p2,e2⟩:=own_form o2;obtain ⟨a3,p3,e3⟩:=own_form os;obtain ⟨a4,p4,e4⟩:=own_form ot;subst e1 e2 e3 e4;exact ⟨_,o.cd,a3,p3,o.sn,e,⟨eoC_size _ _ _ _ _ _,eoC_all _ _ _ _ _ _ _ _ _ _ _ _ _ _,⟨o.e,o.F1,o.F2,a1,a2,p1,p2,eoC_end _ _ _ _ _ _,HoldsO.own o1,HoldsO.own o2,Nat.le_trans hB.l1 (by decide),Nat.le_trans hB.l2 (by decide)⟩,eoC_cd _ _ _ _ _ _,eoC_sn _ _ _ _ _ _,HoldsP.own os,hB.l3⟩,fun g hg=>(os.lt g hg).1,lo⟩
theorem tickF_len9 (e:En) (F1 F2:List Op.Opt) (now:Int):EoB (tickF e F1 F2 now):=by
 unfold tickF;split
 ·rename_i h
  obtain ⟨hf,hs,_⟩:=fit0 h;split
  ·exact eoErr_len _
  split
  ·exact evF_len hf (fsm6 (i:=4) (by decide) rfl hs.1 hs.2).2
  ·exact evF_len hf (fsm6 (i:=5) (by decide) rfl hs.1 hs.2).2
 ·exact eoErr_len _
theorem dDo {W:World} {ca:Array Value} (h:EnR9 W ca) (t:ByteArray) (now:Int):Calls prog 10 #[.agg ca,.string t,.int .i64 now] W fun r q=>Ans9 W r q:=by
 obtain ⟨e,F1,F2,x1,x2,y1,y2,rfl,h1,h2,l1,l2⟩:=h;exact (sEndDo e x1 x2 y1 y2 F1 F2 t now W (by omega) (by omega) h1 h2).mono fun r q hq=>ans9 hq (doF_len _ _ _ _ _ eoErr_len fun s t hf hl=>evF_len hf hl)
theorem dTick {W:World} {ca:Array Value} (h:EnR9 W ca) (now:Int):Calls prog 12 #[.agg ca,.int .i64 now] W fun r q=>Ans9 W r q:=by
 obtain ⟨e,F1,F2,x1,x2,y1,y2,rfl,h1,h2,l1,l2⟩:=h;exact (sEndTick e x1 x2 y1 y2 F1 F2 now W (by omega) (by omega) h1 h2).mono fun r q hq=>ans9 hq (tickF_len9 _ _ _ _)
theorem dHear {W:World} {ca:Array Value} (h:EnR9 W ca) (p:Op.Pk) (now:Int):Calls prog 14 #[.agg ca,.agg #[.int .i64 p.code,.int .i64 p.id,.string p.data],.int .i64 now] W fun r q=>Ans9 W r q:=by
 obtain ⟨e,F1,F2,x1,x2,y1,y2,rfl,h1,h2,l1,l2⟩:=h;exact (sEndHear e x1 x2 y1 y2 F1 F2 p now W (by omega) (by omega) h1 h2).mono fun r q hq=>ans9 hq (hearF_len _ _ _ _ _)
structure Lx (w:World) (B base A C P:Nat):Prop where
 b:B<w.heap.size
 a:w.heap.size+1<A
 c:A<C
 p:C<P
 t:P<base
structure Lz (w:World) (B:Nat) (sl:Value) (n base A C P m:Nat) (vq:Value) (W:World):Prop where
 s:Src W B sl n
 g:Nigh B w W
 r2:W.heap[w.heap.size]?=some (.cells enZ 29)
 r4:W.heap[w.heap.size+1]?=some (.cells #[.int .i64 0,.int .i64 0,.string ⟨#[]⟩] 35)
 a:EnV W A
 c:EnV W C
 p:PkV W P
 q:∃ Q,HoldsK W base vq Q∧Q.length≤m
 z:base≤W.heap.size
theorem Src.ty {W:World} {B:Nat} {sl:Value} {n g:Nat} {cur:Array Value} {T:TypeId} (h:Src W B sl n) (hg:W.heap[g]?=some (.cells cur T)) (hT:T≠109):g≠B:=by
 obtain ⟨p,m,z,_,_,_,h4⟩:=h;exact ne_ty hg h4 hT
section
variable {w:World} {B:Nat} {sl:Value} {n base A C P m:Nat} {vq:Value} {W W':World}
theorem Lz.move (h:Lz w B sl n base A C P m vq W) (D:Nat) (hN:Nigh B w W') (hz:W.heap.size≤W'.heap.size) (hk:∀ g,g<W.heap.size→g≠B→g≠D→W'.heap[g]?=W.heap[g]?) (hs:Src W' B sl n)
  (hD:∀ (c:Array Value) (T:TypeId),W.heap[D]?=some (.cells c T)→T=42):Lz w B sl n base A C P m vq W':=by
 have key:∀ (g:Nat) (cur:Array Value) (T:TypeId),W.heap[g]?=some (.cells cur T)→T≠109→T≠42→W'.heap[g]?=W.heap[g]?:=fun g cur T hg h1 h2=>hk g (lt_of_row hg) (h.s.ty hg h1) (fun e=>h2 (hD cur T (e ▸ hg)))
 have kO:∀ (g:Nat) (cur:Array Value),W.heap[g]?=some (.cells cur 116)→W'.heap[g]?=W.heap[g]?:=fun g cur hg=>key g cur _ hg (by decide) (by decide)
 obtain ⟨ca,a1,a2⟩:=h.a;obtain ⟨cc,c1,c2⟩:=h.c;obtain ⟨p,p1⟩:=h.p;obtain ⟨Q,q1,q2⟩:=h.q;exact ⟨hs,hN,(key _ _ _ h.r2 (by decide) (by decide)).trans h.r2,(key _ _ _ h.r4 (by decide) (by decide)).trans h.r4,⟨ca,(key _ _ _ a1 (by decide) (by decide)).trans a1,a2.keep kO⟩,⟨cc,(key _ _ _ c1 (by decide) (by decide)).trans c1,c2.keep kO⟩,⟨p,(key _ _ _ p1 (by decide) (by decide)).trans p1⟩,⟨Q,q1.keep fun g cur _ _ hg=>key g cur _ hg (by decide) (by decide),q2⟩,Nat.le_trans h.z hz⟩
theorem Lz.below (h:Lz w B sl n base A C P m vq W) (hb:Below W.heap.size W W'):Lz w B sl n base A C P m vq W' :=
 h.move W.heap.size (h.g.trans (Nigh.of_below hb)) hb.size (fun g hg _ _=>hb.block g hg) (h.s.same (hb.block _ h.s.lt)) fun _ _ e=>absurd (lt_of_row e) (Nat.lt_irrefl _)
theorem Lz.nigh (h:Lz w B sl n base A C P m vq W) (hn:Nigh B W W') (hs:Src W' B sl n):Lz w B sl n base A C P m vq W' :=
 h.move W.heap.size (h.g.trans hn) hn.size (fun g hg h1 _=>hn.block g hg h1) hs fun _ _ e=>absurd (lt_of_row e) (Nat.lt_irrefl _)
theorem nigh_row {X:Nat} (hN:Nigh B w W) (hX:w.heap.size≤X) (cs:Array Value):Nigh B w (W.setRow X cs) :=
 ⟨hN.os,hN.tape,hN.output,by rw [setRow_size];exact hN.size,fun g hg hne=>(setRow_ne W X g cs (by omega)).trans (hN.block g hg hne)⟩
theorem Lz.row (h:Lz w B sl n base A C P m vq W) (x:Lx w B base A C P) {X:Nat} {c:Array Value} (hX:W.heap[X]?=some (.cells c 42)) (hw:w.heap.size≤X) (cs:Array Value):Lz w B sl n base A C P m vq (W.setRow X cs) :=
 h.move X (nigh_row h.g hw cs) (Nat.le_of_eq (setRow_size _ _ _).symm) (fun g _ _ h1=>setRow_ne W X g cs h1) (h.s.same (setRow_ne W X B cs (by have:=x.b;omega))) fun c' T e=>by
  rw [hX] at e;injection e with e;injection e with _ e;exact e.symm
theorem rowO {X:Nat} {c cs:Array Value} (hX:W.heap[X]?=some (.cells c 29)):∀ (g:Nat) (cur:Array Value),W.heap[g]?=some (.cells cur 116)→(W.setRow X cs).heap[g]?=W.heap[g]?:=fun g _ hg=>setRow_ne W X g cs (ne_ty hg hX (by decide))
theorem Lz.setA (h:Lz w B sl n base A C P m vq W) (x:Lx w B base A C P) {cs:Array Value} (he:EnR9 W cs):Lz w B sl n base A C P m vq (W.setRow A cs):=by
 obtain ⟨ca,a1,a2⟩:=h.a;obtain ⟨cc,c1,c2⟩:=h.c;obtain ⟨p,p1⟩:=h.p;obtain ⟨Q,q1,q2⟩:=h.q;have:=x.a
 have:=x.b
 have:=x.c
 exact ⟨h.s.same (setRow_ne W A B cs (by omega)),nigh_row h.g (by omega) cs,(setRow_ne W A _ cs (by omega)).trans h.r2,(setRow_ne W A _ cs (by omega)).trans h.r4,⟨cs,setRow_heap W A _ cs _ _ a1,he.keep (rowO a1)⟩,⟨cc,(setRow_ne W A C cs (by omega)).trans c1,c2.keep (rowO a1)⟩,⟨p,(setRow_ne W A P cs (by have:=x.p;omega)).trans p1⟩,⟨Q,q1.keep fun g cur _ _ hg=>setRow_ne W A g cs (ne_ty hg a1 (by decide)),q2⟩,by rw [setRow_size];exact h.z⟩
theorem Lz.setC (h:Lz w B sl n base A C P m vq W) (x:Lx w B base A C P) {cs:Array Value} (he:EnR9 W cs):Lz w B sl n base A C P m vq (W.setRow C cs):=by
 obtain ⟨ca,a1,a2⟩:=h.a;obtain ⟨cc,c1,c2⟩:=h.c;obtain ⟨p,p1⟩:=h.p;obtain ⟨Q,q1,q2⟩:=h.q;have:=x.a
 have:=x.b
 have:=x.c
 exact ⟨h.s.same (setRow_ne W C B cs (by omega)),nigh_row h.g (by omega) cs,(setRow_ne W C _ cs (by omega)).trans h.r2,(setRow_ne W C _ cs (by omega)).trans h.r4,⟨ca,(setRow_ne W C A cs (by omega)).trans a1,a2.keep (rowO c1)⟩,⟨cs,setRow_heap W C _ cs _ _ c1,he.keep (rowO c1)⟩,⟨p,(setRow_ne W C P cs (by have:=x.p;omega)).trans p1⟩,⟨Q,q1.keep fun g cur _ _ hg=>setRow_ne W C g cs (ne_ty hg c1 (by decide)),q2⟩,by rw [setRow_size];exact h.z⟩
theorem Lz.app (h:Lz w B sl n base A C P m vq W) (x:Lx w B base A C P) {v':Value} {Q F:List Op.Pk} (hl:Q.length≤m) (hq:HoldsK W' base v' (Q ++ F)) (hh:HoldsK W base vq Q) (hg:W.grownBy W' vq.ownBlock) (m':Nat) (hm:m+F.length≤m'):Lz w B sl n base A C P m' v' W':=by
 have:=x.a
 have:=x.b
 have:=x.c
 have:=x.p
 have:=x.t
 have hv:∀ g,vq.ownBlock=some g→base≤g∧∃ cur,W.heap[g]?=some (.cells cur 35):=fun g e=>by
  rcases hh with ⟨rfl,_⟩ | ⟨g',o,cp,cur,rfl,h2,h3,_⟩
  ·cases e
  ·cases e;exact ⟨h3,cur,h2⟩
 have key:∀ g,g<W.heap.size→g<base→W'.heap[g]?=W.heap[g]?:=fun g h1 h2=>hg.block g h1 (fun e=>by have:=(hv g e.symm).1;omega)
 have kO:∀ (g:Nat) (cur:Array Value),W.heap[g]?=some (.cells cur 116)→W'.heap[g]?=W.heap[g]?:=fun g cur h1=>hg.block g (lt_of_row h1) (fun e=>by
  obtain ⟨_,cu,h2⟩:=hv g e.symm;exact ne_ty h1 h2 (by decide) rfl)
 obtain ⟨ca,a1,a2⟩:=h.a;obtain ⟨cc,c1,c2⟩:=h.c;obtain ⟨p,p1⟩:=h.p;exact ⟨h.s.same (key B h.s.lt (by omega)),⟨hg.os.trans h.g.os,hg.tape.trans h.g.tape,hg.output.trans h.g.output,Nat.le_trans h.g.size hg.size,fun k h1 h2=>(key k (Nat.lt_of_lt_of_le h1 h.g.size) (by omega)).trans (h.g.block k h1 h2)⟩,(key _ (lt_of_row h.r2) (by omega)).trans h.r2,(key _ (lt_of_row h.r4) (by omega)).trans h.r4,⟨ca,(key _ (lt_of_row a1) (by omega)).trans a1,a2.keep kO⟩,⟨cc,(key _ (lt_of_row c1) (by omega)).trans c1,c2.keep kO⟩,⟨p,(key _ (lt_of_row p1) (by omega)).trans p1⟩,⟨Q ++ F,hq,by rw [List.length_append];omega⟩,Nat.le_trans h.z hg.size⟩
theorem Lz.mono (h:Lz w B sl n base A C P m vq W) {m':Nat} (hm:m≤m'):Lz w B sl n base A C P m' vq W :=
 ⟨h.s,h.g,h.r2,h.r4,h.a,h.c,h.p,let ⟨Q,q1,q2⟩:=h.q;⟨Q,q1,Nat.le_trans q2 hm⟩,h.z⟩
end
structure L0 (w:World) (B:Nat) (sl:Value) (n:Nat) (W:World):Prop where
 s:Src W B sl n
 g:Nigh B w W
 r2:W.heap[w.heap.size]?=some (.cells enZ 29)
 r4:W.heap[w.heap.size+1]?=some (.cells #[.int .i64 0,.int .i64 0,.string ⟨#[]⟩] 35)
theorem L0.nigh {w:World} {B:Nat} {sl:Value} {n:Nat} {W W':World} (h:L0 w B sl n W) (hn:Nigh B W W') (hs:Src W' B sl n):L0 w B sl n W' :=
 ⟨hs,h.g.trans hn,(hn.block _ (lt_of_row h.r2) (h.s.ty h.r2 (by decide))).trans h.r2,(hn.block _ (lt_of_row h.r4) (h.s.ty h.r4 (by decide))).trans h.r4⟩
theorem L0.below {w:World} {B:Nat} {sl:Value} {n:Nat} {W W':World} (h:L0 w B sl n W) (hb:Below W.heap.size W W'):L0 w B sl n W':=h.nigh (Nigh.of_below hb) (h.s.same (hb.block _ h.s.lt))
theorem EnV.nigh {w:World} {B:Nat} {sl:Value} {n A:Nat} {W W':World} (h:EnV W A) (hl:L0 w B sl n W) (hn:Nigh B W W'):EnV W' A:=by
 obtain ⟨ca,a1,a2⟩:=h;exact ⟨ca,(hn.block _ (lt_of_row a1) (hl.s.ty a1 (by decide))).trans a1,a2.keep fun g cur hg=>hn.block g (lt_of_row hg) (hl.s.ty hg (by decide))⟩
theorem PkV.nigh {w:World} {B:Nat} {sl:Value} {n A:Nat} {W W':World} (h:PkV W A) (hl:L0 w B sl n W) (hn:Nigh B W W'):PkV W' A:=by
 obtain ⟨p,a1⟩:=h;exact ⟨p,(hn.block _ (lt_of_row a1) (hl.s.ty a1 (by decide))).trans a1⟩
theorem newEn {W:World} {ca:Array Value} (h:EnR9 W ca):EnV ((W.alloc (.cells enZ 29)).setRow W.heap.size ca) W.heap.size∧Below W.heap.size W ((W.alloc (.cells enZ 29)).setRow W.heap.size ca):=by
 have hb:Below W.heap.size W ((W.alloc (.cells enZ 29)).setRow W.heap.size ca):=below_row ((Below.refl _ _).alloc (Nat.le_refl _) _) (Nat.le_refl _) _;exact ⟨⟨ca,setRow_heap _ _ _ ca _ _ (heap_alloc_new W _),h.keep fun g cur hg=>hb.block g (lt_of_row hg)⟩,hb⟩
theorem enR9_new (W:World) (e:En):EnR9 W (enC e (.slice none 0 0) (.slice none 0 0)):=⟨e,[],[],none,none,0,0,rfl,holdsO_nil _ _ _,holdsO_nil _ _ _,Nat.zero_le _,Nat.zero_le _⟩
def HoldsAll (W W':World):Prop:=∀ (g:Nat) (cur:Array Value),W.heap[g]?=some (.cells cur 116)→W'.heap[g]?=W.heap[g]?
def Dr9 (w:World) (B:Nat) (sl:Value) (n:Nat) (r:Ending) (W:World):Prop:=∃ (ca:Array Value) (nw:Int) (p:Op.Pk),r=.returned (.tuple #[.agg ca,.int .i64 nw,.agg #[.int .i64 p.code,.int .i64 p.id,.string p.data]])∧EnR9 W ca∧Src W B sl n∧Nigh B w W
theorem put9 {w:World} {B:Nat} {sl:Value} {n A P:Nat} {z:World} {ca:Array Value} {x:Array Value} (hl:L0 w B sl n z) (he:EnR9 z ca) (ha:z.heap[A]?=some (.cells ca 29)) (hp:z.heap[P]?=some (.cells x 35)) (nA:¬ (A=w.heap.size)) (nP:¬ (P=w.heap.size)) :
  ((Src (z.setRow w.heap.size ca) B sl n∧Nigh B w (z.setRow w.heap.size ca))∧(z.setRow w.heap.size ca).heap[w.heap.size]?=some (.cells ca 29)∧(z.setRow w.heap.size ca).heap[w.heap.size+1]?=some (.cells #[.int .i64 0,.int .i64 0,.string ⟨#[]⟩] 35)∧EnR9 (z.setRow w.heap.size ca) ca)∧(z.setRow w.heap.size ca).heap[A]?=some (.cells ca 29)∧(z.setRow w.heap.size ca).heap[P]?=some (.cells x 35)∧True :=
 ⟨⟨⟨hl.s.same (setRow_ne z _ B ca (Ne.symm (hl.s.ty hl.r2 (by decide)))),nigh_row hl.g (Nat.le_refl _) ca⟩,setRow_heap _ _ _ ca _ _ hl.r2,(setRow_ne z _ _ ca (by omega)).trans hl.r4,he.keep (rowO hl.r2)⟩,(setRow_ne z _ _ ca nA).trans ha,(setRow_ne z _ _ ca nP).trans hp,trivial⟩
theorem put9b {w:World} {B:Nat} {sl:Value} {n A P:Nat} {z:World} {ca:Array Value} {p:Op.Pk} (h:(Src z B sl n∧Nigh B w z)∧z.heap[w.heap.size]?=some (.cells ca 29)∧z.heap[w.heap.size+1]?=some (.cells #[.int .i64 0,.int .i64 0,.string ⟨#[]⟩] 35)∧EnR9 z ca) (_:¬ (A=w.heap.size+1)) (_:¬ (P=w.heap.size+1)) :
  ((Src (((z.setCell ⟨w.heap.size+1,0,none⟩ (.int .i64 p.code)).setCell ⟨w.heap.size+1,1,none⟩ (.int .i64 p.id)).setCell ⟨w.heap.size+1,2,none⟩ (.string p.data)) B sl n∧Nigh B w (((z.setCell ⟨w.heap.size+1,0,none⟩ (.int .i64 p.code)).setCell ⟨w.heap.size+1,1,none⟩ (.int .i64 p.id)).setCell ⟨w.heap.size+1,2,none⟩ (.string p.data))) ∧
   (loadVar 29 ⟨w.heap.size,0,none⟩).run prog (((z.setCell ⟨w.heap.size+1,0,none⟩ (.int .i64 p.code)).setCell ⟨w.heap.size+1,1,none⟩ (.int .i64 p.id)).setCell ⟨w.heap.size+1,2,none⟩ (.string p.data))=.ok (.agg ca) (((z.setCell ⟨w.heap.size+1,0,none⟩ (.int .i64 p.code)).setCell ⟨w.heap.size+1,1,none⟩ (.int .i64 p.id)).setCell ⟨w.heap.size+1,2,none⟩ (.string p.data)) ∧
   (loadVar 35 ⟨w.heap.size+1,0,none⟩).run prog (((z.setCell ⟨w.heap.size+1,0,none⟩ (.int .i64 p.code)).setCell ⟨w.heap.size+1,1,none⟩ (.int .i64 p.id)).setCell ⟨w.heap.size+1,2,none⟩ (.string p.data))=.ok (.agg #[.int .i64 p.code,.int .i64 p.id,.string p.data]) (((z.setCell ⟨w.heap.size+1,0,none⟩ (.int .i64 p.code)).setCell ⟨w.heap.size+1,1,none⟩ (.int .i64 p.id)).setCell ⟨w.heap.size+1,2,none⟩ (.string p.data))) ∧
   EnR9 (((z.setCell ⟨w.heap.size+1,0,none⟩ (.int .i64 p.code)).setCell ⟨w.heap.size+1,1,none⟩ (.int .i64 p.id)).setCell ⟨w.heap.size+1,2,none⟩ (.string p.data)) ca ∧
   ∀ (k:Nat) (o:Obj),(¬ (k=w.heap.size+1)∨False)→z.heap[k]?=some o→(((z.setCell ⟨w.heap.size+1,0,none⟩ (.int .i64 p.code)).setCell ⟨w.heap.size+1,1,none⟩ (.int .i64 p.id)).setCell ⟨w.heap.size+1,2,none⟩ (.string p.data)).heap[k]?=some o:=by
 obtain ⟨⟨h1,h2⟩,h3,h4,h5⟩:=h;have k1:(((z.setCell ⟨w.heap.size+1,0,none⟩ (.int .i64 p.code)).setCell ⟨w.heap.size+1,1,none⟩ (.int .i64 p.id)).setCell ⟨w.heap.size+1,2,none⟩ (.string p.data)).heap[w.heap.size+1]?=some (.cells #[.int .i64 p.code,.int .i64 p.id,.string p.data] 35):=heap_setCell_same _ _ 2 _ _ _ (heap_setCell_same _ _ 1 _ _ _ (heap_setCell_same _ _ 0 _ _ _ h4));have k2:Touch (w.heap.size+1) z (((z.setCell ⟨w.heap.size+1,0,none⟩ (.int .i64 p.code)).setCell ⟨w.heap.size+1,1,none⟩ (.int .i64 p.id)).setCell ⟨w.heap.size+1,2,none⟩ (.string p.data)):=(((Touch.refl _ _).setCell 0 _).setCell 1 _).setCell 2 _;generalize ((z.setCell ⟨w.heap.size+1,0,none⟩ (.int .i64 p.code)).setCell ⟨w.heap.size+1,1,none⟩ (.int .i64 p.id)).setCell ⟨w.heap.size+1,2,none⟩ (.string p.data)=y at k1 k2 ⊢;refine ⟨⟨⟨h1.same (k2.block B (Ne.symm (h1.ty h4 (by decide)))),⟨k2.os.trans h2.os,k2.tape.trans h2.tape,k2.output.trans h2.output,Nat.le_trans h2.size (Nat.le_of_eq k2.size.symm),fun b hb hne=>(k2.block b (by omega)).trans (h2.block b hb hne)⟩⟩,?_,loadP k1⟩,h5.keep fun g cur hg=>k2.block g (ne_ty hg h4 (by decide)),fun k o hk e=>(k2.block k (hk.resolve_right id)).trans e⟩;exact run_loadVar_row (P:=prog) _ _ 29 29 ca (0,0) _ ((k2.block _ (by omega)).trans h3) underlying29 rfl (by rw [h5.size];exact infoE)
structure LJ (w:World) (B:Nat) (sl:Value) (n base A C P m X:Nat) (cs:Array Value) (cd:Int) (a5:Option Addr) (c5:Nat) (sn:List Op.Pk) (vq:Value) (W:World):Prop where
 z:Lz w B sl n base A C P m vq W
 x:W.heap[X]?=some (.cells cs 42)
 r:AnR9 W cs cd a5 c5 sn
 n:sn≠[]→∀ g,vq.ownBlock=some g→(Value.slice a5 sn.length c5).ownBlock≠some g
 b:base≤X
def LX (w:World) (B:Nat) (sl:Value) (n base A C P m X:Nat) (vq:Value) (W:World):Prop:=∃ cs cd a5 c5 sn,LJ w B sl n base A C P m X cs cd a5 c5 sn vq W
def LY (w:World) (B:Nat) (sl:Value) (n base A C P m X:Nat) (cs:Array Value) (cd:Int) (a5:Option Addr) (c5:Nat) (sn:List Op.Pk) (vq v:Value) (W:World):Prop:=∃ Y ds dd b5 d5 tn,v=.pointer (some ⟨Y,0,none⟩)∧LJ w B sl n base A C P m X cs cd a5 c5 sn vq W∧W.heap[Y]?=some (.cells ds 42)∧AnR9 W ds dd b5 d5 tn
theorem anR9_zero (W:World) (cd:Int):AnR9 W (eoC enZero (.slice none 0 0) (.slice none 0 0) (.slice none 0 0) (.slice none 0 0) cd) cd none 0 [] :=
 ⟨eoC_size _ _ _ _ _ _,eoC_all _ _ _ _ _ _ _ _ _ _ _ _ _ _,by rw [eoC_end];exact enR9_new W _,eoC_cd _ _ _ _ _ _,eoC_sn _ _ _ _ _ _,Or.inl ⟨_,_,rfl,rfl⟩,Nat.zero_le _⟩
section
variable {w:World} {B:Nat} {sl:Value} {n base A C P m X:Nat} {cs:Array Value} {cd:Int} {a5:Option Addr} {c5:Nat} {sn:List Op.Pk} {vq:Value} {W W':World}
theorem LJ.below (h:LJ w B sl n base A C P m X cs cd a5 c5 sn vq W) (hb:Below W.heap.size W W'):LJ w B sl n base A C P m X cs cd a5 c5 sn vq W' :=
 ⟨h.z.below hb,(hb.block _ (lt_of_row h.x)).trans h.x,h.r.keep (fun g _ hg=>hb.block g (lt_of_row hg)) fun _ g _ _ hg=>hb.block g (lt_of_row hg),h.n,h.b⟩
theorem LJ.nigh (h:LJ w B sl n base A C P m X cs cd a5 c5 sn vq W) (hn:Nigh B W W') (hs:Src W' B sl n):LJ w B sl n base A C P m X cs cd a5 c5 sn vq W' :=
 ⟨h.z.nigh hn hs,(hn.block _ (lt_of_row h.x) (h.z.s.ty h.x (by decide))).trans h.x,h.r.keep (fun g _ hg=>hn.block g (lt_of_row hg) (h.z.s.ty hg (by decide))) fun _ g _ _ hg=>hn.block g (lt_of_row hg) (h.z.s.ty hg (by decide)),h.n,h.b⟩
theorem AnR9.row (h:AnR9 W cs cd a5 c5 sn) {Y:Nat} {c d:Array Value} (hY:W.heap[Y]?=some (.cells c 42)):AnR9 (W.setRow Y d) cs cd a5 c5 sn :=
 h.keep (fun g _ hg=>setRow_ne W Y g d (ne_ty hg hY (by decide))) fun _ g _ _ hg=>setRow_ne W Y g d (ne_ty hg hY (by decide))
theorem AnR9.rowE (h:AnR9 W cs cd a5 c5 sn) {Y:Nat} {c d:Array Value} (hY:W.heap[Y]?=some (.cells c 29)):AnR9 (W.setRow Y d) cs cd a5 c5 sn :=
 h.keep (fun g _ hg=>setRow_ne W Y g d (ne_ty hg hY (by decide))) fun _ g _ _ hg=>setRow_ne W Y g d (ne_ty hg hY (by decide))
theorem LJ.row (h:LJ w B sl n base A C P m X cs cd a5 c5 sn vq W) (x:Lx w B base A C P) {Y:Nat} {c:Array Value} (hY:W.heap[Y]?=some (.cells c 42)) (hX:X<Y) (d:Array Value):LJ w B sl n base A C P m X cs cd a5 c5 sn vq (W.setRow Y d) :=
 ⟨h.z.row x hY (by have:=h.b;have:=x.t;have:=x.p;have:=x.c;have:=x.a;omega) d,(setRow_ne W Y X d (by omega)).trans h.x,h.r.row hY,h.n,h.b⟩
theorem LJ.setA (h:LJ w B sl n base A C P m X cs cd a5 c5 sn vq W) (x:Lx w B base A C P) {d:Array Value} (he:EnR9 W d):LJ w B sl n base A C P m X cs cd a5 c5 sn vq (W.setRow A d):=by
 obtain ⟨ca,a1,a2⟩:=h.z.a;exact ⟨h.z.setA x he,(setRow_ne W A X d (ne_ty h.x a1 (by decide))).trans h.x,h.r.rowE a1,h.n,h.b⟩
theorem LJ.setC (h:LJ w B sl n base A C P m X cs cd a5 c5 sn vq W) (x:Lx w B base A C P) {d:Array Value} (he:EnR9 W d):LJ w B sl n base A C P m X cs cd a5 c5 sn vq (W.setRow C d):=by
 obtain ⟨ca,a1,a2⟩:=h.z.c;exact ⟨h.z.setC x he,(setRow_ne W C X d (ne_ty h.x a1 (by decide))).trans h.x,h.r.rowE a1,h.n,h.b⟩
theorem LJ.app (h:LJ w B sl n base A C P m X cs cd a5 c5 sn vq W) (x:Lx w B base A C P) {v':Value} {Q F:List Op.Pk} (hl:Q.length≤m) (hq:HoldsK W' base v' (Q ++ F)) (hh:HoldsK W base vq Q) (hg:W.grownBy W' vq.ownBlock) (hv:∀ g,v'.ownBlock=some g→vq.ownBlock=some g∨W.heap.size≤g) (m':Nat) (hm:m+F.length≤m'):LJ w B sl n base A C P m' X cs cd a5 c5 sn v' W':=by
 have hb:∀ g,vq.ownBlock=some g→∃ cur,W.heap[g]?=some (.cells cur 35):=fun g e=>by
  rcases hh with ⟨rfl,_⟩ | ⟨g',o,cp,cur,rfl,h2,h3,_⟩
  ·cases e
  ·cases e;exact ⟨cur,h2⟩
 have key:∀ (g:Nat) (cur:Array Value) (T:TypeId),T≠35→W.heap[g]?=some (.cells cur T)→W'.heap[g]?=W.heap[g]?:=fun g cur T hT e=>hg.block g (lt_of_row e) fun e2=>by
  obtain ⟨cu,h2⟩:=hb g e2.symm;exact ne_ty e h2 hT rfl
 refine ⟨h.z.app x hl hq hh hg m' hm,(key _ _ _ (by decide) h.x).trans h.x,h.r.keep (fun g cur hg=>key g cur _ (by decide) hg) (fun hs g cur e hgg=>hg.block g (lt_of_row hgg) fun e2=>h.n hs g e2.symm e),fun hs g e=>?_,h.b⟩;rcases hv g e with h1 | h1
 ·exact h.n hs g h1
 ·intro e2;rcases h.r.hp with ⟨_,_,_,e0⟩ | ⟨g',cp,cur,e3,q1,_⟩
  ·exact hs e0
  ·rw [e3] at e2;have e4:g'=g:=by injection e2
   have:=lt_of_row q1
   omega
theorem LJ.mono (h:LJ w B sl n base A C P m X cs cd a5 c5 sn vq W) {m':Nat} (hm:m≤m'):LJ w B sl n base A C P m' X cs cd a5 c5 sn vq W:=⟨h.z.mono hm,h.x,h.r,h.n,h.b⟩
theorem LJ.put (h:Lz w B sl n base A C P m vq W) (x:Lx w B base A C P) {c:Array Value} (hX:W.heap[X]?=some (.cells c 42)) (hb:base≤X) (hr:AnR9 W' cs cd a5 c5 sn) (hs:∀ g,(Value.slice a5 sn.length c5).ownBlock=some g→W.heap.size≤g) (hB:Below W.heap.size W W'):W'.heap[X]?=some (.cells c 42)∧LJ w B sl n base A C P m X cs cd a5 c5 sn vq (W'.setRow X cs):=by
 have hX':=(hB.block _ (lt_of_row hX)).trans hX;refine ⟨hX',⟨(h.below hB).row x hX' (by have:=x.t;have:=x.p;have:=x.c;have:=x.a;omega) cs,setRow_heap _ _ _ cs _ _ hX',hr.row hX',fun _ g e e2=>?_,hb⟩⟩;obtain ⟨Q,q1,_⟩:=h.q;rcases q1 with ⟨rfl,_⟩ | ⟨g',o,cp,cur,rfl,h2,_⟩
 ·cases e
 ·have e4:g'=g:=by injection e
  have:=hs g e2
  have:=lt_of_row h2
  omega
end
structure LA (w:World) (B:Nat) (sl:Value) (n base A C P m X:Nat) (cs:Array Value) (cd:Int) (a5:Option Addr) (c5:Nat) (sn:List Op.Pk) (vq:Value) (D:Nat) (ca:Array Value) (g:Nat) (cur:Array Value) (W:World):Prop where
 j:LJ w B sl n base A C P m X cs cd a5 c5 sn vq W
 a:W.heap[D]?=some (.cells ca 29)
 e:EnR9 W ca
 k:W.heap[g]?=some (.cells cur 35)
section
variable {w:World} {B:Nat} {sl:Value} {n base A C P m X:Nat} {cs:Array Value} {cd:Int} {a5:Option Addr} {c5:Nat} {sn:List Op.Pk} {vq:Value} {D:Nat} {ca:Array Value} {g:Nat} {cur:Array Value} {W W':World}
theorem LA.below (h:LA w B sl n base A C P m X cs cd a5 c5 sn vq D ca g cur W) (hb:Below W.heap.size W W'):LA w B sl n base A C P m X cs cd a5 c5 sn vq D ca g cur W' :=
 ⟨h.j.below hb,(hb.block _ (lt_of_row h.a)).trans h.a,h.e.keep fun g _ hg=>hb.block g (lt_of_row hg),(hb.block _ (lt_of_row h.k)).trans h.k⟩
theorem LA.nigh (h:LA w B sl n base A C P m X cs cd a5 c5 sn vq D ca g cur W) (hn:Nigh B W W') (hs:Src W' B sl n):LA w B sl n base A C P m X cs cd a5 c5 sn vq D ca g cur W' :=
 ⟨h.j.nigh hn hs,(hn.block _ (lt_of_row h.a) (h.j.z.s.ty h.a (by decide))).trans h.a,h.e.keep fun g _ hg=>hn.block g (lt_of_row hg) (h.j.z.s.ty hg (by decide)),(hn.block _ (lt_of_row h.k) (h.j.z.s.ty h.k (by decide))).trans h.k⟩
theorem LA.row (h:LA w B sl n base A C P m X cs cd a5 c5 sn vq D ca g cur W) (x:Lx w B base A C P) {Y:Nat} {c:Array Value} (hY:W.heap[Y]?=some (.cells c 42)) (hX:X<Y) (d:Array Value):LA w B sl n base A C P m X cs cd a5 c5 sn vq D ca g cur (W.setRow Y d) :=
 ⟨h.j.row x hY hX d,(setRow_ne W Y D d (ne_ty h.a hY (by decide))).trans h.a,h.e.keep fun g _ hg=>setRow_ne W Y g d (ne_ty hg hY (by decide)),(setRow_ne W Y g d (ne_ty h.k hY (by decide))).trans h.k⟩
theorem LA.put (h:LA w B sl n base A C P m X cs cd a5 c5 sn vq D ca g cur W) (x:Lx w B base A C P) {ds:Array Value} {dd:Int} {b5:Option Addr} {d5:Nat} {tn:List Op.Pk} (hr:AnR9 W' ds dd b5 d5 tn) (hs:∀ g,(Value.slice b5 tn.length d5).ownBlock=some g→W.heap.size≤g) (hB:Below W.heap.size W W'):W'.heap[X]?=some (.cells cs 42)∧LA w B sl n base A C P m X ds dd b5 d5 tn vq D ca g cur (W'.setRow X ds):=by
 obtain ⟨h1,h2⟩:=LJ.put h.j.z x h.j.x h.j.b hr hs hB;have h3:=h.below hB;exact ⟨h1,h2,(setRow_ne W' X D ds (ne_ty h3.a h1 (by decide))).trans h3.a,h3.e.keep fun g _ hg=>setRow_ne W' X g ds (ne_ty hg h1 (by decide)),(setRow_ne W' X g ds (ne_ty h3.k h1 (by decide))).trans h3.k⟩
end
theorem HoldsP.ith {W:World} {a5:Option Addr} {c5:Nat} {sn:List Op.Pk} (h:HoldsP W (.slice a5 sn.length c5) sn) {i:Nat} (hi:i<sn.length):∃ gs cur,∃ p:Op.Pk,a5=some ⟨gs,0,none⟩∧W.heap[gs]?=some (.cells cur 35)∧cur[i*3]?=some (.int .i64 p.code)∧cur[i*3+1]?=some (.int .i64 p.id)∧cur[i*3+2]?=some (.string p.data):=by
 rcases h with ⟨_,_,_,e⟩ | ⟨g,cp,cur,e,q1,q2,q3⟩
 ·rw [e] at hi;exact absurd hi (Nat.not_lt_zero _)
 ·injection e with e1 _ _;have k:=pkcells_get sn i sn[i] (List.getElem?_eq_getElem hi);exact ⟨g,cur,sn[i],e1,q1,(q3 _ (by omega)).trans k.1,(q3 _ (by omega)).trans k.2.1,(q3 _ (by omega)).trans k.2.2⟩
theorem LJ.tail {w:World} {B:Nat} {sl:Value} {n base A C P m X:Nat} {cs:Array Value} {cd:Int} {a5:Option Addr} {c5:Nat} {sn:List Op.Pk} {g o k cp:Nat} {b:Addr} {W:World} (h:LJ w B sl n base A C P m X cs cd a5 c5 sn (.slice (some ⟨g,o,none⟩) (k+1) (cp+1)) W) (hb:0<cp→b=⟨g,o+3,none⟩) (hb2:b=⟨g,o+3,none⟩∨b=⟨g,o,none⟩):LJ w B sl n base A C P m X cs cd a5 c5 sn (.slice (some b) k cp) W:=by
 obtain ⟨Q,q1,q2⟩:=h.z.q;obtain ⟨p,P',e,e2,h3⟩:=q1.tail hb hb2;have hz:=h.z;refine ⟨⟨hz.s,hz.g,hz.r2,hz.r4,hz.a,hz.c,hz.p,⟨P',h3,by rw [e,List.length_cons] at q2;omega⟩,hz.z⟩,h.x,h.r,fun hs g' e3=>h.n hs g' ?_,h.b⟩;rcases hb2 with rfl | rfl
 ·exact e3
 ·exact e3
theorem st9 {w:World} {B:Nat} {sl:Value} {n A P k:Nat} {W:World} {ca:Array Value} {v:Value} (hl:L0 w B sl n W) (ha:W.heap[A]?=some (.cells ca 29)) (hp:PkV W P) (hA:w.heap.size<A) (he:∀ W',HoldsAll W W'→EnR9 W' (ca.setIfInBounds k v)):L0 w B sl n (W.setCell ⟨A,k,none⟩ v)∧EnV (W.setCell ⟨A,k,none⟩ v) A∧PkV (W.setCell ⟨A,k,none⟩ v) P:=by
 have hk:∀ g,g≠A→(W.setCell ⟨A,k,none⟩ v).heap[g]?=W.heap[g]?:=fun g hg=>Below.heap_setCell _ ⟨A,k,none⟩ _ g hg
 obtain ⟨p,hp⟩:=hp;exact ⟨⟨hl.s.same (hk B (Ne.symm (hl.s.ty ha (by decide)))),hl.g.setCell ⟨A,k,none⟩ _ (Nat.le_of_lt hA),(hk _ (Nat.ne_of_lt hA)).trans hl.r2,(hk _ (ne_ty hl.r4 ha (by decide))).trans hl.r4⟩,⟨_,heap_setCell_same _ _ k _ _ _ ha,he _ fun g cur hg=>hk g (ne_ty hg ha (by decide))⟩,⟨p,(hk P (ne_ty hp ha (by decide))).trans hp⟩⟩
theorem sp9 {w:World} {B:Nat} {sl:Value} {n A P:Nat} {W:World} (p:Op.Pk) (hl:L0 w B sl n W) (ha:EnV W A) (hp:PkV W P) (hP:w.heap.size+1<P):L0 w B sl n (((W.setCell ⟨P,0,none⟩ (.int .i64 p.code)).setCell ⟨P,1,none⟩ (.int .i64 p.id)).setCell ⟨P,2,none⟩ (.string p.data))∧EnV (((W.setCell ⟨P,0,none⟩ (.int .i64 p.code)).setCell ⟨P,1,none⟩ (.int .i64 p.id)).setCell ⟨P,2,none⟩ (.string p.data)) A∧PkV (((W.setCell ⟨P,0,none⟩ (.int .i64 p.code)).setCell ⟨P,1,none⟩ (.int .i64 p.id)).setCell ⟨P,2,none⟩ (.string p.data)) P:=by
 obtain ⟨p0,hp⟩:=hp;have k1:=heap_setCell_same _ _ 2 _ _ (.string p.data) (heap_setCell_same _ _ 1 _ _ (.int .i64 p.id) (heap_setCell_same W P 0 _ _ (.int .i64 p.code) hp));have k2:Touch P W (((W.setCell ⟨P,0,none⟩ (.int .i64 p.code)).setCell ⟨P,1,none⟩ (.int .i64 p.id)).setCell ⟨P,2,none⟩ (.string p.data)):=(((Touch.refl _ _).setCell 0 _).setCell 1 _).setCell 2 _;generalize ((W.setCell ⟨P,0,none⟩ (.int .i64 p.code)).setCell ⟨P,1,none⟩ (.int .i64 p.id)).setCell ⟨P,2,none⟩ (.string p.data)=y at k1 k2 ⊢;obtain ⟨ca,a1,a2⟩:=ha;exact ⟨⟨hl.s.same (k2.block B (Ne.symm (hl.s.ty hp (by decide)))),⟨k2.os.trans hl.g.os,k2.tape.trans hl.g.tape,k2.output.trans hl.g.output,Nat.le_trans hl.g.size (Nat.le_of_eq k2.size.symm),fun b hb hne=>(k2.block b (by omega)).trans (hl.g.block b hb hne)⟩,(k2.block _ (by omega)).trans hl.r2,(k2.block _ (by omega)).trans hl.r4⟩,⟨ca,(k2.block A (ne_ty a1 hp (by decide))).trans a1,a2.keep fun g cur hg=>k2.block g (ne_ty hg hp (by decide))⟩,⟨p,k1⟩⟩
theorem t9n {w:World} {B:Nat} {sl:Value} {n A P:Nat} {W W':World} (h:L0 w B sl n W∧EnV W A∧PkV W P) (hn:Nigh B W W') (hs:Src W' B sl n):L0 w B sl n W'∧EnV W' A∧PkV W' P:=⟨h.1.nigh hn hs,h.2.1.nigh h.1 hn,h.2.2.nigh h.1 hn⟩
end Go.Proofs.YtahpjlbaagkdoaaGreatDoor
