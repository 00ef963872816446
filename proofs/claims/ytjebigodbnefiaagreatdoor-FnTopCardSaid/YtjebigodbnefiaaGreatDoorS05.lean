/- MtP EndV PkMarks StrMarks OptArg CfgArg EndTo EndOut WkB Num Asks WkM WkS WpI HxM GoodModel -/
import Derived.Test.YtjebigodbnefiaaGreatDoorS01
import Derived.Test.YtjebigodbnefiaaGreatDoorS02
import Derived.Great.Walk
set_option maxHeartbeats 400000
set_option maxRecDepth 100000
namespace Go.Proofs.YtjebigodbnefiaaGreatDoor
open Go.RowKit Go.Proofs.Tryz
structure Py (base:Nat) (T:TypeId) (W:World) (B A k:Nat) (X Z:List Value) (v:Value) (L:List Op.Pk) (p:Op.Pk) (y:World):Prop where
 w:Wr base T y B X Z v L
 fr:Fr B v v W y
 pa:y.heap[A]?=some (.cells #[.int .i64 p.code,.int .i64 p.id,.string p.data] 32)
 ek:X.length=k
structure Pz (base:Nat) (T:TypeId) (W:World) (B k:Nat) (X Z:List Value) (v v':Value) (L:List Op.Pk) (y:World):Prop where
 row:y.heap[B]?=some (.cells (X ++ [v] ++ Z).toArray T)
 hk:HoldsK y base v' L
 fr:Fr B v v' W y
 ek:X.length=k
 bs:base≤y.heap.size
 nT:T≠32
section
variable {base:Nat} {T:TypeId} {W:World} {B A k:Nat} {X Z:List Value} {v v':Value} {L:List Op.Pk} {p:Op.Pk} {y y':World}
theorem Py.cx (h:Py base T W B A k X Z v L p y):y.cell? ⟨B,k,none⟩=some v:=by rw [← h.ek];exact bI h.w.row
theorem Py.new (h:Py base T W B A k X Z v L p y) (r:Op.Pk):Py base T W B A k X Z v L p (y.alloc (.cells #[.int .i64 r.code,.int .i64 r.id,.string r.data] 32))∧HoldsP (y.alloc (.cells #[.int .i64 r.code,.int .i64 r.id,.string r.data] 32)) (.slice (some ⟨y.heap.size,0,none⟩) 1 1) [r]:=by
 have hb:Below y.heap.size y (y.alloc (.cells #[.int .i64 r.code,.int .i64 r.id,.string r.data] 32)):=(zC _ _).alloc (zD _) _;refine ⟨⟨h.w.below hb,h.fr.trans (Fr.of_below hb),(hb.block A (ge.1 h.pa).1).trans h.pa,h.ek⟩,Or.inr ⟨_,1,_,rfl,zF _ _,zD 3,fun j hj=>?_⟩⟩;have:j=0∨j=1∨j=2:=by simp at hj;omega
 rcases this with rfl | rfl | rfl<;>rfl
theorem Pz.cx (h:Pz base T W B k X Z v v' L y):y.cell? ⟨B,k,none⟩=some v:=by rw [← h.ek];exact bI h.row
end
structure En where
 m1:Int
 a1:Int
 g1:Int
 p1:Bool
 c1:Bool
 d1:Bool
 m2:Int
 a2:Int
 g2:Int
 p2:Bool
 c2:Bool
 d2:Bool
 st:Int
 tr:Int
 du:Int
 id:Int
 fl:Int
 up:Bool
 i1:Int
 i2:Int
 i3:Bool
 i4:Bool
 i5:Bool
 o1:Int
 o2:Int
 o3:Bool
 o4:Bool
 o5:Bool
abbrev aA (e:En) (v1 v2:Value):Array Value:=#[.int .i64 e.m1,.int .i64 e.a1,.int .i64 e.g1,.bool e.p1,.bool e.c1,.bool e.d1,.int .i64 e.m2,.int .i64 e.a2,.int .i64 e.g2,.bool e.p2,.bool e.c2,.bool e.d2,.int .i64 e.st,.int .i64 e.tr,.int .i64 e.du,.int .i64 e.id,.int .i64 e.fl,v1,v2,.bool e.up,.int .i64 e.i1,.int .i64 e.i2,.bool e.i3,.bool e.i4,.bool e.i5,.int .i64 e.o1,.int .i64 e.o2,.bool e.o3,.bool e.o4,.bool e.o5]
structure EqE (w:World) (cs ds:Array Value) (q:World):Prop where
 a:q.heap[w.heap.size]?=some (.cells cs 72)
 b:q.heap[w.heap.size+1]?=some (.cells ds 72)
 l:Below w.heap.size w q
theorem EqE.step {w:World} {cs ds:Array Value} {q q':World} (h:EqE w cs ds q) (hb:Below q.heap.size q q'):EqE w cs ds q' :=
 ⟨(hb.block _ (ge.1 h.a).1).trans h.a,(hb.block _ (ge.1 h.b).1).trans h.b,h.l.trans (hb.mono h.l.size)⟩
def mpk (k n:Nat):List Op.Pk:=(List.range n).map fun i=>⟨((k+3*i:Nat):Int),((k+3*i+1:Nat):Int),rC (k+3*i+2)⟩
def mtl (k n:Nat):List ByteArray:=(List.range n).map fun i=>rC (k+i)
def ArgO (w:World) (v:Value) (F:List Op.Opt):Prop :=
 (∃ a cap,v=.slice a F.length cap)∧∀ i (hi:i<F.length),∃ b o cap,v=.slice (some ⟨b,o,none⟩) F.length cap∧b<w.heap.size∧w.cell? ⟨b,o+i*2,none⟩=some (.int .i64 F[i].kind)∧w.cell? ⟨b,o+i*2+1,none⟩=some (.string F[i].data)∧F[i].data.size≤maxLen
theorem ArgO.below {w w':World} {v:Value} {F:List Op.Opt} (h:ArgO w v F) (hb:Below w.heap.size w w'):ArgO w' v F :=
 ⟨h.1,fun i hi=>by
  obtain ⟨b,o,cap,h1,h2,h3,h4,h5⟩:=h.2 i hi;exact ⟨b,o,cap,h1,Nat.lt_of_lt_of_le h2 hb.size,(hb.cell (p:=⟨b,o+i*2,none⟩) h2).trans h3,(hb.cell (p:=⟨b,o+i*2+1,none⟩) h2).trans h4,h5⟩⟩
structure HH (v1 v2:Value) (F1 F2:List Op.Opt) (O R:Nat) (q:World):Prop where
 h1:HoldsO q v1 F1
 h2:HoldsO q v2 F2
 n1:∀ g,v1.ownBlock=some g→g≠O∧g≠R
 n2:∀ g,v2.ownBlock=some g→g≠O∧g≠R
theorem HoldsO.other {w w':World} {v:Value} {F:List Op.Opt} (h:HoldsO w v F) (hw:∀ g,v.ownBlock=some g→w'.heap[g]?=w.heap[g]?):HoldsO w' v F:=by
 rcases h with ⟨ad,cp,e,e0⟩ | ⟨g,cp,cur,e,q1,q2⟩
 ·exact Or.inl ⟨ad,cp,e,e0⟩
 ·exact Or.inr ⟨g,cp,cur,e,(hw g (by rw [e];rfl)).trans q1,q2⟩
theorem HoldsO.lt {w:World} {v:Value} {F:List Op.Opt} (h:HoldsO w v F) (hF:F≠[]) (g:Nat) (hg:v.ownBlock=some g):g<w.heap.size:=by
 rcases h with ⟨_,_,_,e⟩ | ⟨g',cp,cur,e,q1,_⟩
 ·exact absurd e hF
 ·rw [e] at hg;cases hg;exact (ge.1 q1).1
theorem HH.set {v1 v2:Value} {F1 F2:List Op.Opt} {O R:Nat} {q:World} (h:HH v1 v2 F1 F2 O R q) (i:Nat) (x:Value):HH v1 v2 F1 F2 O R (q.setCell ⟨O,i,none⟩ x) :=
 ⟨h.h1.other fun g hg=>Below.heap_setCell _ _ _ _ (h.n1 g hg).1,h.h2.other fun g hg=>Below.heap_setCell _ _ _ _ (h.n2 g hg).1,h.n1,h.n2⟩
theorem HH.step {v1 v2:Value} {F1 F2:List Op.Opt} {O R:Nat} {q q':World} (h:HH v1 v2 F1 F2 O R q) (hb:Below q.heap.size q q'):HH v1 v2 F1 F2 O R q' :=
 ⟨h.h1.below hb rfl,h.h2.below hb rfl,h.n1,h.n2⟩
theorem HH.row {v1 v2:Value} {F1 F2:List Op.Opt} {O R:Nat} {q:World} (h:HH v1 v2 F1 F2 O R q) (cs:Array Value):HH v1 v2 F1 F2 O R (q.setRow R cs) :=
 ⟨h.h1.other fun g hg=>setRow_other _ _ _ _ (h.n1 g hg).2,h.h2.other fun g hg=>setRow_other _ _ _ _ (h.n2 g hg).2,h.n1,h.n2⟩
theorem aL:(prog.info? 72).map (·.size)=some 30:=by kernel_rfl
theorem ja {W:World} {E:Nat} {cs:Array Value} (h:W.heap[E]?=some (.cells cs 72)) (hs:cs.size=30:=by rfl):(loadVar 72 ⟨E,0,none⟩).run prog W=.ok (.agg cs) W :=
 run_loadVar_row (P:=prog) _ _ 72 72 cs (0,0) _ h underlying72 rfl (by rw [hs];exact aL)
theorem am {B g:Nat} {w0 w:World} (hb:Below B w0 w) (h:B≤g) (cs:Array Value):Below B w0 (w.setRow g cs) :=
 ⟨hb.os,hb.tape,hb.output,by rw [size_setRow];exact hb.size,fun b hlt=>(setRow_other _ _ _ _ (by omega)).trans (hb.block b hlt)⟩
theorem xL (w:World) (a b c:Obj):(((w.alloc a).alloc b).alloc c).heap[w.heap.size]?=some a∧(((w.alloc a).alloc b).alloc c).heap[w.heap.size+1]?=some b∧(((w.alloc a).alloc b).alloc c).heap[w.heap.size+1+1]?=some c∧Below w.heap.size w (((w.alloc a).alloc b).alloc c):=by
 have s1:(w.alloc a).heap.size=w.heap.size+1:=by simp
 have s2:((w.alloc a).alloc b).heap.size=w.heap.size+1+1:=by simp
 have e2:=zF (w.alloc a) b;have e3:=zF ((w.alloc a).alloc b) c;rw [s1] at e2;rw [s2] at e3;refine ⟨?_,?_,e3,(((zC _ _).alloc (zD _) _).alloc (by omega) _).alloc (by omega) _⟩
 ·rw [zG _ _ _ (by omega),zG _ _ _ (by omega)];exact zF w a
 ·rw [zG _ _ _ (by omega)];exact e2
abbrev aC (e:En) (v1 v2 v3 v4:Value) (cd:Int):Array Value:=#[.int .i64 e.m1,.int .i64 e.a1,.int .i64 e.g1,.bool e.p1,.bool e.c1,.bool e.d1,.int .i64 e.m2,.int .i64 e.a2,.int .i64 e.g2,.bool e.p2,.bool e.c2,.bool e.d2,.int .i64 e.st,.int .i64 e.tr,.int .i64 e.du,.int .i64 e.id,.int .i64 e.fl,v1,v2,.bool e.up,.int .i64 e.i1,.int .i64 e.i2,.bool e.i3,.bool e.i4,.bool e.i5,.int .i64 e.o1,.int .i64 e.o2,.bool e.o3,.bool e.o4,.bool e.o5,v3,v4,.int .i64 cd]
structure EqO (w:World) (cs ds:Array Value) (q:World):Prop where
 a:q.heap[w.heap.size]?=some (.cells cs 121)
 b:q.heap[w.heap.size+1]?=some (.cells ds 121)
 l:Below w.heap.size w q
theorem EqO.step {w:World} {cs ds:Array Value} {q q':World} (h:EqO w cs ds q) (hb:Below q.heap.size q q'):EqO w cs ds q' :=
 ⟨(hb.block _ (ge.1 h.a).1).trans h.a,(hb.block _ (ge.1 h.b).1).trans h.b,h.l.trans (hb.mono h.l.size)⟩
structure St where
 e:En
 F1:List Op.Opt
 F2:List Op.Opt
 sn:List Op.Pk
 tl:List ByteArray
structure Cx where
 now:Int
 cc:Int
 ci:Int
 cd:ByteArray
 hd:List Op.Opt
 ac:Int
 ao:List Op.Opt
 vh:Value
 va:Value
abbrev lF (c:Cx) (e:En) (v1 v2 vs vt:Value):List Value:=[.int .i64 e.m1,.int .i64 e.a1,.int .i64 e.g1,.bool e.p1,.bool e.c1,.bool e.d1,.int .i64 e.m2,.int .i64 e.a2,.int .i64 e.g2,.bool e.p2,.bool e.c2,.bool e.d2,.int .i64 e.st,.int .i64 e.tr,.int .i64 e.du,.int .i64 e.id,.int .i64 e.fl,v1,v2,.bool e.up,.int .i64 e.i1,.int .i64 e.i2,.bool e.i3,.bool e.i4,.bool e.i5,.int .i64 e.o1,.int .i64 e.o2,.bool e.o3,.bool e.o4,.bool e.o5,.int .i64 c.now,.int .i64 c.cc,.int .i64 c.ci,.string c.cd,c.vh,.int .i64 c.ac,c.va,vs,vt]
def Ap (v v':Value):Prop:=∀ g,v.ownBlock=some g→v'.ownBlock≠some g
theorem Ap.symm {v v':Value} (h:Ap v v'):Ap v' v:=fun g hg e=>h g e hg
theorem Ap.none (v:Value) (n m:Nat):Ap (.slice none n m) v:=fun g hg=>by cases hg
def Tt (T:TypeId):Prop:=T≠27∧T≠32∧T≠9
structure Lay (T:TypeId) (w0 w1:World) (B:Nat) (c:Cx) (s:St) (v1 v2 vs vt:Value) (q:World):Prop where
 row:q.heap[B]?=some (.cells (lF c s.e v1 v2 vs vt).toArray T)
 o1:q.ownsRow w0.heap.size 27 2 v1 s.F1.length (aj s.F1)
 o2:q.ownsRow w0.heap.size 27 2 v2 s.F2.length (aj s.F2)
 os:q.ownsRow w1.heap.size 32 3 vs s.sn.length (ae s.sn)
 ot:q.ownsRow w1.heap.size 9 1 vt s.tl.length (a_ s.tl)
 oh:q.ownsRow w0.heap.size 27 2 c.vh c.hd.length (aj c.hd)
 ha:HoldsO q c.va c.ao
 hB:w0.heap.size≤B
 tt:Tt T
 ap:Ap v1 v2
 aph:Ap v1 c.vh
 lo:Below w0.heap.size w0 w1
 nr:Nr B w1 q
theorem aq {w:World} {base:Nat} {e T:TypeId} {size:Nat} {v:Value} {n:Nat} {xs:List Value} (h:w.ownsRow base e size v n xs) {B:Nat} {cs:Array Value} (hB:w.heap[B]?=some (.cells cs T)) (hT:T≠e):v.ownBlock≠some B:=by
 rcases h.2 with ⟨hv,_⟩ | ⟨g,cap,cur,hv,_,hg,_⟩
 ·rw [hv];simp [Value.ownBlock]
 ·rw [hv];intro e1;have e2:g=B:=by simpa [Value.ownBlock] using e1
  subst e2;rw [hB] at hg;injection hg with hg;injection hg with _ h2 _;exact hT h2
theorem gl {w:World} {b1 b2:Nat} {e1 e2:TypeId} {s1 s2:Nat} {v1 v2:Value} {n1 n2:Nat} {x1 x2:List Value} (h1:w.ownsRow b1 e1 s1 v1 n1 x1) (h2:w.ownsRow b2 e2 s2 v2 n2 x2) (hT:e1≠e2):Ap v1 v2:=by
 intro g hg;rcases h1.2 with ⟨hv,_⟩ | ⟨g',cap,cur,hv,_,hgg,_⟩
 ·rw [hv] at hg;simp [Value.ownBlock] at hg
 ·rw [hv] at hg;have e:g'=g:=by simpa [Value.ownBlock] using hg
  subst e;exact aq h2 hgg hT
theorem ak {w w':World} {base:Nat} {e:TypeId} {size:Nat} {v:Value} {n:Nat} {xs:List Value} (h:w.ownsRow base e size v n xs) (hk:∀ g,v.ownBlock=some g→w'.heap[g]?=w.heap[g]?):w'.ownsRow base e size v n xs:=by
 refine ⟨h.1,h.2.imp id ?_⟩;rintro ⟨g,cap,cur,hv,hb,hg,rest⟩;exact ⟨g,cap,cur,hv,hb,(hk g (by rw [hv];rfl)).trans hg,rest⟩
theorem aP {w w':World} {base:Nat} {e:TypeId} {size:Nat} {v:Value} {n:Nat} {xs:List Value} (h:w.ownsRow base e size v n xs) (hb:Below w.heap.size w w'):w'.ownsRow base e size v n xs :=
 ak h fun g hg=>hb.block g (h.lt g hg).2
theorem aE {w:World} {base base':Nat} {e:TypeId} {size:Nat} {v:Value} {n:Nat} {xs:List Value} (h:w.ownsRow base e size v n xs) (hb:base'≤base):w.ownsRow base' e size v n xs :=
 ⟨h.1,h.2.imp id fun ⟨g,cap,cur,h1,h2,h3⟩=>⟨g,cap,cur,h1,zE hb h2,h3⟩⟩
theorem bS {w:World} {v:Value} {F:List Op.Opt} (h:HoldsO w v F) {B:Nat} {w':World} {T:TypeId} {cs:Array Value} (hB:w.heap[B]?=some (.cells cs T)) (hT:T≠27) (hk:∀ k,k<w.heap.size→k≠B→w'.heap[k]?=w.heap[k]?):HoldsO w' v F:=by
 rcases h with ⟨ad,cp,e,e0⟩ | ⟨g,cp,cur,e,q1,q2⟩
 ·exact Or.inl ⟨ad,cp,e,e0⟩
 ·refine Or.inr ⟨g,cp,cur,e,(hk g (ge.1 q1).1 fun e2=>?_).trans q1,q2⟩;subst e2;rw [hB] at q1;injection q1 with q1;injection q1 with _ h2 _;exact hT h2
section
variable {T:TypeId} {w0 w1:World} {B:Nat} {c:Cx} {s:St} {v1 v2 vs vt:Value} {q q':World}
theorem Lay.lt (h:Lay T w0 w1 B c s v1 v2 vs vt q):B<q.heap.size:=(ge.1 h.row).1
theorem Lay.hh (h:Lay T w0 w1 B c s v1 v2 vs vt q):HoldsO q c.vh c.hd:=HoldsO.own h.oh
theorem Lay.cell (h:Lay T w0 w1 B c s v1 v2 vs vt q) {i:Nat} {v:Value} (hi:(lF c s.e v1 v2 vs vt)[i]?=some v):q.cell? ⟨B,i,none⟩=some v:=by
 rw [cr h.row,List.getElem?_toArray];exact hi
theorem Lay.frz (h:Lay T w0 w1 B c s v1 v2 vs vt q) (i:Nat):q.frozen? ⟨B,i,none⟩=false:=Go.Proofs.YtjebigodbnefiaaGreatDoor.aX h.row i
theorem Lay.low (h:Lay T w0 w1 B c s v1 v2 vs vt q):Below w0.heap.size w0 q :=
 ⟨h.nr.os.trans h.lo.os,h.nr.tape.trans h.lo.tape,h.nr.output.trans h.lo.output,zE h.lo.size h.nr.size,fun b hb=>(h.nr.block b (Nat.lt_of_lt_of_le hb h.lo.size) fun e=>by have:=h.hB;omega).trans (h.lo.block b hb)⟩
theorem Lay.step (h:Lay T w0 w1 B c s v1 v2 vs vt q) (hb:Below q.heap.size q q'):Lay T w0 w1 B c s v1 v2 vs vt q' :=
 ⟨(hb.block _ h.lt).trans h.row,aP h.o1 hb,aP h.o2 hb,aP h.os hb,aP h.ot hb,aP h.oh hb,h.ha.below hb rfl,h.hB,h.tt,h.ap,h.aph,h.lo,h.nr.of_below hb⟩
theorem Lay.setRaw (h:Lay T w0 w1 B c s v1 v2 vs vt q) (i:Nat) (v:Value) (e':En) (he:(lF c s.e v1 v2 vs vt).set i v=lF c e' v1 v2 vs vt):Lay T w0 w1 B c { s with e:=e' } v1 v2 vs vt (q.setCell ⟨B,i,none⟩ v):=by
 have hr:=zH q B i _ _ v h.row;rw [List.setIfInBounds_toArray,he] at hr;have hk:∀ k,k≠B→(q.setCell ⟨B,i,none⟩ v).heap[k]?=q.heap[k]?:=fun k hk=>heap_setCell_other q _ _ _ hk
 refine ⟨hr,ak h.o1 fun g hg=>hk g fun e=>aq h.o1 h.row h.tt.1 (e ▸ hg),ak h.o2 fun g hg=>hk g fun e=>aq h.o2 h.row h.tt.1 (e ▸ hg),ak h.os fun g hg=>hk g fun e=>aq h.os h.row h.tt.2.1 (e ▸ hg),ak h.ot fun g hg=>hk g fun e=>aq h.ot h.row h.tt.2.2 (e ▸ hg),ak h.oh fun g hg=>hk g fun e=>aq h.oh h.row h.tt.1 (e ▸ hg),bS h.ha h.row h.tt.1 fun k _=>hk k,h.hB,h.tt,h.ap,h.aph,h.lo,h.nr.setCell i v⟩
theorem Lay.new1 (h:Lay T w0 w1 B c s v1 v2 vs vt q) (hb:Below q.heap.size q q') (v:Value) (F:List Op.Opt) (ho:q'.ownsRow q.heap.size 27 2 v F.length (aj F)):Lay T w0 w1 B c { s with F1:=F } v v2 vs vt (q'.setCell ⟨B,17,none⟩ v):=by
 have h':=h.step hb;have hr:=zH q' B 17 _ _ v h'.row;rw [List.setIfInBounds_toArray] at hr;have hk:∀ k,k≠B→(q'.setCell ⟨B,17,none⟩ v).heap[k]?=q'.heap[k]?:=fun k hk=>heap_setCell_other q' _ _ _ hk
 have hs:=h.low.size;refine ⟨hr,ak (aE ho hs) fun g hg=>hk g fun e=>?_,ak h'.o2 fun g hg=>hk g fun e=>aq h'.o2 h'.row h.tt.1 (e ▸ hg),ak h'.os fun g hg=>hk g fun e=>aq h'.os h'.row h.tt.2.1 (e ▸ hg),ak h'.ot fun g hg=>hk g fun e=>aq h'.ot h'.row h.tt.2.2 (e ▸ hg),ak h'.oh fun g hg=>hk g fun e=>aq h'.oh h'.row h.tt.1 (e ▸ hg),bS h'.ha h'.row h.tt.1 fun k _=>hk k,h.hB,h.tt,fun g hg e=>?_,fun g hg e=>?_,h.lo,h'.nr.setCell 17 v⟩
 ·exact aq ho h'.row h.tt.1 (e ▸ hg)
 ·have h1:=(ho.lt g hg).1;have h2:=(h.o2.lt g e).2;omega
 ·have h1:=(ho.lt g hg).1;have h2:=(h.oh.lt g e).2;omega
theorem Lay.put (h:Lay T w0 w1 B c s v1 v2 vs vt q) (o:Obj) {q2:World} (hg:(q.alloc o).grownBy q2 vs.ownBlock) (v:Value) (P:List Op.Pk) (ho:q2.ownsRow w1.heap.size 32 3 v P.length (ae P)):Lay T w0 w1 B c { s with sn:=P } v1 v2 v vt (q2.setCell ⟨B,37,none⟩ v):=by
 have h':=h.step ((zC q.heap.size q).alloc (zD _) o);have n0:=aq h'.os h'.row h.tt.2.1;have r2:q2.heap[B]?=some (.cells (lF c s.e v1 v2 vs vt).toArray T):=(hg.block B h'.lt (fun e=>n0 e.symm)).trans h'.row;have hr:=zH q2 B 37 _ _ v r2;rw [List.setIfInBounds_toArray] at hr;have hk:∀ k,k≠B→(q2.setCell ⟨B,37,none⟩ v).heap[k]?=q2.heap[k]?:=fun k hk=>heap_setCell_other q2 _ _ _ hk
 have k1:∀ {bs:Nat} {e:TypeId} {size:Nat} {u:Value} {n:Nat} {xs:List Value},(q.alloc o).ownsRow bs e size u n xs→T≠e→32≠e→(q2.setCell ⟨B,37,none⟩ v).ownsRow bs e size u n xs:=by
  intro bs e size u n xs hu ht hp;have a2:=gl hu h'.os (fun e=>hp e.symm);have h3:=World.ownsRow.kept hu hg (by cases hv:u.ownBlock with | none=>exact Or.inl rfl | some g=>exact Or.inr fun e=>a2 g hv e.symm);exact ak h3 fun g hg=>hk g fun e=>aq h3 r2 ht (e ▸ hg)
 have k2:∀ {u:Value} {F:List Op.Opt},HoldsO (q.alloc o) u F→HoldsO (q2.setCell ⟨B,37,none⟩ v) u F:=by
  intro u F hu;have h3:HoldsO q2 u F:=by
   rcases hu with ⟨ad,cp,e,e0⟩ | ⟨g,cp,cur,e,q1,r1⟩
   ·exact Or.inl ⟨ad,cp,e,e0⟩
   ·exact Or.inr ⟨g,cp,cur,e,(hg.block g (ge.1 q1).1 fun e2=>aq h'.os q1 (by decide) e2.symm).trans q1,r1⟩
  exact bS h3 r2 h.tt.1 fun k _=>hk k
 refine ⟨hr,k1 h'.o1 h.tt.1 (by decide),k1 h'.o2 h.tt.1 (by decide),ak ho fun g hg=>hk g fun e=>aq ho r2 h.tt.2.1 (e ▸ hg),k1 h'.ot h.tt.2.2 (by decide),k1 h'.oh h.tt.1 (by decide),k2 h'.ha,h.hB,h.tt,h.ap,h.aph,h.lo,?_⟩;refine Nr.setCell ?_ 37 v;have hl:=h'.nr;exact ⟨hg.os.trans hl.os,hg.tape.trans hl.tape,hg.output.trans hl.output,zE hl.size hg.size,fun b hb hn=>(hg.block b (Nat.lt_of_lt_of_le hb hl.size) fun e=>by have:=(h'.os.lt b e.symm).1;omega).trans (hl.block b hb hn)⟩
theorem Lay.say (h:Lay T w0 w1 B c s v1 v2 vs vt q) (o:Obj) {q2:World} (hg:(q.alloc o).grownBy q2 vt.ownBlock) (v:Value) (P:List ByteArray) (ho:q2.ownsRow w1.heap.size 9 1 v P.length (a_ P)):Lay T w0 w1 B c { s with tl:=P } v1 v2 vs v (q2.setCell ⟨B,38,none⟩ v):=by
 have h':=h.step ((zC q.heap.size q).alloc (zD _) o);have n0:=aq h'.ot h'.row h.tt.2.2;have r2:q2.heap[B]?=some (.cells (lF c s.e v1 v2 vs vt).toArray T):=(hg.block B h'.lt (fun e=>n0 e.symm)).trans h'.row;have hr:=zH q2 B 38 _ _ v r2;rw [List.setIfInBounds_toArray] at hr;have hk:∀ k,k≠B→(q2.setCell ⟨B,38,none⟩ v).heap[k]?=q2.heap[k]?:=fun k hk=>heap_setCell_other q2 _ _ _ hk
 have k1:∀ {bs:Nat} {e:TypeId} {size:Nat} {u:Value} {n:Nat} {xs:List Value},(q.alloc o).ownsRow bs e size u n xs→T≠e→9≠e→(q2.setCell ⟨B,38,none⟩ v).ownsRow bs e size u n xs:=by
  intro bs e size u n xs hu ht hp;have a2:=gl hu h'.ot (fun e=>hp e.symm);have h3:=World.ownsRow.kept hu hg (by cases hv:u.ownBlock with | none=>exact Or.inl rfl | some g=>exact Or.inr fun e=>a2 g hv e.symm);exact ak h3 fun g hg=>hk g fun e=>aq h3 r2 ht (e ▸ hg)
 have k2:∀ {u:Value} {F:List Op.Opt},HoldsO (q.alloc o) u F→HoldsO (q2.setCell ⟨B,38,none⟩ v) u F:=by
  intro u F hu;have h3:HoldsO q2 u F:=by
   rcases hu with ⟨ad,cp,e,e0⟩ | ⟨g,cp,cur,e,q1,r1⟩
   ·exact Or.inl ⟨ad,cp,e,e0⟩
   ·exact Or.inr ⟨g,cp,cur,e,(hg.block g (ge.1 q1).1 fun e2=>aq h'.ot q1 (by decide) e2.symm).trans q1,r1⟩
  exact bS h3 r2 h.tt.1 fun k _=>hk k
 refine ⟨hr,k1 h'.o1 h.tt.1 (by decide),k1 h'.o2 h.tt.1 (by decide),k1 h'.os h.tt.2.1 (by decide),ak ho fun g hg=>hk g fun e=>aq ho r2 h.tt.2.2 (e ▸ hg),k1 h'.oh h.tt.1 (by decide),k2 h'.ha,h.hB,h.tt,h.ap,h.aph,h.lo,?_⟩;refine Nr.setCell ?_ 38 v;have hl:=h'.nr;exact ⟨hg.os.trans hl.os,hg.tape.trans hl.tape,hg.output.trans hl.output,zE hl.size hg.size,fun b hb hn=>(hg.block b (Nat.lt_of_lt_of_le hb hl.size) fun e=>by have:=(h'.ot.lt b e.symm).1;omega).trans (hl.block b hb hn)⟩
end
theorem iA:(prog.info? 5).map (fun i=>(i.zero,i.size,i.bytes))=some (some (.int .u8 0),1,1):=by kernel_rfl
theorem v_:madeCells #[Value.int .u8 0] 0=#[]:=by kernel_rfl
theorem Aq:madeCells #[Value.int .u8 0] 1=#[.int .u8 0]:=by kernel_rfl
theorem we:madeCells #[Value.int .u8 0] 2=#[.int .u8 0,.int .u8 0]:=by kernel_rfl
theorem wg:madeCells #[Value.int .u8 0] 4=#[.int .u8 0,.int .u8 0,.int .u8 0,.int .u8 0]:=by kernel_rfl
theorem wh (w:World):(Instr.makeSlice 22 (.int .i64 0) (.int .i64 0)).run prog w=.ok (.slice (some ⟨w.heap.size,0,none⟩) 0 0) (w.alloc (.cells #[] 5)) :=
 v_ ▸ run_make_row' (P:=prog) 22 5 (.int .u8 0) 1 underlying22 iA rfl .i64 .i64 0 (by decide) (by decide) w
theorem wj (w:World):(Instr.makeSlice 22 (.int .i64 1) (.int .i64 1)).run prog w=.ok (.slice (some ⟨w.heap.size,0,none⟩) 1 1) (w.alloc (.cells #[.int .u8 0] 5)) :=
 Aq ▸ run_make_row' (P:=prog) 22 5 (.int .u8 0) 1 underlying22 iA rfl .i64 .i64 1 (by decide) (by decide) w
theorem tw (w:World):(Instr.makeSlice 22 (.int .i64 2) (.int .i64 2)).run prog w=.ok (.slice (some ⟨w.heap.size,0,none⟩) 2 2) (w.alloc (.cells #[.int .u8 0,.int .u8 0] 5)) :=
 we ▸ run_make_row' (P:=prog) 22 5 (.int .u8 0) 1 underlying22 iA rfl .i64 .i64 2 (by decide) (by decide) w
theorem tz (w:World):(Instr.makeSlice 22 (.int .i64 4) (.int .i64 4)).run prog w=.ok (.slice (some ⟨w.heap.size,0,none⟩) 4 4) (w.alloc (.cells #[.int .u8 0,.int .u8 0,.int .u8 0,.int .u8 0] 5)) :=
 wg ▸ run_make_row' (P:=prog) 22 5 (.int .u8 0) 1 underlying22 iA rfl .i64 .i64 4 (by decide) (by decide) w
theorem wl (w:World):(convert 22 9 (.slice (some ⟨w.heap.size,0,none⟩) 0 0)).run prog (w.alloc (.cells #[] 5))=.ok (.string (strOfNums [])) (w.alloc (.cells #[] 5)) :=
 run_convert_bytes_arg (P:=prog) _ 22 5 underlying22 underlying5 w.heap.size 0 0 0 [] rfl (fun i hi=>by cases hi) 9 underlying9
theorem wm (w:World) (a:Int):(convert 22 9 (.slice (some ⟨w.heap.size,0,none⟩) 1 1)).run prog (w.alloc (.cells #[.int .u8 a] 5))=.ok (.string (strOfNums [a])) (w.alloc (.cells #[.int .u8 a] 5)) :=
 run_convert_bytes_arg (P:=prog) _ 22 5 underlying22 underlying5 w.heap.size 0 1 1 [a] rfl (fun i hi=>by
  rw [World.cell?_alloc_at _ _ _ _ (by simp)];match i,hi with
  | 0,_=>rfl) 9 underlying9
theorem tA (w:World) (a b:Int):(convert 22 9 (.slice (some ⟨w.heap.size,0,none⟩) 2 2)).run prog (w.alloc (.cells #[.int .u8 a,.int .u8 b] 5))=.ok (.string (strOfNums [a,b])) (w.alloc (.cells #[.int .u8 a,.int .u8 b] 5)) :=
 run_convert_bytes_arg (P:=prog) _ 22 5 underlying22 underlying5 w.heap.size 0 2 2 [a,b] rfl (fun i hi=>by
  rw [World.cell?_alloc_at _ _ _ _ (by simp)];match i,hi with
  | 0,_=>rfl
  | 1,_=>rfl) 9 underlying9
theorem tC (w:World) (a b c d:Int):(convert 22 9 (.slice (some ⟨w.heap.size,0,none⟩) 4 4)).run prog (w.alloc (.cells #[.int .u8 a,.int .u8 b,.int .u8 c,.int .u8 d] 5))=.ok (.string (strOfNums [a,b,c,d])) (w.alloc (.cells #[.int .u8 a,.int .u8 b,.int .u8 c,.int .u8 d] 5)) :=
 run_convert_bytes_arg (P:=prog) _ 22 5 underlying22 underlying5 w.heap.size 0 4 4 [a,b,c,d] rfl (fun i hi=>by
  rw [World.cell?_alloc_at _ _ _ _ (by simp)];match i,hi with
  | 0,_=>rfl
  | 1,_=>rfl
  | 2,_=>rfl
  | 3,_=>rfl) 9 underlying9
def fu (n:Nat):ByteArray:=strOfNums [(n:Int) % 256]
def ji (n:Nat):ByteArray:=strOfNums [(n:Int) / 256 % 256,(n:Int) % 256]
def cK (n:Nat):ByteArray:=strOfNums [(n:Int) / 16777216 % 256,(n:Int) / 65536 % 256,(n:Int) / 256 % 256,(n:Int) % 256]
theorem se (n:Nat) (w:World):Calls prog 18 #[.int .i64 n,.int .i64 0] w fun e w'=>e=.returned (.string ⟨#[]⟩)∧Below w.heap.size w w':=by
 have hm:=wh;have hc:=wl w;go_enter func18,ntmps18
 go_wp2_with fail
 go_rounds 1
 go_ret
 exact ⟨rfl,(zC _ _).alloc (zD _) _⟩
theorem wn (n:Nat) (w:World):Calls prog 18 #[.int .i64 n,.int .i64 1] w fun e w'=>e=.returned (.string (fu n))∧Below w.heap.size w w':=by
 have hm:=wj;have hc:=wm w;unfold fu;go_enter func18,ntmps18
 go_wp2_with fail
 go_rounds 2
 go_ret
 exact ⟨rfl,(zC _ _).alloc (zD _) _⟩
theorem wt (n:Nat) (w:World):Calls prog 18 #[.int .i64 n,.int .i64 2] w fun e w'=>e=.returned (.string (ji n))∧Below w.heap.size w w':=by
 have hm:=tw;have hc:=tA w;unfold ji;go_enter func18,ntmps18
 go_wp2_with fail
 go_rounds 3
 go_ret
 exact ⟨rfl,(zC _ _).alloc (zD _) _⟩
theorem pL (n:Nat) (w:World):Calls prog 18 #[.int .i64 n,.int .i64 4] w fun e w'=>e=.returned (.string (cK n))∧Below w.heap.size w w':=by
 have hm:=tz;have hc:=tC w;unfold cK;go_enter func18,ntmps18
 go_wp2_with fail
 go_rounds 5
 go_ret
 exact ⟨rfl,(zC _ _).alloc (zD _) _⟩
theorem yp (m a g:Int) (p c d:Bool) (w:World):Calls prog 43 #[cN m a g p c d] w fun e w'=>e=.returned (.tuple #[.int .i64 m,.bool (m != 300)])∧Below w.heap.size w w':=by
 go_enter func43,ntmps43
 go_wp2_with fail
 go_quiet (fail)
 go_wp2
 go_ret2
 exact ⟨rfl,aH ((zC _ _).alloc (zD _) _) _⟩
theorem yq (m a g:Int) (p c d:Bool) (w:World):Calls prog 49 #[cN m a g p c d] w fun e w'=>e=.returned (.tuple #[.int .i64 a,.bool (a != 4294967295)])∧Below w.heap.size w w':=by
 go_enter func49,ntmps49
 go_wp2_with fail
 go_quiet (fail)
 go_wp2
 go_ret2
 exact ⟨rfl,aH ((zC _ _).alloc (zD _) _) _⟩
theorem yr (m a g:Int) (p c d:Bool) (w:World):Calls prog 54 #[cN m a g p c d] w fun e w'=>e=.returned (.tuple #[.int .i64 g,.bool (g != 0)])∧Below w.heap.size w w':=by
 go_enter func54,ntmps54
 go_wp2_with fail
 go_quiet (fail)
 go_wp2
 go_ret2
 exact ⟨rfl,aH ((zC _ _).alloc (zD _) _) _⟩
theorem yt (m a g:Int) (p c d:Bool) (w:World):Calls prog 60 #[cN m a g p c d] w fun e w'=>e=.returned (.tuple #[.int .i64 0,.bool p])∧Below w.heap.size w w':=by
 go_enter func60,ntmps60
 go_wp2_with fail
 go_quiet (fail)
 go_wp2
 go_ret2
 exact ⟨rfl,aH ((zC _ _).alloc (zD _) _) _⟩
theorem yu (m a g:Int) (p c d:Bool) (w:World):Calls prog 65 #[cN m a g p c d] w fun e w'=>e=.returned (.tuple #[.int .i64 0,.bool c])∧Below w.heap.size w w':=by
 go_enter func65,ntmps65
 go_wp2_with fail
 go_quiet (fail)
 go_wp2
 go_ret2
 exact ⟨rfl,aH ((zC _ _).alloc (zD _) _) _⟩
theorem yv (m a g:Int) (p c d:Bool) (w:World):Calls prog 70 #[cN m a g p c d] w fun e w'=>e=.returned (.tuple #[.int .i64 4,.bool d])∧Below w.heap.size w w':=by
 go_enter func70,ntmps70
 go_wp2_with fail
 go_quiet (fail)
 go_wp2
 go_ret2
 exact ⟨rfl,aH ((zC _ _).alloc (zD _) _) _⟩
def c_ (b:Bool) (k:Int) (t:ByteArray):List Op.Opt:=if b then [⟨k,t⟩] else []
theorem bD (k:Int) (t:ByteArray):c_ true k t=[⟨k,t⟩]:=rfl
theorem dG (k:Int) (t:ByteArray):c_ false k t=[]:=rfl
def eZ (m a g:Nat) (p c d:Bool):List (List Op.Opt) :=
 [c_ ((m:Int) != 300) 1 (ji m),c_ ((a:Int) != 4294967295) 2 (cK a),c_ ((g:Int) != 0) 5 (cK g),c_ p 7 ⟨#[]⟩,c_ c 8 ⟨#[]⟩,c_ d 9 (fu 4)]
def dO (m a g:Nat) (p c d:Bool) (i:Nat):List Op.Opt:=((eZ m a g p c d).take i).flatten
theorem oC (b:Bool) (k:Int) (t:ByteArray):(c_ b k t).length≤1:=by unfold c_;split<;>simp
theorem dp (m a g:Nat) (p c d:Bool) (i:Nat):(dO m a g p c d i).length≤6:=by
 have h:∀ (n:Nat) (l:List (List Op.Opt)),l.length=n→(∀ x ∈ l,x.length≤1)→l.flatten.length≤n:=by
  intro n l hl hx;induction l generalizing n with
  | nil=>simp
  | cons x l ih =>
   have h1:=hx x (by simp);have h2:=ih _ rfl fun y hy=>hx y (by simp [hy])
   rw [List.flatten_cons,List.length_append];rw [List.length_cons] at hl;omega
 have hA:∀ x ∈ eZ m a g p c d,x.length≤1:=by
  intro x hx;simp only [eZ,List.mem_cons,List.not_mem_nil,or_false] at hx;rcases hx with rfl | rfl | rfl | rfl | rfl | rfl<;>exact oC _ _ _
 have:=h _ ((eZ m a g p c d).take i) rfl fun x hx=>hA x (List.mem_of_mem_take hx)
 have h6:((eZ m a g p c d).take i).length≤6:=by rw [List.length_take];simp [eZ];omega
 unfold dO;omega
abbrev uD:Value:=.agg #[.int .i64 1,.int .i64 2,.int .i64 5,.int .i64 7,.int .i64 8,.int .i64 9]
structure AskR (m a g:Nat) (p c d:Bool) (i:Nat) (k s:Int) (f f2 f3 f4 f5 n j:Nat) (b:Bool) (t:ByteArray):Prop where
 ix:∀ W,(Instr.index 52 uD (.int .i64 i)).run prog W=.ok (.int .i64 k) W
 fd:Instr.findNow (.int .i64) (.int .i64 k) cI.toList 0=some (some (j,aZ s f f2 f3 f4 f5))
 cf:∀ args W,(callFunc f args).run prog W=.ok (.enter f args) W
 ask:∀ v,Calls prog f #[cN m a g p c d] v fun e w'=>e=.returned (.tuple #[.int .i64 n,.bool b])∧Below v.heap.size v w'
 num:∀ v,Calls prog 18 #[.int .i64 n,.int .i64 s] v fun e w'=>e=.returned (.string t)∧Below v.heap.size v w'
 lst:dO m a g p c d (i+1)=dO m a g p c d i ++ c_ b k t
theorem sf (m a g:Nat) (p c d:Bool) (i:Nat) (hi:i<6):∃ k s f f2 f3 f4 f5 n j b t,AskR m a g p c d i k s f f2 f3 f4 f5 n j b t:=by
 match i,hi with
 | 0,_=>exact ⟨_,_,_,_,_,_,_,_,_,_,_,⟨fun W=>rfl,rfl,bM (by kernel_rfl),fun v=>yp m a g p c d v,fun v=>wt m v,by simp [dO,eZ]⟩⟩
 | 1,_=>exact ⟨_,_,_,_,_,_,_,_,_,_,_,⟨fun W=>rfl,rfl,bM (by kernel_rfl),fun v=>yq m a g p c d v,fun v=>pL a v,by simp [dO,eZ]⟩⟩
 | 2,_=>exact ⟨_,_,_,_,_,_,_,_,_,_,_,⟨fun W=>rfl,rfl,bM (by kernel_rfl),fun v=>yr m a g p c d v,fun v=>pL g v,by simp [dO,eZ]⟩⟩
 | 3,_=>exact ⟨_,_,_,_,_,_,_,0,_,_,_,⟨fun W=>rfl,rfl,bM (by kernel_rfl),fun v=>yt m a g p c d v,fun v=>se 0 v,by simp [dO,eZ]⟩⟩
 | 4,_=>exact ⟨_,_,_,_,_,_,_,0,_,_,_,⟨fun W=>rfl,rfl,bM (by kernel_rfl),fun v=>yu m a g p c d v,fun v=>se 0 v,by simp [dO,eZ]⟩⟩
 | 5,_=>exact ⟨_,_,_,_,_,_,_,4,_,_,_,⟨fun W=>rfl,rfl,bM (by kernel_rfl),fun v=>yv m a g p c d v,fun v=>wn 4 v,by simp [dO,eZ]⟩⟩
def d8 (t:ByteArray):ByteArray:=if 250<t.size then t.extract 0 250 else t
theorem lA:∀ (L:List Bool) (i:Nat),L[i]?=some false→(L.set i true).count false+1=L.count false
 | [],_,h=>by simp at h
 | b :: L,0,h=>by
  simp at h;subst h;simp
 | b :: L,i+1,h=>by
  have:=lA L i (by simpa using h)
  simp only [List.set_cons_succ,List.count_cons];omega
def kH (ops:Array Oper):Bool:=(List.range ops.size).all fun i=>match ops[i]? with | some o=>o.after.all fun e=>decide (e.on<i) | none=>true
def kn (md:Region.Mode) (ops:Array Oper) (L:Array Bool) (i:Nat):Bool:=match ops[i]? with | some o=>o.after.all fun e=>!Region.binds md e || L.getD e.on false | none=>true
theorem ko:∀ (L:List Bool),L.count false≠0→∃ i:Nat,L[i]?=some false∧∀ j:Nat,j<i→L[j]?=some true
 | [],h=>by simp at h
 | false :: L,_=>⟨0,rfl,fun j hj=>absurd hj (Nat.not_lt_zero _)⟩
 | true :: L,h=>by
  obtain ⟨i,h1,h2⟩:=ko L (by simpa using h);refine ⟨i+1,by simpa using h1,fun j hj=>?_⟩;cases j with
  | zero=>rfl
  | succ j=>simpa using h2 j (by omega)
theorem pF {md:Region.Mode} {ops:Array Oper} {L:Array Bool} (ha:kH ops=true) (hsz:L.size=ops.size) (h:L.toList.count false≠0):Region.ready md ops L≠[]:=by
 obtain ⟨i,h1,h2⟩:=ko _ h;have hi:i<ops.size:=by
  rw [← hsz];have:=(List.getElem?_eq_some_iff.1 h1).1
  simpa using this
 refine List.ne_nil_of_mem (a:=i) (mem_ready.2 ⟨?_,ops[i],Array.getElem?_eq_getElem hi,fun e he _=>?_⟩)
 ·rw [Array.getElem?_toList] at h1;simp [h1]
 ·have:=List.all_eq_true.1 ha i (List.mem_range.2 hi)
  rw [Array.getElem?_eq_getElem hi] at this;have:=of_decide_eq_true (Array.all_eq_true_iff_forall_mem.1 this e he)
  have:=h2 e.on this
  rw [Array.getElem?_toList] at this;simp [this]
theorem lD {P:Program} {md:Region.Mode} {ops:Array Oper} {Q:Exit→Act→World→Prop} (I:Array Bool→Act→World→Prop)
  (hd:∀ L a w,I L a w→L.toList.count false=0→Q .normal a w)
  (ha:kH ops=true)
  (hs:∀ L a w i,I L a w→i<ops.size→L[i]?=some false→kn md ops L i=true→wpOp P ops Q i (fun a' w'=>I (L.setIfInBounds i true) a' w') a w) :
  ∀ (fuel:Nat) (L:Array Bool) (a:Act) (w:World),I L a w→L.size=ops.size→L.toList.count false≤fuel→wpAny P md ops Q fuel L a w
 | 0,L,a,w,h,hsz,hc=>by
  have h0:L.toList.count false=0:=by omega
  refine ⟨?_,hd L a w h h0⟩;refine List.eq_nil_iff_forall_not_mem.2 fun j hj=>?_
  obtain ⟨h1,_⟩:=mem_ready.1 hj;rw [List.count_eq_zero] at h0;apply h0
  by_cases hl:j<L.size
  ·have:L[j]=false:=by simpa [hl] using h1
   rw [← this];exact Array.mem_toList_iff.2 (Array.getElem_mem hl)
  ·simp [Nat.not_lt.1 hl] at h1
 | fuel+1,L,a,w,h,hsz,hc=>by
  refine ⟨fun hr=>?_,fun i hi=>?_⟩
  ·by_cases h0:L.toList.count false=0
   ·exact hd L a w h h0
   ·exact absurd hr (pF ha hsz h0)
  ·obtain ⟨h1,o,ho,h2⟩:=mem_ready.1 hi;have h3:L[i]?=some false:=by
    by_cases hl:i<L.size
    ·rw [Array.getElem?_eq_getElem hl];simpa [hl] using h1
    ·simp [Nat.not_lt.1 hl] at h1
   refine wpOp_mono (fun a' w' h4=>lD I hd ha hs fuel _ a' w' h4 (by rw [Array.size_setIfInBounds];exact hsz) ?_) (hs L a w i h (ge.1 ho).1 h3 (by
    unfold kn;rw [ho];refine Array.all_eq_true_iff_forall_mem.2 fun e he=>?_
    cases hb:Region.binds md e
    ·rfl
    ·simpa using h2 e he hb))
   have:=lA L.toList i (by simpa using h3)
   rw [Array.toList_setIfInBounds];omega
theorem ll {P:Program} {id:Nat} {ops:Array Oper} {Q:Exit→Act→World→Prop} {a:Act} {w:World} (I:Array Bool→Act→World→Prop) (hm:P.follows .mixedOrders=true)
  (h0:I (Array.replicate ops.size false) a w.drew)
  (hd:∀ L a w,I L a w→L.toList.count false=0→Q .normal a w)
  (ha:kH ops=true)
  (hs:∀ L a w i,I L a w→i<ops.size→L[i]?=some false→kn .any ops L i=true→wpOp P ops Q i (fun a' w'=>I (L.setIfInBounds i true) a' w') a w) :
  (Code.region id ops true).wp P Q a w :=
 wp_region_any hm (lD I hd ha hs _ _ _ _ h0 (by simp) (by simp))
def Aw:List UInt8:=[48,49,50,51,52,53,54,55,56,57,97,98,99,100,101,102]
def dg (n:Nat):UInt8:=Aw.getD n 0
def ux (c:UInt8):List UInt8:=[dg (c.toNat / 16),dg (c.toNat % 16)]
def eB (l:List UInt8):List UInt8:=l.flatMap ux
theorem sJ (l:List UInt8) (c:UInt8):eB (l ++ [c])=eB l ++ ux c:=by simp [eB]
theorem gw (l:List UInt8):(eB l).length=2*l.length:=by
 induction l with
 | nil=>rfl
 | cons c l ih =>
  show (ux c ++ eB l).length=_
  rw [List.length_append,ih,List.length_cons];show 2+_=_
  omega
def bb (t:ByteArray):ByteArray:=if t.size≤4000 then co (eB t.data.toList) else ⟨#[]⟩
def yR:ByteArray:=⟨#[48,49,50,51,52,53,54,55,56,57,97,98,99,100,101,102]⟩
theorem Ax (n:Nat) (h:n<16):∀ g,yR[n]'g=dg n:=by
 have:n=0∨n=1∨n=2∨n=3∨n=4∨n=5∨n=6∨n=7∨n=8∨n=9∨n=10∨n=11∨n=12∨n=13∨n=14∨n=15:=by omega
 rcases this with rfl | rfl | rfl | rfl | rfl | rfl | rfl | rfl | rfl | rfl | rfl | rfl | rfl | rfl | rfl | rfl<;>intro _<;>rfl
theorem nt (n:Nat) (h:n<16) (W:World):(Instr.index 9 (.string ⟨#[48,49,50,51,52,53,54,55,56,57,97,98,99,100,101,102]⟩) (.int .u8 (n:Int))).run prog W=.ok (.int .u8 ((dg n).toNat:Int)) W:=by
 have hs:(yR.size:Int)=16:=rfl;show (Instr.index 9 (.string yR) (.int .u8 (n:Int))).run prog W=_
 have h1:(0:Int)≤(n:Int)∧(n:Int)<yR.size:=by omega
 rw [run_index_string _ _ _ _ _ underlying9,dif_pos h1];simp only [Int.toNat_natCast,Ax n h]
end Go.Proofs.YtjebigodbnefiaaGreatDoor
