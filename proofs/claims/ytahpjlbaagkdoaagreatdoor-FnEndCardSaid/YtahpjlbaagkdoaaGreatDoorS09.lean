/- EndTo EndOut WkB -/
import Derived.Test.YtahpjlbaagkdoaaGreatDoorS08
set_option maxHeartbeats 8000000
set_option maxRecDepth 100000
namespace Go.Proofs.YtahpjlbaagkdoaaGreatDoor
open Go.RowKit Go.Proofs.Tryz
theorem toLn (m a:Int) (p c d:Bool) (w:World):Calls prog 53 #[.agg #[.int .i64 m,.int .i64 a,.bool p,.bool c,.bool d]] w fun e w'=>e=.returned (.agg #[.int .i64 m,.int .i64 a,.bool p,.bool c,.bool d])∧Below w.heap.size w w':=by
 go_enter func53,ntmps53
 go_wp2
 exact bodyPost_ret (v:=.agg #[.int .i64 m,.int .i64 a,.bool p,.bool c,.bool d]) (by simp [results,results53,go_sem]) rfl ⟨rfl,(((Below.refl _ _).alloc (Nat.le_refl _) _).alloc (by simp) _).alloc (by simp;omega) _⟩
structure ToE (w:World) (cs:Array Value) (os:List Value) (q:World):Prop where
 a:q.heap[w.heap.size]?=some (.cells cs 51)
 r:q.heap[w.heap.size+1]?=some (.cells #[.int .i64 0,.int .i64 0,.int .i64 0,.bool false,.bool false,.bool false,.int .i64 0,.int .i64 0,.int .i64 0,.bool false,.bool false,.bool false,.int .i64 0,.int .i64 0,.int .i64 0,.int .i64 0,.int .i64 0,.slice none 0 0,.slice none 0 0,.bool false,.int .i64 0,.int .i64 0,.bool false,.bool false,.bool false,.int .i64 0,.int .i64 0,.bool false,.bool false,.bool false] 29)
 o:q.heap[w.heap.size+1+1]?=some (.cells os.toArray 29)
 l:Below w.heap.size w q
theorem ToE.step {w:World} {cs:Array Value} {os:List Value} {q q':World} (h:ToE w cs os q) (hb:Below q.heap.size q q'):ToE w cs os q' :=
 ⟨(hb.block _ (ge.1 h.a).1).trans h.a,(hb.block _ (ge.1 h.r).1).trans h.r,(hb.block _ (ge.1 h.o).1).trans h.o,h.l.trans (hb.mono h.l.size)⟩
theorem ToE.set {w:World} {cs:Array Value} {os:List Value} {q:World} (h:ToE w cs os q) (i:Nat) (v:Value):ToE w cs (os.set i v) (q.setCell ⟨w.heap.size+1+1,i,none⟩ v) :=
 ⟨(Below.heap_setCell _ _ _ _ (by simp;omega)).trans h.a,(Below.heap_setCell _ _ _ _ (by simp)).trans h.r,by rw [← List.setIfInBounds_toArray];exact heap_setCell_same _ _ i _ _ v h.o,h.l.setCell (p:=⟨w.heap.size+1+1,i,none⟩) (by simp;omega) _⟩
structure HH (v1 v2:Value) (F1 F2:List Op.Opt) (O R:Nat) (q:World):Prop where
 h1:HoldsO q v1 F1
 h2:HoldsO q v2 F2
 n1:∀ g,v1.ownBlock=some g→g≠O∧g≠R
 n2:∀ g,v2.ownBlock=some g→g≠O∧g≠R
theorem HoldsO.other {w w':World} {v:Value} {F:List Op.Opt} (h:HoldsO w v F) (hw:∀ g,v.ownBlock=some g→w'.heap[g]?=w.heap[g]?):HoldsO w' v F:=by
 rcases h with ⟨ad,cp,e,e0⟩ | ⟨g,cp,cur,e,q1,q2⟩
 ·exact Or.inl ⟨ad,cp,e,e0⟩
 ·exact Or.inr ⟨g,cp,cur,e,(hw g (by rw [e];rfl)).trans q1,q2⟩
theorem HoldsO.lt {w:World} {v:Value} {F:List Op.Opt} (h:HoldsO w v F) (hF:F≠[]) (g:Nat) (hg:v.ownBlock=some g):g<w.heap.size:=by
 rcases h with ⟨_,_,_,e⟩ | ⟨g',cp,cur,e,q1,_⟩
 ·exact absurd e hF
 ·rw [e] at hg;cases hg;exact (ge.1 q1).1
theorem HH.set {v1 v2:Value} {F1 F2:List Op.Opt} {O R:Nat} {q:World} (h:HH v1 v2 F1 F2 O R q) (i:Nat) (x:Value):HH v1 v2 F1 F2 O R (q.setCell ⟨O,i,none⟩ x) :=
 ⟨h.h1.other fun g hg=>Below.heap_setCell _ _ _ _ (h.n1 g hg).1,h.h2.other fun g hg=>Below.heap_setCell _ _ _ _ (h.n2 g hg).1,h.n1,h.n2⟩
theorem HH.step {v1 v2:Value} {F1 F2:List Op.Opt} {O R:Nat} {q q':World} (h:HH v1 v2 F1 F2 O R q) (hb:Below q.heap.size q q'):HH v1 v2 F1 F2 O R q' :=
 ⟨h.h1.below hb rfl,h.h2.below hb rfl,h.n1,h.n2⟩
theorem HH.row {v1 v2:Value} {F1 F2:List Op.Opt} {O R:Nat} {q:World} (h:HH v1 v2 F1 F2 O R q) (cs:Array Value):HH v1 v2 F1 F2 O R (q.setRow R cs) :=
 ⟨h.h1.other fun g hg=>setRow_other _ _ _ _ (h.n1 g hg).2,h.h2.other fun g hg=>setRow_other _ _ _ _ (h.n2 g hg).2,h.n1,h.n2⟩
theorem infoE:(prog.info? 29).map (·.size)=some 30:=by kernel_rfl
theorem loadEn {W:World} {E:Nat} {cs:Array Value} (h:W.heap[E]?=some (.cells cs 29)) (hs:cs.size=30:=by rfl):(loadVar 29 ⟨E,0,none⟩).run prog W=.ok (.agg cs) W :=
 run_loadVar_row (P:=prog) _ _ 29 29 cs (0,0) _ h underlying29 rfl (by rw [hs];exact infoE)
theorem below_row {B g:Nat} {w0 w:World} (hb:Below B w0 w) (h:B≤g) (cs:Array Value):Below B w0 (w.setRow g cs) :=
 ⟨hb.os,hb.tape,hb.output,by rw [size_setRow];exact hb.size,fun b hlt=>(setRow_other _ _ _ _ (by omega)).trans (hb.block b hlt)⟩
theorem start3r (w:World) (a b c:Obj):(((w.alloc a).alloc b).alloc c).heap[w.heap.size]?=some a∧(((w.alloc a).alloc b).alloc c).heap[w.heap.size+1]?=some b∧(((w.alloc a).alloc b).alloc c).heap[w.heap.size+1+1]?=some c∧Below w.heap.size w (((w.alloc a).alloc b).alloc c):=by
 have s1:(w.alloc a).heap.size=w.heap.size+1:=by simp
 have s2:((w.alloc a).alloc b).heap.size=w.heap.size+1+1:=by simp
 have e2:=heap_alloc_new (w.alloc a) b;have e3:=heap_alloc_new ((w.alloc a).alloc b) c;rw [s1] at e2;rw [s2] at e3;refine ⟨?_,?_,e3,(((Below.refl _ _).alloc (Nat.le_refl _) _).alloc (by omega) _).alloc (by omega) _⟩
 ·rw [Below.heap_alloc _ _ _ (by omega),Below.heap_alloc _ _ _ (by omega)];exact heap_alloc_new w a
 ·rw [Below.heap_alloc _ _ _ (by omega)];exact e2
theorem toEnd (e:En) (x1 x2:Option Addr) (y1 y2:Nat) (F1 F2:List Op.Opt) (w:World) (l1:F1.length≤1048576) (l2:F2.length≤1048576)
  (h1:ArgO w (.slice x1 F1.length y1) F1) (h2:ArgO w (.slice x2 F2.length y2) F2) :
  Calls prog 17 #[.agg (enC e (.slice x1 F1.length y1) (.slice x2 F2.length y2))] w fun r w'=>∃ u1 z1 u2 z2,r=.returned (.agg (enC e (.slice u1 F1.length z1) (.slice u2 F2.length z2)))∧HoldsO w' (.slice u1 F1.length z1) F1∧HoldsO w' (.slice u2 F2.length z2) F2 ∧
   (∀ q,(Value.slice u1 F1.length z1).ownBlock=some q→w.heap.size≤q)∧(∀ q,(Value.slice u2 F2.length z2).ownBlock=some q→w.heap.size≤q∧(F1=[]∨(Value.slice u1 F1.length z1).ownBlock≠some q))∧Below w.heap.size w w':=by
 have C1:=hide fun W (hb:Below w.heap.size w W)=>toOs _ F1 W l1 (h1.below hb)
 have C2:=hide fun W (hb:Below w.heap.size w W)=>toOs _ F2 W l2 (h2.below hb)
 obtain ⟨m1,a1,g1,p1,c1,d1,m2,a2,g2,p2,c2,d2,st,tr,du,id,fl,up,i1,i2,i3,i4,i5,o1,o2,o3,o4,o5⟩:=e;have hI:ToE w (enC ⟨m1,a1,g1,p1,c1,d1,m2,a2,g2,p2,c2,d2,st,tr,du,id,fl,up,i1,i2,i3,i4,i5,o1,o2,o3,o4,o5⟩ (.slice x1 F1.length y1) (.slice x2 F2.length y2)) [.int .i64 0,.int .i64 0,.int .i64 0,.bool false,.bool false,.bool false,.int .i64 0,.int .i64 0,.int .i64 0,.bool false,.bool false,.bool false,.int .i64 0,.int .i64 0,.int .i64 0,.int .i64 0,.int .i64 0,.slice none 0 0,.slice none 0 0,.bool false,.int .i64 0,.int .i64 0,.bool false,.bool false,.bool false,.int .i64 0,.int .i64 0,.bool false,.bool false,.bool false] (((w.alloc (.cells (enC ⟨m1,a1,g1,p1,c1,d1,m2,a2,g2,p2,c2,d2,st,tr,du,id,fl,up,i1,i2,i3,i4,i5,o1,o2,o3,o4,o5⟩ (.slice x1 F1.length y1) (.slice x2 F2.length y2)) 51)).alloc (.cells #[.int .i64 0,.int .i64 0,.int .i64 0,.bool false,.bool false,.bool false,.int .i64 0,.int .i64 0,.int .i64 0,.bool false,.bool false,.bool false,.int .i64 0,.int .i64 0,.int .i64 0,.int .i64 0,.int .i64 0,.slice none 0 0,.slice none 0 0,.bool false,.int .i64 0,.int .i64 0,.bool false,.bool false,.bool false,.int .i64 0,.int .i64 0,.bool false,.bool false,.bool false] 29)).alloc (.cells #[.int .i64 0,.int .i64 0,.int .i64 0,.bool false,.bool false,.bool false,.int .i64 0,.int .i64 0,.int .i64 0,.bool false,.bool false,.bool false,.int .i64 0,.int .i64 0,.int .i64 0,.int .i64 0,.int .i64 0,.slice none 0 0,.slice none 0 0,.bool false,.int .i64 0,.int .i64 0,.bool false,.bool false,.bool false,.int .i64 0,.int .i64 0,.bool false,.bool false,.bool false] 29)):=by
  obtain ⟨a,b,c,d⟩:=start3r w (.cells (enC ⟨m1,a1,g1,p1,c1,d1,m2,a2,g2,p2,c2,d2,st,tr,du,id,fl,up,i1,i2,i3,i4,i5,o1,o2,o3,o4,o5⟩ (.slice x1 F1.length y1) (.slice x2 F2.length y2)) 51) (.cells #[.int .i64 0,.int .i64 0,.int .i64 0,.bool false,.bool false,.bool false,.int .i64 0,.int .i64 0,.int .i64 0,.bool false,.bool false,.bool false,.int .i64 0,.int .i64 0,.int .i64 0,.int .i64 0,.int .i64 0,.slice none 0 0,.slice none 0 0,.bool false,.int .i64 0,.int .i64 0,.bool false,.bool false,.bool false,.int .i64 0,.int .i64 0,.bool false,.bool false,.bool false] 29) (.cells #[.int .i64 0,.int .i64 0,.int .i64 0,.bool false,.bool false,.bool false,.int .i64 0,.int .i64 0,.int .i64 0,.bool false,.bool false,.bool false,.int .i64 0,.int .i64 0,.int .i64 0,.int .i64 0,.int .i64 0,.slice none 0 0,.slice none 0 0,.bool false,.int .i64 0,.int .i64 0,.bool false,.bool false,.bool false,.int .i64 0,.int .i64 0,.bool false,.bool false,.bool false] 29);exact ⟨a,b,c,d⟩
 unfold enC at hI ⊢;dsimp only at hI ⊢;clear h1 h2;obtain ⟨n1,hn1⟩:∃ n1,F1.length=n1:=⟨_,rfl⟩;obtain ⟨n2,hn2⟩:∃ n2,F2.length=n2:=⟨_,rfl⟩;rw [hn1] at hI C1 ⊢;rw [hn2] at hI C2 ⊢;have HI:=hide hI;clear hI;go_enter func17,ntmps17
 go_wp2_with fail
 refine (toCfg m1 a1 g1 p1 c1 d1 _).mono ?_;rintro r w1 ⟨rfl,hb1⟩;have hI1:ToE w #[.int .i64 m1,.int .i64 a1,.int .i64 g1,.bool p1,.bool c1,.bool d1,.int .i64 m2,.int .i64 a2,.int .i64 g2,.bool p2,.bool c2,.bool d2,.int .i64 st,.int .i64 tr,.int .i64 du,.int .i64 id,.int .i64 fl,.slice x1 n1 y1,.slice x2 n2 y2,.bool up,.int .i64 i1,.int .i64 i2,.bool i3,.bool i4,.bool i5,.int .i64 o1,.int .i64 o2,.bool o3,.bool o4,.bool o5] [.int .i64 0,.int .i64 0,.int .i64 0,.bool false,.bool false,.bool false,.int .i64 0,.int .i64 0,.int .i64 0,.bool false,.bool false,.bool false,.int .i64 0,.int .i64 0,.int .i64 0,.int .i64 0,.int .i64 0,.slice none 0 0,.slice none 0 0,.bool false,.int .i64 0,.int .i64 0,.bool false,.bool false,.bool false,.int .i64 0,.int .i64 0,.bool false,.bool false,.bool false] w1:=(uh HI).step hb1;have c6:w1.cell? ⟨w.heap.size,6,none⟩=some (.int .i64 m2):=by rw [cr hI1.a];rfl
 have c7:w1.cell? ⟨w.heap.size,7,none⟩=some (.int .i64 a2):=by rw [cr hI1.a];rfl
 have c8:w1.cell? ⟨w.heap.size,8,none⟩=some (.int .i64 g2):=by rw [cr hI1.a];rfl
 have c9:w1.cell? ⟨w.heap.size,9,none⟩=some (.bool p2):=by rw [cr hI1.a];rfl
 have c10:w1.cell? ⟨w.heap.size,10,none⟩=some (.bool c2):=by rw [cr hI1.a];rfl
 have c11:w1.cell? ⟨w.heap.size,11,none⟩=some (.bool d2):=by rw [cr hI1.a];rfl
 have e0:w1.cell? ⟨w.heap.size+1+1,0,none⟩=some (.int .i64 0):=by rw [cr hI1.o];rfl
 have f0:w1.frozen? ⟨w.heap.size+1+1,0,none⟩=false:=frz hI1.o 0;have e1:w1.cell? ⟨w.heap.size+1+1,1,none⟩=some (.int .i64 0):=by rw [cr hI1.o];rfl
 have f1:w1.frozen? ⟨w.heap.size+1+1,1,none⟩=false:=frz hI1.o 1;have e2:w1.cell? ⟨w.heap.size+1+1,2,none⟩=some (.int .i64 0):=by rw [cr hI1.o];rfl
 have f2:w1.frozen? ⟨w.heap.size+1+1,2,none⟩=false:=frz hI1.o 2;have e3:w1.cell? ⟨w.heap.size+1+1,3,none⟩=some (.bool false):=by rw [cr hI1.o];rfl
 have f3:w1.frozen? ⟨w.heap.size+1+1,3,none⟩=false:=frz hI1.o 3;have e4:w1.cell? ⟨w.heap.size+1+1,4,none⟩=some (.bool false):=by rw [cr hI1.o];rfl
 have f4:w1.frozen? ⟨w.heap.size+1+1,4,none⟩=false:=frz hI1.o 4;have e5:w1.cell? ⟨w.heap.size+1+1,5,none⟩=some (.bool false):=by rw [cr hI1.o];rfl
 have f5:w1.frozen? ⟨w.heap.size+1+1,5,none⟩=false:=frz hI1.o 5;have HI1:=hide hI1;clear hI1 hb1 HI;go_wp2_with fail
 refine (toCfg m2 a2 g2 p2 c2 d2 _).mono ?_;clear c6 c7 c8 c9 c10 c11 e0 f0 e1 f1 e2 f2 e3 f3 e4 f4 e5 f5;rintro r w2 ⟨rfl,hb2⟩;have hI2:ToE w #[.int .i64 m1,.int .i64 a1,.int .i64 g1,.bool p1,.bool c1,.bool d1,.int .i64 m2,.int .i64 a2,.int .i64 g2,.bool p2,.bool c2,.bool d2,.int .i64 st,.int .i64 tr,.int .i64 du,.int .i64 id,.int .i64 fl,.slice x1 n1 y1,.slice x2 n2 y2,.bool up,.int .i64 i1,.int .i64 i2,.bool i3,.bool i4,.bool i5,.int .i64 o1,.int .i64 o2,.bool o3,.bool o4,.bool o5] [.int .i64 m1,.int .i64 a1,.int .i64 g1,.bool p1,.bool c1,.bool d1,.int .i64 0,.int .i64 0,.int .i64 0,.bool false,.bool false,.bool false,.int .i64 0,.int .i64 0,.int .i64 0,.int .i64 0,.int .i64 0,.slice none 0 0,.slice none 0 0,.bool false,.int .i64 0,.int .i64 0,.bool false,.bool false,.bool false,.int .i64 0,.int .i64 0,.bool false,.bool false,.bool false] w2:=(((((((uh HI1).set 0 (.int .i64 m1)).set 1 (.int .i64 a1)).set 2 (.int .i64 g1)).set 3 (.bool p1)).set 4 (.bool c1)).set 5 (.bool d1)).step hb2;have c12:w2.cell? ⟨w.heap.size,12,none⟩=some (.int .i64 st):=by rw [cr hI2.a];rfl
 have c13:w2.cell? ⟨w.heap.size,13,none⟩=some (.int .i64 tr):=by rw [cr hI2.a];rfl
 have c14:w2.cell? ⟨w.heap.size,14,none⟩=some (.int .i64 du):=by rw [cr hI2.a];rfl
 have c15:w2.cell? ⟨w.heap.size,15,none⟩=some (.int .i64 id):=by rw [cr hI2.a];rfl
 have c16:w2.cell? ⟨w.heap.size,16,none⟩=some (.int .i64 fl):=by rw [cr hI2.a];rfl
 have c17:w2.cell? ⟨w.heap.size,17,none⟩=some (.slice x1 n1 y1):=by rw [cr hI2.a];rfl
 have e6:w2.cell? ⟨w.heap.size+1+1,6,none⟩=some (.int .i64 0):=by rw [cr hI2.o];rfl
 have f6:w2.frozen? ⟨w.heap.size+1+1,6,none⟩=false:=frz hI2.o 6;have e7:w2.cell? ⟨w.heap.size+1+1,7,none⟩=some (.int .i64 0):=by rw [cr hI2.o];rfl
 have f7:w2.frozen? ⟨w.heap.size+1+1,7,none⟩=false:=frz hI2.o 7;have e8:w2.cell? ⟨w.heap.size+1+1,8,none⟩=some (.int .i64 0):=by rw [cr hI2.o];rfl
 have f8:w2.frozen? ⟨w.heap.size+1+1,8,none⟩=false:=frz hI2.o 8;have e9:w2.cell? ⟨w.heap.size+1+1,9,none⟩=some (.bool false):=by rw [cr hI2.o];rfl
 have f9:w2.frozen? ⟨w.heap.size+1+1,9,none⟩=false:=frz hI2.o 9;have e10:w2.cell? ⟨w.heap.size+1+1,10,none⟩=some (.bool false):=by rw [cr hI2.o];rfl
 have f10:w2.frozen? ⟨w.heap.size+1+1,10,none⟩=false:=frz hI2.o 10;have e11:w2.cell? ⟨w.heap.size+1+1,11,none⟩=some (.bool false):=by rw [cr hI2.o];rfl
 have f11:w2.frozen? ⟨w.heap.size+1+1,11,none⟩=false:=frz hI2.o 11;have e12:w2.cell? ⟨w.heap.size+1+1,12,none⟩=some (.int .i64 0):=by rw [cr hI2.o];rfl
 have f12:w2.frozen? ⟨w.heap.size+1+1,12,none⟩=false:=frz hI2.o 12;have e13:w2.cell? ⟨w.heap.size+1+1,13,none⟩=some (.int .i64 0):=by rw [cr hI2.o];rfl
 have f13:w2.frozen? ⟨w.heap.size+1+1,13,none⟩=false:=frz hI2.o 13;have e14:w2.cell? ⟨w.heap.size+1+1,14,none⟩=some (.int .i64 0):=by rw [cr hI2.o];rfl
 have f14:w2.frozen? ⟨w.heap.size+1+1,14,none⟩=false:=frz hI2.o 14;have e15:w2.cell? ⟨w.heap.size+1+1,15,none⟩=some (.int .i64 0):=by rw [cr hI2.o];rfl
 have f15:w2.frozen? ⟨w.heap.size+1+1,15,none⟩=false:=frz hI2.o 15;have e16:w2.cell? ⟨w.heap.size+1+1,16,none⟩=some (.int .i64 0):=by rw [cr hI2.o];rfl
 have f16:w2.frozen? ⟨w.heap.size+1+1,16,none⟩=false:=frz hI2.o 16;have HI2:=hide hI2;clear hI2 hb2 HI1;go_wp2_with fail
 refine (uh C1 _ ((((((((((((uh HI2).set 6 (.int .i64 m2)).set 7 (.int .i64 a2)).set 8 (.int .i64 g2)).set 9 (.bool p2)).set 10 (.bool c2)).set 11 (.bool d2)).set 12 (.int .i64 st)).set 13 (.int .i64 tr)).set 14 (.int .i64 du)).set 15 (.int .i64 id)).set 16 (.int .i64 fl)).l).mono ?_;clear c12 c13 c14 c15 c16 c17 e6 f6 e7 f7 e8 f8 e9 f9 e10 f10 e11 f11 e12 f12 e13 f13 e14 f14 e15 f15 e16 f16;rintro r w3 ⟨u,rfl,ho3,hq3,hb3⟩;have hform:=ho3.form;rw [hn1] at hform;obtain ⟨u1,z1,rfl⟩:=hform;have hI3:ToE w #[.int .i64 m1,.int .i64 a1,.int .i64 g1,.bool p1,.bool c1,.bool d1,.int .i64 m2,.int .i64 a2,.int .i64 g2,.bool p2,.bool c2,.bool d2,.int .i64 st,.int .i64 tr,.int .i64 du,.int .i64 id,.int .i64 fl,.slice x1 n1 y1,.slice x2 n2 y2,.bool up,.int .i64 i1,.int .i64 i2,.bool i3,.bool i4,.bool i5,.int .i64 o1,.int .i64 o2,.bool o3,.bool o4,.bool o5] [.int .i64 m1,.int .i64 a1,.int .i64 g1,.bool p1,.bool c1,.bool d1,.int .i64 m2,.int .i64 a2,.int .i64 g2,.bool p2,.bool c2,.bool d2,.int .i64 st,.int .i64 tr,.int .i64 du,.int .i64 id,.int .i64 fl,.slice none 0 0,.slice none 0 0,.bool false,.int .i64 0,.int .i64 0,.bool false,.bool false,.bool false,.int .i64 0,.int .i64 0,.bool false,.bool false,.bool false] w3:=((((((((((((uh HI2).set 6 (.int .i64 m2)).set 7 (.int .i64 a2)).set 8 (.int .i64 g2)).set 9 (.bool p2)).set 10 (.bool c2)).set 11 (.bool d2)).set 12 (.int .i64 st)).set 13 (.int .i64 tr)).set 14 (.int .i64 du)).set 15 (.int .i64 id)).set 16 (.int .i64 fl)).step hb3;have c18:w3.cell? ⟨w.heap.size,18,none⟩=some (.slice x2 n2 y2):=by rw [cr hI3.a];rfl
 have e17:w3.cell? ⟨w.heap.size+1+1,17,none⟩=some (.slice none 0 0):=by rw [cr hI3.o];rfl
 have f17:w3.frozen? ⟨w.heap.size+1+1,17,none⟩=false:=frz hI3.o 17;have HO3:=hide (And.intro ho3 hq3);have HS3:Hid (w.heap.size+1+1<w2.heap.size):=hide (ge.1 (uh HI2).o).1;have HZ3:Hid (w2.heap.size≤w3.heap.size):=by
  have hz:=hb3.size;simp only [World.size_setCell] at hz;exact hide hz
 have HI3:=hide hI3;clear hI3 hb3 HI2 ho3 hq3;go_wp2_with fail
 refine (uh C2 _ ((uh HI3).set 17 (.slice u1 n1 z1)).l).mono ?_;clear c18 e17 f17;rintro r w4 ⟨u,rfl,ho4,hq4,hb4⟩;have hform:=ho4.form;rw [hn2] at hform;obtain ⟨u2,z2,rfl⟩:=hform;have hI4:ToE w #[.int .i64 m1,.int .i64 a1,.int .i64 g1,.bool p1,.bool c1,.bool d1,.int .i64 m2,.int .i64 a2,.int .i64 g2,.bool p2,.bool c2,.bool d2,.int .i64 st,.int .i64 tr,.int .i64 du,.int .i64 id,.int .i64 fl,.slice x1 n1 y1,.slice x2 n2 y2,.bool up,.int .i64 i1,.int .i64 i2,.bool i3,.bool i4,.bool i5,.int .i64 o1,.int .i64 o2,.bool o3,.bool o4,.bool o5] [.int .i64 m1,.int .i64 a1,.int .i64 g1,.bool p1,.bool c1,.bool d1,.int .i64 m2,.int .i64 a2,.int .i64 g2,.bool p2,.bool c2,.bool d2,.int .i64 st,.int .i64 tr,.int .i64 du,.int .i64 id,.int .i64 fl,.slice u1 n1 z1,.slice none 0 0,.bool false,.int .i64 0,.int .i64 0,.bool false,.bool false,.bool false,.int .i64 0,.int .i64 0,.bool false,.bool false,.bool false] w4:=((uh HI3).set 17 (.slice u1 n1 z1)).step hb4;have c19:w4.cell? ⟨w.heap.size,19,none⟩=some (.bool up):=by rw [cr hI4.a];rfl
 have c20:w4.cell? ⟨w.heap.size,20,none⟩=some (.int .i64 i1):=by rw [cr hI4.a];rfl
 have c21:w4.cell? ⟨w.heap.size,21,none⟩=some (.int .i64 i2):=by rw [cr hI4.a];rfl
 have c22:w4.cell? ⟨w.heap.size,22,none⟩=some (.bool i3):=by rw [cr hI4.a];rfl
 have c23:w4.cell? ⟨w.heap.size,23,none⟩=some (.bool i4):=by rw [cr hI4.a];rfl
 have c24:w4.cell? ⟨w.heap.size,24,none⟩=some (.bool i5):=by rw [cr hI4.a];rfl
 have e18:w4.cell? ⟨w.heap.size+1+1,18,none⟩=some (.slice none 0 0):=by rw [cr hI4.o];rfl
 have f18:w4.frozen? ⟨w.heap.size+1+1,18,none⟩=false:=frz hI4.o 18;have e19:w4.cell? ⟨w.heap.size+1+1,19,none⟩=some (.bool false):=by rw [cr hI4.o];rfl
 have f19:w4.frozen? ⟨w.heap.size+1+1,19,none⟩=false:=frz hI4.o 19;have hlO:w.heap.size+1+1<w2.heap.size:=by
  have:=uh HS3
  omega
 have HO4:Hid (HH (.slice u1 n1 z1) (.slice u2 n2 z2) F1 F2 (w.heap.size+1+1) (w.heap.size+1) w4∧(∀ q,(Value.slice u1 n1 z1).ownBlock=some q→w.heap.size≤q)∧∀ q,(Value.slice u2 n2 z2).ownBlock=some q→w.heap.size≤q∧(F1=[]∨(Value.slice u1 n1 z1).ownBlock≠some q)):=by
  have hs3:=(uh HI3).l.size;have hw3:w2.heap.size≤w3.heap.size:=uh HZ3;obtain ⟨ho3,hq3⟩:=uh HO3;simp only [World.size_setCell] at hq3 hq4;have g1:∀ g,(Value.slice u1 n1 z1).ownBlock=some g→g≠w.heap.size+1+1∧g≠w.heap.size+1:=fun g hg=>by have:=hq3 g hg;omega
  have g2:∀ g,(Value.slice u2 n2 z2).ownBlock=some g→g≠w.heap.size+1+1∧g≠w.heap.size+1:=fun g hg=>by have:=hq4 g hg;omega
  refine hide ⟨⟨(ho3.other fun g hg=>Below.heap_setCell _ _ _ _ (g1 g hg).1).below hb4 rfl,ho4,g1,g2⟩,fun g hg=>by have:=hq3 g hg;omega,fun g hg=>⟨by have:=hq4 g hg;omega,?_⟩⟩;by_cases hF:F1=[]
  ·exact Or.inl hF
  ·refine Or.inr fun e=>?_
   have a1:=ho3.lt hF g e;have a2:=hq4 g hg;omega
 have HI4:=hide hI4;clear hI4 hb4 HI3 ho4 hq4 HO3 HS3 HZ3 hlO;go_wp2_with fail
 refine (toLn i1 i2 i3 i4 i5 _).mono ?_;clear c19 c20 c21 c22 c23 c24 e18 f18 e19 f19;rintro r w5 ⟨rfl,hb5⟩;have hI5:ToE w #[.int .i64 m1,.int .i64 a1,.int .i64 g1,.bool p1,.bool c1,.bool d1,.int .i64 m2,.int .i64 a2,.int .i64 g2,.bool p2,.bool c2,.bool d2,.int .i64 st,.int .i64 tr,.int .i64 du,.int .i64 id,.int .i64 fl,.slice x1 n1 y1,.slice x2 n2 y2,.bool up,.int .i64 i1,.int .i64 i2,.bool i3,.bool i4,.bool i5,.int .i64 o1,.int .i64 o2,.bool o3,.bool o4,.bool o5] [.int .i64 m1,.int .i64 a1,.int .i64 g1,.bool p1,.bool c1,.bool d1,.int .i64 m2,.int .i64 a2,.int .i64 g2,.bool p2,.bool c2,.bool d2,.int .i64 st,.int .i64 tr,.int .i64 du,.int .i64 id,.int .i64 fl,.slice u1 n1 z1,.slice u2 n2 z2,.bool up,.int .i64 0,.int .i64 0,.bool false,.bool false,.bool false,.int .i64 0,.int .i64 0,.bool false,.bool false,.bool false] w5:=(((uh HI4).set 18 (.slice u2 n2 z2)).set 19 (.bool up)).step hb5;have c25:w5.cell? ⟨w.heap.size,25,none⟩=some (.int .i64 o1):=by rw [cr hI5.a];rfl
 have c26:w5.cell? ⟨w.heap.size,26,none⟩=some (.int .i64 o2):=by rw [cr hI5.a];rfl
 have c27:w5.cell? ⟨w.heap.size,27,none⟩=some (.bool o3):=by rw [cr hI5.a];rfl
 have c28:w5.cell? ⟨w.heap.size,28,none⟩=some (.bool o4):=by rw [cr hI5.a];rfl
 have c29:w5.cell? ⟨w.heap.size,29,none⟩=some (.bool o5):=by rw [cr hI5.a];rfl
 have e20:w5.cell? ⟨w.heap.size+1+1,20,none⟩=some (.int .i64 0):=by rw [cr hI5.o];rfl
 have f20:w5.frozen? ⟨w.heap.size+1+1,20,none⟩=false:=frz hI5.o 20;have e21:w5.cell? ⟨w.heap.size+1+1,21,none⟩=some (.int .i64 0):=by rw [cr hI5.o];rfl
 have f21:w5.frozen? ⟨w.heap.size+1+1,21,none⟩=false:=frz hI5.o 21;have e22:w5.cell? ⟨w.heap.size+1+1,22,none⟩=some (.bool false):=by rw [cr hI5.o];rfl
 have f22:w5.frozen? ⟨w.heap.size+1+1,22,none⟩=false:=frz hI5.o 22;have e23:w5.cell? ⟨w.heap.size+1+1,23,none⟩=some (.bool false):=by rw [cr hI5.o];rfl
 have f23:w5.frozen? ⟨w.heap.size+1+1,23,none⟩=false:=frz hI5.o 23;have e24:w5.cell? ⟨w.heap.size+1+1,24,none⟩=some (.bool false):=by rw [cr hI5.o];rfl
 have f24:w5.frozen? ⟨w.heap.size+1+1,24,none⟩=false:=frz hI5.o 24;have HO5:=hide ((((uh HO4).1.set 18 (.slice u2 n2 z2)).set 19 (.bool up)).step hb5);have HO5b:=hide (uh HO4).2;clear HO4;have HI5:=hide hI5;clear hI5 hb5 HI4;go_wp2_with fail
 refine (toLn o1 o2 o3 o4 o5 _).mono ?_;clear c25 c26 c27 c28 c29 e20 f20 e21 f21 e22 f22 e23 f23 e24 f24;rintro r w6 ⟨rfl,hb6⟩;have hI6:ToE w #[.int .i64 m1,.int .i64 a1,.int .i64 g1,.bool p1,.bool c1,.bool d1,.int .i64 m2,.int .i64 a2,.int .i64 g2,.bool p2,.bool c2,.bool d2,.int .i64 st,.int .i64 tr,.int .i64 du,.int .i64 id,.int .i64 fl,.slice x1 n1 y1,.slice x2 n2 y2,.bool up,.int .i64 i1,.int .i64 i2,.bool i3,.bool i4,.bool i5,.int .i64 o1,.int .i64 o2,.bool o3,.bool o4,.bool o5] [.int .i64 m1,.int .i64 a1,.int .i64 g1,.bool p1,.bool c1,.bool d1,.int .i64 m2,.int .i64 a2,.int .i64 g2,.bool p2,.bool c2,.bool d2,.int .i64 st,.int .i64 tr,.int .i64 du,.int .i64 id,.int .i64 fl,.slice u1 n1 z1,.slice u2 n2 z2,.bool up,.int .i64 i1,.int .i64 i2,.bool i3,.bool i4,.bool i5,.int .i64 0,.int .i64 0,.bool false,.bool false,.bool false] w6:=((((((uh HI5).set 20 (.int .i64 i1)).set 21 (.int .i64 i2)).set 22 (.bool i3)).set 23 (.bool i4)).set 24 (.bool i5)).step hb6;have e25:w6.cell? ⟨w.heap.size+1+1,25,none⟩=some (.int .i64 0):=by rw [cr hI6.o];rfl
 have f25:w6.frozen? ⟨w.heap.size+1+1,25,none⟩=false:=frz hI6.o 25;have e26:w6.cell? ⟨w.heap.size+1+1,26,none⟩=some (.int .i64 0):=by rw [cr hI6.o];rfl
 have f26:w6.frozen? ⟨w.heap.size+1+1,26,none⟩=false:=frz hI6.o 26;have e27:w6.cell? ⟨w.heap.size+1+1,27,none⟩=some (.bool false):=by rw [cr hI6.o];rfl
 have f27:w6.frozen? ⟨w.heap.size+1+1,27,none⟩=false:=frz hI6.o 27;have e28:w6.cell? ⟨w.heap.size+1+1,28,none⟩=some (.bool false):=by rw [cr hI6.o];rfl
 have f28:w6.frozen? ⟨w.heap.size+1+1,28,none⟩=false:=frz hI6.o 28;have e29:w6.cell? ⟨w.heap.size+1+1,29,none⟩=some (.bool false):=by rw [cr hI6.o];rfl
 have f29:w6.frozen? ⟨w.heap.size+1+1,29,none⟩=false:=frz hI6.o 29;have HO6:=hide (((((((uh HO5).set 20 (.int .i64 i1)).set 21 (.int .i64 i2)).set 22 (.bool i3)).set 23 (.bool i4)).set 24 (.bool i5)).step hb6);clear HO5;have HI6:=hide hI6;clear hI6 hb6 HI5;go_upto_region 14 with fail
 refine gen_world (fun q=>ToE w #[.int .i64 m1,.int .i64 a1,.int .i64 g1,.bool p1,.bool c1,.bool d1,.int .i64 m2,.int .i64 a2,.int .i64 g2,.bool p2,.bool c2,.bool d2,.int .i64 st,.int .i64 tr,.int .i64 du,.int .i64 id,.int .i64 fl,.slice x1 n1 y1,.slice x2 n2 y2,.bool up,.int .i64 i1,.int .i64 i2,.bool i3,.bool i4,.bool i5,.int .i64 o1,.int .i64 o2,.bool o3,.bool o4,.bool o5] [.int .i64 m1,.int .i64 a1,.int .i64 g1,.bool p1,.bool c1,.bool d1,.int .i64 m2,.int .i64 a2,.int .i64 g2,.bool p2,.bool c2,.bool d2,.int .i64 st,.int .i64 tr,.int .i64 du,.int .i64 id,.int .i64 fl,.slice u1 n1 z1,.slice u2 n2 z2,.bool up,.int .i64 i1,.int .i64 i2,.bool i3,.bool i4,.bool i5,.int .i64 o1,.int .i64 o2,.bool o3,.bool o4,.bool o5] q∧HH (.slice u1 n1 z1) (.slice u2 n2 z2) F1 F2 (w.heap.size+1+1) (w.heap.size+1) q) ⟨((((((uh HI6).set 25 (.int .i64 o1)).set 26 (.int .i64 o2)).set 27 (.bool o3)).set 28 (.bool o4)).set 29 (.bool o5)),((((((uh HO6).set 25 (.int .i64 o1)).set 26 (.int .i64 o2)).set 27 (.bool o3)).set 28 (.bool o4)).set 29 (.bool o5))⟩ ?_;clear HO6 HI6 e25 f25 e26 f26 e27 f27 e28 f28 e29 f29;rintro q ⟨hq,hh⟩;have HQ:=hide hq;clear hq;have HHQ:=hide hh;clear hh;apply wp_region_lit
 refine wpList_load_row rfl 29 (.tmp 3) rfl (w.heap.size+1+1) rfl 29 #[.int .i64 m1,.int .i64 a1,.int .i64 g1,.bool p1,.bool c1,.bool d1,.int .i64 m2,.int .i64 a2,.int .i64 g2,.bool p2,.bool c2,.bool d2,.int .i64 st,.int .i64 tr,.int .i64 du,.int .i64 id,.int .i64 fl,.slice u1 n1 z1,.slice u2 n2 z2,.bool up,.int .i64 i1,.int .i64 i2,.bool i3,.bool i4,.bool i5,.int .i64 o1,.int .i64 o2,.bool o3,.bool o4,.bool o5] (0,0) _ (uh HQ).o underlying29 rfl infoE ?_;refine wpList_store_rowTo rfl 29 (.tmp 2) (.tmp 46) rfl rfl (w.heap.size+1) #[.int .i64 m1,.int .i64 a1,.int .i64 g1,.bool p1,.bool c1,.bool d1,.int .i64 m2,.int .i64 a2,.int .i64 g2,.bool p2,.bool c2,.bool d2,.int .i64 st,.int .i64 tr,.int .i64 du,.int .i64 id,.int .i64 fl,.slice u1 n1 z1,.slice u2 n2 z2,.bool up,.int .i64 i1,.int .i64 i2,.bool i3,.bool i4,.bool i5,.int .i64 o1,.int .i64 o2,.bool o3,.bool o4,.bool o5] rfl rfl 29 _ (uh HQ).r infoE rfl (by kernel_rfl) ?_;apply wpList_nil
 simp only [Act.put,List.setIfInBounds_toArray,List.set_cons_zero,List.set_cons_succ];go_wp2
 refine bodyPost_ret (v:=.agg #[.int .i64 m1,.int .i64 a1,.int .i64 g1,.bool p1,.bool c1,.bool d1,.int .i64 m2,.int .i64 a2,.int .i64 g2,.bool p2,.bool c2,.bool d2,.int .i64 st,.int .i64 tr,.int .i64 du,.int .i64 id,.int .i64 fl,.slice u1 n1 z1,.slice u2 n2 z2,.bool up,.int .i64 i1,.int .i64 i2,.bool i3,.bool i4,.bool i5,.int .i64 o1,.int .i64 o2,.bool o3,.bool o4,.bool o5]) (by simp [results,results17,asAddr,loadEn (setRow_heap q (w.heap.size+1) _ #[.int .i64 m1,.int .i64 a1,.int .i64 g1,.bool p1,.bool c1,.bool d1,.int .i64 m2,.int .i64 a2,.int .i64 g2,.bool p2,.bool c2,.bool d2,.int .i64 st,.int .i64 tr,.int .i64 du,.int .i64 id,.int .i64 fl,.slice u1 n1 z1,.slice u2 n2 z2,.bool up,.int .i64 i1,.int .i64 i2,.bool i3,.bool i4,.bool i5,.int .i64 o1,.int .i64 o2,.bool o3,.bool o4,.bool o5] _ _ (uh HQ).r)]) rfl ⟨u1,z1,u2,z2,rfl,?_,?_,?_,?_,below_row (uh HQ).l (by omega) _⟩
 ·exact ((uh HHQ).row _).h1
 ·exact ((uh HHQ).row _).h2
 ·exact (uh HO5b).1
 ·exact (uh HO5b).2
abbrev eoC (e:En) (v1 v2 v3 v4:Value) (cd:Int):Array Value:=#[.int .i64 e.m1,.int .i64 e.a1,.int .i64 e.g1,.bool e.p1,.bool e.c1,.bool e.d1,.int .i64 e.m2,.int .i64 e.a2,.int .i64 e.g2,.bool e.p2,.bool e.c2,.bool e.d2,.int .i64 e.st,.int .i64 e.tr,.int .i64 e.du,.int .i64 e.id,.int .i64 e.fl,v1,v2,.bool e.up,.int .i64 e.i1,.int .i64 e.i2,.bool e.i3,.bool e.i4,.bool e.i5,.int .i64 e.o1,.int .i64 e.o2,.bool e.o3,.bool e.o4,.bool e.o5,v3,v4,.int .i64 cd]
structure EqO (w:World) (cs ds:Array Value) (q:World):Prop where
 a:q.heap[w.heap.size]?=some (.cells cs 42)
 b:q.heap[w.heap.size+1]?=some (.cells ds 42)
 l:Below w.heap.size w q
theorem EqO.step {w:World} {cs ds:Array Value} {q q':World} (h:EqO w cs ds q) (hb:Below q.heap.size q q'):EqO w cs ds q' :=
 ⟨(hb.block _ (ge.1 h.a).1).trans h.a,(hb.block _ (ge.1 h.b).1).trans h.b,h.l.trans (hb.mono h.l.size)⟩
theorem range30 {W:World} {E:Nat} {z0 z1 z2 z3 z4 z5 z6 z7 z8 z9 z10 z11 z12 z13 z14 z15 z16 z17 z18 z19 z20 z21 z22 z23 z24 z25 z26 z27 z28 z29 z30 z31 z32:Value} {T:TypeId} (h:W.heap[E]?=some (.cells #[z0,z1,z2,z3,z4,z5,z6,z7,z8,z9,z10,z11,z12,z13,z14,z15,z16,z17,z18,z19,z20,z21,z22,z23,z24,z25,z26,z27,z28,z29,z30,z31,z32] T)):W.rangeAt E 0 [z0,z1,z2,z3,z4,z5,z6,z7,z8,z9,z10,z11,z12,z13,z14,z15,z16,z17,z18,z19,z20,z21,z22,z23,z24,z25,z26,z27,z28,z29]:=by
 intro j u hu;rw [cr h,Nat.zero_add];have hj:=(List.getElem?_eq_some_iff.1 hu).1;show (([z0,z1,z2,z3,z4,z5,z6,z7,z8,z9,z10,z11,z12,z13,z14,z15,z16,z17,z18,z19,z20,z21,z22,z23,z24,z25,z26,z27,z28,z29] ++ [z30,z31,z32]).toArray)[j]?=some u
 rw [List.getElem?_toArray,List.getElem?_append_left hj];exact hu
end Go.Proofs.YtahpjlbaagkdoaaGreatDoor
namespace Go.Proofs.YtahpjlbaagkdoaaGreatDoor
open Go.RowKit Go.Proofs.Tryz
structure St where
 e:En
 F1:List Op.Opt
 F2:List Op.Opt
 sn:List Op.Pk
 tl:List ByteArray
structure Cx where
 now:Int
 cc:Int
 ci:Int
 cd:ByteArray
 hd:List Op.Opt
 ac:Int
 ao:List Op.Opt
 vh:Value
 va:Value
abbrev wkC (c:Cx) (e:En) (v1 v2 vs vt:Value):List Value:=[.int .i64 e.m1,.int .i64 e.a1,.int .i64 e.g1,.bool e.p1,.bool e.c1,.bool e.d1,.int .i64 e.m2,.int .i64 e.a2,.int .i64 e.g2,.bool e.p2,.bool e.c2,.bool e.d2,.int .i64 e.st,.int .i64 e.tr,.int .i64 e.du,.int .i64 e.id,.int .i64 e.fl,v1,v2,.bool e.up,.int .i64 e.i1,.int .i64 e.i2,.bool e.i3,.bool e.i4,.bool e.i5,.int .i64 e.o1,.int .i64 e.o2,.bool e.o3,.bool e.o4,.bool e.o5,.int .i64 c.now,.int .i64 c.cc,.int .i64 c.ci,.string c.cd,c.vh,.int .i64 c.ac,c.va,vs,vt]
def Ap (v v':Value):Prop:=∀ g,v.ownBlock=some g→v'.ownBlock≠some g
theorem Ap.symm {v v':Value} (h:Ap v v'):Ap v' v:=fun g hg e=>h g e hg
theorem Ap.none (v:Value) (n m:Nat):Ap (.slice none n m) v:=fun g hg=>by cases hg
def Tt (T:TypeId):Prop:=T≠116∧T≠35∧T≠9
structure Lay (T:TypeId) (w0 w1:World) (B:Nat) (c:Cx) (s:St) (v1 v2 vs vt:Value) (q:World):Prop where
 row:q.heap[B]?=some (.cells (wkC c s.e v1 v2 vs vt).toArray T)
 o1:q.ownsRow w0.heap.size 116 2 v1 s.F1.length (ocells s.F1)
 o2:q.ownsRow w0.heap.size 116 2 v2 s.F2.length (ocells s.F2)
 os:q.ownsRow w1.heap.size 35 3 vs s.sn.length (pkcells s.sn)
 ot:q.ownsRow w1.heap.size 9 1 vt s.tl.length (scells s.tl)
 oh:q.ownsRow w0.heap.size 116 2 c.vh c.hd.length (ocells c.hd)
 ha:HoldsO q c.va c.ao
 hB:w0.heap.size≤B
 tt:Tt T
 ap:Ap v1 v2
 aph:Ap v1 c.vh
 lo:Below w0.heap.size w0 w1
 nr:Nr B w1 q
theorem own_ty {w:World} {base:Nat} {e T:TypeId} {size:Nat} {v:Value} {n:Nat} {xs:List Value} (h:w.ownsRow base e size v n xs) {B:Nat} {cs:Array Value} (hB:w.heap[B]?=some (.cells cs T)) (hT:T≠e):v.ownBlock≠some B:=by
 rcases h.2 with ⟨hv,_⟩ | ⟨g,cap,cur,hv,_,hg,_⟩
 ·rw [hv];simp [Value.ownBlock]
 ·rw [hv];intro e1;have e2:g=B:=by simpa [Value.ownBlock] using e1
  subst e2;rw [hB] at hg;injection hg with hg;injection hg with _ h2 _;exact hT h2
theorem own_ap {w:World} {b1 b2:Nat} {e1 e2:TypeId} {s1 s2:Nat} {v1 v2:Value} {n1 n2:Nat} {x1 x2:List Value} (h1:w.ownsRow b1 e1 s1 v1 n1 x1) (h2:w.ownsRow b2 e2 s2 v2 n2 x2) (hT:e1≠e2):Ap v1 v2:=by
 intro g hg;rcases h1.2 with ⟨hv,_⟩ | ⟨g',cap,cur,hv,_,hgg,_⟩
 ·rw [hv] at hg;simp [Value.ownBlock] at hg
 ·rw [hv] at hg;have e:g'=g:=by simpa [Value.ownBlock] using hg
  subst e;exact own_ty h2 hgg hT
theorem own_other {w w':World} {base:Nat} {e:TypeId} {size:Nat} {v:Value} {n:Nat} {xs:List Value} (h:w.ownsRow base e size v n xs) (hk:∀ g,v.ownBlock=some g→w'.heap[g]?=w.heap[g]?):w'.ownsRow base e size v n xs:=by
 refine ⟨h.1,h.2.imp id ?_⟩;rintro ⟨g,cap,cur,hv,hb,hg,rest⟩;exact ⟨g,cap,cur,hv,hb,(hk g (by rw [hv];rfl)).trans hg,rest⟩
theorem own_below {w w':World} {base:Nat} {e:TypeId} {size:Nat} {v:Value} {n:Nat} {xs:List Value} (h:w.ownsRow base e size v n xs) (hb:Below w.heap.size w w'):w'.ownsRow base e size v n xs :=
 own_other h fun g hg=>hb.block g (h.lt g hg).2
theorem own_mono {w:World} {base base':Nat} {e:TypeId} {size:Nat} {v:Value} {n:Nat} {xs:List Value} (h:w.ownsRow base e size v n xs) (hb:base'≤base):w.ownsRow base' e size v n xs :=
 ⟨h.1,h.2.imp id fun ⟨g,cap,cur,h1,h2,h3⟩=>⟨g,cap,cur,h1,Nat.le_trans hb h2,h3⟩⟩
theorem hold_ty {w:World} {v:Value} {F:List Op.Opt} (h:HoldsO w v F) {B:Nat} {w':World} {T:TypeId} {cs:Array Value} (hB:w.heap[B]?=some (.cells cs T)) (hT:T≠116) (hk:∀ k,k<w.heap.size→k≠B→w'.heap[k]?=w.heap[k]?):HoldsO w' v F:=by
 rcases h with ⟨ad,cp,e,e0⟩ | ⟨g,cp,cur,e,q1,q2⟩
 ·exact Or.inl ⟨ad,cp,e,e0⟩
 ·refine Or.inr ⟨g,cp,cur,e,(hk g (ge.1 q1).1 fun e2=>?_).trans q1,q2⟩;subst e2;rw [hB] at q1;injection q1 with q1;injection q1 with _ h2 _;exact hT h2
section
variable {T:TypeId} {w0 w1:World} {B:Nat} {c:Cx} {s:St} {v1 v2 vs vt:Value} {q q':World}
theorem Lay.lt (h:Lay T w0 w1 B c s v1 v2 vs vt q):B<q.heap.size:=(ge.1 h.row).1
theorem Lay.hh (h:Lay T w0 w1 B c s v1 v2 vs vt q):HoldsO q c.vh c.hd:=HoldsO.own h.oh
theorem Lay.cell (h:Lay T w0 w1 B c s v1 v2 vs vt q) {i:Nat} {v:Value} (hi:(wkC c s.e v1 v2 vs vt)[i]?=some v):q.cell? ⟨B,i,none⟩=some v:=by
 rw [cr h.row,List.getElem?_toArray];exact hi
theorem Lay.frz (h:Lay T w0 w1 B c s v1 v2 vs vt q) (i:Nat):q.frozen? ⟨B,i,none⟩=false:=Go.Proofs.YtahpjlbaagkdoaaGreatDoor.frz h.row i
theorem Lay.low (h:Lay T w0 w1 B c s v1 v2 vs vt q):Below w0.heap.size w0 q :=
 ⟨h.nr.os.trans h.lo.os,h.nr.tape.trans h.lo.tape,h.nr.output.trans h.lo.output,Nat.le_trans h.lo.size h.nr.size,fun b hb=>(h.nr.block b (Nat.lt_of_lt_of_le hb h.lo.size) fun e=>by have:=h.hB;omega).trans (h.lo.block b hb)⟩
theorem Lay.step (h:Lay T w0 w1 B c s v1 v2 vs vt q) (hb:Below q.heap.size q q'):Lay T w0 w1 B c s v1 v2 vs vt q' :=
 ⟨(hb.block _ h.lt).trans h.row,own_below h.o1 hb,own_below h.o2 hb,own_below h.os hb,own_below h.ot hb,own_below h.oh hb,h.ha.below hb rfl,h.hB,h.tt,h.ap,h.aph,h.lo,h.nr.of_below hb⟩
theorem Lay.setRaw (h:Lay T w0 w1 B c s v1 v2 vs vt q) (i:Nat) (v:Value) (e':En) (he:(wkC c s.e v1 v2 vs vt).set i v=wkC c e' v1 v2 vs vt):Lay T w0 w1 B c { s with e:=e' } v1 v2 vs vt (q.setCell ⟨B,i,none⟩ v):=by
 have hr:=heap_setCell_same q B i _ _ v h.row;rw [List.setIfInBounds_toArray,he] at hr;have hk:∀ k,k≠B→(q.setCell ⟨B,i,none⟩ v).heap[k]?=q.heap[k]?:=fun k hk=>heap_setCell_other q _ _ _ hk
 refine ⟨hr,own_other h.o1 fun g hg=>hk g fun e=>own_ty h.o1 h.row h.tt.1 (e ▸ hg),own_other h.o2 fun g hg=>hk g fun e=>own_ty h.o2 h.row h.tt.1 (e ▸ hg),own_other h.os fun g hg=>hk g fun e=>own_ty h.os h.row h.tt.2.1 (e ▸ hg),own_other h.ot fun g hg=>hk g fun e=>own_ty h.ot h.row h.tt.2.2 (e ▸ hg),own_other h.oh fun g hg=>hk g fun e=>own_ty h.oh h.row h.tt.1 (e ▸ hg),hold_ty h.ha h.row h.tt.1 fun k _=>hk k,h.hB,h.tt,h.ap,h.aph,h.lo,h.nr.setCell i v⟩
theorem Lay.ofNr (h:Lay T w0 w1 B c s v1 v2 vs vt q) {e':En} (hr:q'.heap[B]?=some (.cells (wkC c e' v1 v2 vs vt).toArray T)) (hn:Nr B q q'):Lay T w0 w1 B c { s with e:=e' } v1 v2 vs vt q':=by
 have hk:∀ k,k<q.heap.size→k≠B→q'.heap[k]?=q.heap[k]?:=hn.block;refine ⟨hr,own_other h.o1 fun g hg=>hk g (h.o1.lt g hg).2 fun e=>own_ty h.o1 h.row h.tt.1 (e ▸ hg),own_other h.o2 fun g hg=>hk g (h.o2.lt g hg).2 fun e=>own_ty h.o2 h.row h.tt.1 (e ▸ hg),own_other h.os fun g hg=>hk g (h.os.lt g hg).2 fun e=>own_ty h.os h.row h.tt.2.1 (e ▸ hg),own_other h.ot fun g hg=>hk g (h.ot.lt g hg).2 fun e=>own_ty h.ot h.row h.tt.2.2 (e ▸ hg),own_other h.oh fun g hg=>hk g (h.oh.lt g hg).2 fun e=>own_ty h.oh h.row h.tt.1 (e ▸ hg),hold_ty h.ha h.row h.tt.1 hk,h.hB,h.tt,h.ap,h.aph,h.lo,h.nr.trans hn⟩
theorem Lay.new1 (h:Lay T w0 w1 B c s v1 v2 vs vt q) (hb:Below q.heap.size q q') (v:Value) (F:List Op.Opt) (ho:q'.ownsRow q.heap.size 116 2 v F.length (ocells F)):Lay T w0 w1 B c { s with F1:=F } v v2 vs vt (q'.setCell ⟨B,17,none⟩ v):=by
 have h':=h.step hb;have hr:=heap_setCell_same q' B 17 _ _ v h'.row;rw [List.setIfInBounds_toArray] at hr;have hk:∀ k,k≠B→(q'.setCell ⟨B,17,none⟩ v).heap[k]?=q'.heap[k]?:=fun k hk=>heap_setCell_other q' _ _ _ hk
 have hs:=h.low.size;refine ⟨hr,own_other (own_mono ho hs) fun g hg=>hk g fun e=>?_,own_other h'.o2 fun g hg=>hk g fun e=>own_ty h'.o2 h'.row h.tt.1 (e ▸ hg),own_other h'.os fun g hg=>hk g fun e=>own_ty h'.os h'.row h.tt.2.1 (e ▸ hg),own_other h'.ot fun g hg=>hk g fun e=>own_ty h'.ot h'.row h.tt.2.2 (e ▸ hg),own_other h'.oh fun g hg=>hk g fun e=>own_ty h'.oh h'.row h.tt.1 (e ▸ hg),hold_ty h'.ha h'.row h.tt.1 fun k _=>hk k,h.hB,h.tt,fun g hg e=>?_,fun g hg e=>?_,h.lo,h'.nr.setCell 17 v⟩
 ·exact own_ty ho h'.row h.tt.1 (e ▸ hg)
 ·have h1:=(ho.lt g hg).1;have h2:=(h.o2.lt g e).2;omega
 ·have h1:=(ho.lt g hg).1;have h2:=(h.oh.lt g e).2;omega
theorem Lay.rebase (h:Lay T w0 w1 B c s v1 v2 (.slice none 0 0) (.slice none 0 0) q) (hs:s.sn=[]) (ht:s.tl=[]):Lay T w0 q B c s v1 v2 (.slice none 0 0) (.slice none 0 0) q :=
 ⟨h.row,h.o1,h.o2,by rw [hs];exact World.ownsRow_nil _ _ _ _,by rw [ht];exact World.ownsRow_nil _ _ _ _,h.oh,h.ha,h.hB,h.tt,h.ap,h.aph,h.low,Nr.refl _ _⟩
theorem Lay.put (h:Lay T w0 w1 B c s v1 v2 vs vt q) (o:Obj) {q2:World} (hg:(q.alloc o).grownBy q2 vs.ownBlock) (v:Value) (P:List Op.Pk) (ho:q2.ownsRow w1.heap.size 35 3 v P.length (pkcells P)):Lay T w0 w1 B c { s with sn:=P } v1 v2 v vt (q2.setCell ⟨B,37,none⟩ v):=by
 have h':=h.step ((Below.refl q.heap.size q).alloc (Nat.le_refl _) o);have n0:=own_ty h'.os h'.row h.tt.2.1;have r2:q2.heap[B]?=some (.cells (wkC c s.e v1 v2 vs vt).toArray T):=(hg.block B h'.lt (fun e=>n0 e.symm)).trans h'.row;have hr:=heap_setCell_same q2 B 37 _ _ v r2;rw [List.setIfInBounds_toArray] at hr;have hk:∀ k,k≠B→(q2.setCell ⟨B,37,none⟩ v).heap[k]?=q2.heap[k]?:=fun k hk=>heap_setCell_other q2 _ _ _ hk
 have k1:∀ {bs:Nat} {e:TypeId} {size:Nat} {u:Value} {n:Nat} {xs:List Value},(q.alloc o).ownsRow bs e size u n xs→T≠e→35≠e→(q2.setCell ⟨B,37,none⟩ v).ownsRow bs e size u n xs:=by
  intro bs e size u n xs hu ht hp;have a2:=own_ap hu h'.os (fun e=>hp e.symm);have h3:=World.ownsRow.kept hu hg (by cases hv:u.ownBlock with | none=>exact Or.inl rfl | some g=>exact Or.inr fun e=>a2 g hv e.symm);exact own_other h3 fun g hg=>hk g fun e=>own_ty h3 r2 ht (e ▸ hg)
 have k2:∀ {u:Value} {F:List Op.Opt},HoldsO (q.alloc o) u F→HoldsO (q2.setCell ⟨B,37,none⟩ v) u F:=by
  intro u F hu;have h3:HoldsO q2 u F:=by
   rcases hu with ⟨ad,cp,e,e0⟩ | ⟨g,cp,cur,e,q1,r1⟩
   ·exact Or.inl ⟨ad,cp,e,e0⟩
   ·exact Or.inr ⟨g,cp,cur,e,(hg.block g (ge.1 q1).1 fun e2=>own_ty h'.os q1 (by decide) e2.symm).trans q1,r1⟩
  exact hold_ty h3 r2 h.tt.1 fun k _=>hk k
 refine ⟨hr,k1 h'.o1 h.tt.1 (by decide),k1 h'.o2 h.tt.1 (by decide),own_other ho fun g hg=>hk g fun e=>own_ty ho r2 h.tt.2.1 (e ▸ hg),k1 h'.ot h.tt.2.2 (by decide),k1 h'.oh h.tt.1 (by decide),k2 h'.ha,h.hB,h.tt,h.ap,h.aph,h.lo,?_⟩;refine Nr.setCell ?_ 37 v;have hl:=h'.nr;exact ⟨hg.os.trans hl.os,hg.tape.trans hl.tape,hg.output.trans hl.output,Nat.le_trans hl.size hg.size,fun b hb hn=>(hg.block b (Nat.lt_of_lt_of_le hb hl.size) fun e=>by have:=(h'.os.lt b e.symm).1;omega).trans (hl.block b hb hn)⟩
theorem Lay.say (h:Lay T w0 w1 B c s v1 v2 vs vt q) (o:Obj) {q2:World} (hg:(q.alloc o).grownBy q2 vt.ownBlock) (v:Value) (P:List ByteArray) (ho:q2.ownsRow w1.heap.size 9 1 v P.length (scells P)):Lay T w0 w1 B c { s with tl:=P } v1 v2 vs v (q2.setCell ⟨B,38,none⟩ v):=by
 have h':=h.step ((Below.refl q.heap.size q).alloc (Nat.le_refl _) o);have n0:=own_ty h'.ot h'.row h.tt.2.2;have r2:q2.heap[B]?=some (.cells (wkC c s.e v1 v2 vs vt).toArray T):=(hg.block B h'.lt (fun e=>n0 e.symm)).trans h'.row;have hr:=heap_setCell_same q2 B 38 _ _ v r2;rw [List.setIfInBounds_toArray] at hr;have hk:∀ k,k≠B→(q2.setCell ⟨B,38,none⟩ v).heap[k]?=q2.heap[k]?:=fun k hk=>heap_setCell_other q2 _ _ _ hk
 have k1:∀ {bs:Nat} {e:TypeId} {size:Nat} {u:Value} {n:Nat} {xs:List Value},(q.alloc o).ownsRow bs e size u n xs→T≠e→9≠e→(q2.setCell ⟨B,38,none⟩ v).ownsRow bs e size u n xs:=by
  intro bs e size u n xs hu ht hp;have a2:=own_ap hu h'.ot (fun e=>hp e.symm);have h3:=World.ownsRow.kept hu hg (by cases hv:u.ownBlock with | none=>exact Or.inl rfl | some g=>exact Or.inr fun e=>a2 g hv e.symm);exact own_other h3 fun g hg=>hk g fun e=>own_ty h3 r2 ht (e ▸ hg)
 have k2:∀ {u:Value} {F:List Op.Opt},HoldsO (q.alloc o) u F→HoldsO (q2.setCell ⟨B,38,none⟩ v) u F:=by
  intro u F hu;have h3:HoldsO q2 u F:=by
   rcases hu with ⟨ad,cp,e,e0⟩ | ⟨g,cp,cur,e,q1,r1⟩
   ·exact Or.inl ⟨ad,cp,e,e0⟩
   ·exact Or.inr ⟨g,cp,cur,e,(hg.block g (ge.1 q1).1 fun e2=>own_ty h'.ot q1 (by decide) e2.symm).trans q1,r1⟩
  exact hold_ty h3 r2 h.tt.1 fun k _=>hk k
 refine ⟨hr,k1 h'.o1 h.tt.1 (by decide),k1 h'.o2 h.tt.1 (by decide),k1 h'.os h.tt.2.1 (by decide),own_other ho fun g hg=>hk g fun e=>own_ty ho r2 h.tt.2.2 (e ▸ hg),k1 h'.oh h.tt.1 (by decide),k2 h'.ha,h.hB,h.tt,h.ap,h.aph,h.lo,?_⟩;refine Nr.setCell ?_ 38 v;have hl:=h'.nr;exact ⟨hg.os.trans hl.os,hg.tape.trans hl.tape,hg.output.trans hl.output,Nat.le_trans hl.size hg.size,fun b hb hn=>(hg.block b (Nat.lt_of_lt_of_le hb hl.size) fun e=>by have:=(h'.ot.lt b e.symm).1;omega).trans (hl.block b hb hn)⟩
end
end Go.Proofs.YtahpjlbaagkdoaaGreatDoor
