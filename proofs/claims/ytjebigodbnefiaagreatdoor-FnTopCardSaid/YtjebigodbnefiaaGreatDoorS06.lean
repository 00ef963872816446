/- FsmRow FsmS OptMarks ReadOpt BadOpt -/
import Derived.Test.YtjebigodbnefiaaGreatDoorS04
set_option maxHeartbeats 2000000
namespace Go.Proofs.YtjebigodbnefiaaGreatDoor
open Go.RowKit Go.Proofs.Tryz
def iL:List (List UInt8 × List UInt8):=[([85,112],[47,50,44,105,114,99,32,115,99,114,47,54,44,45,44,45,44,45,44,45,44,45,44,45,44,45,44,45]),
 ([68,111,119,110],[45,44,45,44,47,48,44,116,108,115,47,49,44,47,48,44,47,49,44,47,49,44,47,49,44,47,49,44,116,108,100,47,49]),
 ([79,112,101,110],[116,108,115,47,49,44,47,49,44,105,114,99,32,115,99,114,47,54,44,47,51,44,47,53,44,47,53,44,47,54,44,47,55,44,47,56,44,47,57]),
 ([67,108,111,115,101],[47,48,44,116,108,102,47,48,44,47,50,44,47,50,44,47,52,44,47,52,44,105,114,99,32,115,116,114,47,52,44,105,114,99,32,115,116,114,47,52,44,105,114,99,32,115,116,114,47,52,44,116,108,100,32,105,114,99,32,115,116,114,47,52]),
 ([84,79,43],[45,44,45,44,45,44,45,44,115,116,114,47,52,44,115,116,114,47,53,44,115,99,114,47,54,44,115,99,114,47,54,44,115,99,114,47,56,44,45]),
 ([84,79,45],[45,44,45,44,45,44,45,44,116,108,102,47,50,44,116,108,102,47,51,44,116,108,102,47,51,44,116,108,102,47,51,44,116,108,102,47,51,44,45]),
 ([82,67,82,43],[45,44,45,44,115,116,97,47,50,44,105,114,99,32,115,99,114,32,115,99,97,47,56,44,47,52,44,47,53,44,115,99,97,47,56,44,115,99,97,32,116,108,117,47,57,44,115,99,97,47,56,44,116,108,100,32,115,99,114,32,115,99,97,47,56]),
 ([82,67,82,45],[45,44,45,44,115,116,97,47,50,44,105,114,99,32,115,99,114,32,115,99,110,47,54,44,47,52,44,47,53,44,115,99,110,47,54,44,115,99,110,47,55,44,115,99,110,47,54,44,116,108,100,32,115,99,114,32,115,99,110,47,54]),
 ([82,67,65],[45,44,45,44,115,116,97,47,50,44,115,116,97,47,51,44,47,52,44,47,53,44,105,114,99,47,55,44,115,99,114,47,54,44,105,114,99,32,116,108,117,47,57,44,116,108,100,32,115,99,114,47,54]),
 ([82,67,78],[45,44,45,44,115,116,97,47,50,44,115,116,97,47,51,44,47,52,44,47,53,44,105,114,99,32,115,99,114,47,54,44,115,99,114,47,54,44,105,114,99,32,115,99,114,47,56,44,116,108,100,32,115,99,114,47,54]),
 ([82,84,82],[45,44,45,44,115,116,97,47,50,44,115,116,97,47,51,44,115,116,97,47,52,44,115,116,97,47,53,44,115,116,97,47,54,44,115,116,97,47,54,44,115,116,97,47,54,44,116,108,100,32,122,114,99,32,115,116,97,47,53]),
 ([82,84,65],[45,44,45,44,47,50,44,47,51,44,116,108,102,47,50,44,116,108,102,47,51,44,47,54,44,47,54,44,47,56,44,116,108,100,32,115,99,114,47,54]),
 ([82,85,67],[45,44,45,44,115,99,106,47,50,44,115,99,106,47,51,44,115,99,106,47,52,44,115,99,106,47,53,44,115,99,106,47,54,44,115,99,106,47,55,44,115,99,106,47,56,44,115,99,106,47,57]),
 ([82,88,74,43],[45,44,45,44,47,50,44,47,51,44,47,52,44,47,53,44,47,54,44,47,54,44,47,56,44,47,57]),
 ([82,88,74,45],[45,44,45,44,116,108,102,47,50,44,116,108,102,47,51,44,116,108,102,47,50,44,116,108,102,47,51,44,116,108,102,47,51,44,116,108,102,47,51,44,116,108,102,47,51,44,116,108,100,32,105,114,99,32,115,116,114,47,53]),
 ([82,88,82],[45,44,45,44,47,50,44,47,51,44,47,52,44,47,53,44,47,54,44,47,55,44,47,56,44,115,101,114,47,57])]
def aW (t:ByteArray):ByteArray:=co (((iL.find? fun x=>x.1 == t.toList).map fun x=>x.2).getD [])
def bq:List ByteArray:=iL.map fun x=>co x.1
theorem cF {t:ByteArray} {l:List UInt8} (h:t.toList=l):t=co l:=by
 rw [ByteArray.toList_eq] at h;rw [← h];rfl
def ip (s:Nat) (t:ByteArray):ByteArray:=((bR (aW t) 44)[s]?).getD ⟨#[]⟩
def bO (s:Int) (t:ByteArray):Int × List ByteArray × Int :=
 if 8000<t.size then (0,[],2) else if ¬ (0≤s∧s≤9) then (0,[],5) else if aW t=⟨#[]⟩ then (0,[],6) else if (ip s.toNat t).toList=[45] then (s,[],8)
 else (((ip s.toNat t).data.toList.getLastD 0).toNat - 48,if 2<(ip s.toNat t).size then bR ((ip s.toNat t).extract 0 ((ip s.toNat t).size - 2)) 32 else [],0)
theorem kS:(prog.info? 209).map (·.size)=some 3:=by kernel_rfl
theorem nk {W:World} {E:Nat} {x0 x1 x2:Value} (h:W.heap[E]?=some (.cells #[x0,x1,x2] 209)):(loadVar 209 ⟨E,0,none⟩).run prog W=.ok (.agg #[x0,x1,x2]) W :=
 run_loadVar_row (P:=prog) _ _ 209 209 #[x0,x1,x2] (0,0) _ h underlying209 rfl kS
theorem iw {W:World} {E:Nat} {z0 z1 z2:Value} {T:TypeId} (h:W.heap[E]?=some (.cells #[z0,z1,z2] T)) (x0 x1 x2:Value) :
  (((W.setCell ⟨E,0,none⟩ x0).setCell ⟨E,1,none⟩ x1).setCell ⟨E,2,none⟩ x2).heap[E]?=some (.cells #[x0,x1,x2] T) :=
 zH _ _ 2 _ _ x2 (zH _ _ 1 _ _ x1 (zH _ _ 0 _ _ x0 h))
theorem eW {n:Nat} {w W:World} {E:Nat} (h:Below n w W) (hE:n≤E) (x0 x1 x2:Value):Below n w (((W.setCell ⟨E,0,none⟩ x0).setCell ⟨E,1,none⟩ x1).setCell ⟨E,2,none⟩ x2) :=
 ((h.setCell (p:=⟨E,0,none⟩) hE _).setCell (p:=⟨E,1,none⟩) hE _).setCell (p:=⟨E,2,none⟩) hE _
theorem ik {w:World} {B:Nat} {x0 x1 x2:Value} {T:TypeId} (h:w.heap[B]?=some (.cells #[x0,x1,x2] T)) :
  w.cell? ⟨B,0,none⟩=some x0∧w.cell? ⟨B,1,none⟩=some x1∧w.cell? ⟨B,2,none⟩=some x2∧w.frozen? ⟨B,0,none⟩=false∧w.frozen? ⟨B,1,none⟩=false∧w.frozen? ⟨B,2,none⟩=false :=
 ⟨by rw [cr h];rfl,by rw [cr h];rfl,by rw [cr h];rfl,aX h _,aX h _,aX h _⟩
def vD (r:Int × List ByteArray × Int) (w w':World) (e:Ending):Prop :=
 ∃ ad cp,e=.returned (.agg #[.int .i64 r.1,.slice ad r.2.1.length cp,.int .i64 r.2.2])∧w'.ownsRow w.heap.size 9 1 (.slice ad r.2.1.length cp) r.2.1.length (a_ r.2.1)∧Below w.heap.size w w'
def jb (k n:Nat):List Op.Opt:=(List.range n).map fun i=>⟨((k+2*i:Nat):Int),rC (k+2*i+1)⟩
theorem qq {w:World} {base base':Nat} {e:TypeId} {size:Nat} {v:Value} {n:Nat} {xs:List Value} (h:w.ownsRow base e size v n xs) (hb:base'≤base):w.ownsRow base' e size v n xs :=
 ⟨h.1,h.2.imp id fun ⟨g,cap,cur,h1,h2,h3⟩=>⟨g,cap,cur,h1,zE hb h2,h3⟩⟩
structure Ra (w W:World) (M Pb E:Nat) (ks zs:Array Value):Prop where
 hm:W.heap[M]?=some (.map cW 4)
 hp:W.heap[Pb]?=some (.cells ks 273)
 he:W.heap[E]?=some (.cells zs 253)
 below:Below w.heap.size w W
theorem Ra.off {w W W':World} {M Pb E N R:Nat} {ks zs:Array Value} (h:Ra w W M Pb E ks zs) (ho:Off N R W W') (h1:M<N) (h2:Pb<N) (h3:E<N) (n1:M≠R) (n2:Pb≠R) (n3:E≠R) (hw:w.heap.size≤N) (hr:w.heap.size≤R):Ra w W' M Pb E ks zs :=
 ⟨(ho.block M h1 n1).trans h.hm,(ho.block Pb h2 n2).trans h.hp,(ho.block E h3 n3).trans h.he,h.below.trans (ho.below hw hr)⟩
theorem dA {w:World} {Pb:Nat} {ks:Array Value} {T:TypeId} (h:w.heap[Pb]?=some (.cells ks T)) (i:Nat) (x:Value) (hx:ks[i]?=some x):w.cell? ⟨Pb,i,none⟩=some x:=by
 rw [cr h];exact hx
theorem m8 (w:World) (a b c d:Obj):((((w.alloc a).alloc b).alloc c).alloc d).heap.size=w.heap.size+1+1+1+1∧((((w.alloc a).alloc b).alloc c).alloc d).heap[w.heap.size]?=some a∧((((w.alloc a).alloc b).alloc c).alloc d).heap[w.heap.size+1]?=some b ∧
  ((((w.alloc a).alloc b).alloc c).alloc d).heap[w.heap.size+1+1]?=some c∧((((w.alloc a).alloc b).alloc c).alloc d).heap[w.heap.size+1+1+1]?=some d∧Below w.heap.size w ((((w.alloc a).alloc b).alloc c).alloc d):=by
 have s1:(w.alloc a).heap.size=w.heap.size+1:=by simp
 have s2:((w.alloc a).alloc b).heap.size=w.heap.size+1+1:=by simp
 have s3:(((w.alloc a).alloc b).alloc c).heap.size=w.heap.size+1+1+1:=by simp
 have e1:=zF w a;have e2:=zF (w.alloc a) b;have e3:=zF ((w.alloc a).alloc b) c;have e4:=zF (((w.alloc a).alloc b).alloc c) d;rw [s1] at e2;rw [s2] at e3;rw [s3] at e4;refine ⟨by simp,?_,?_,?_,e4,((((zC _ _).alloc (zD _) _).alloc (by omega) _).alloc (by omega) _).alloc (by omega) _⟩
 ·rw [zG _ _ _ (by omega),zG _ _ _ (by omega),zG _ _ _ (by omega)];exact e1
 ·rw [zG _ _ _ (by omega),zG _ _ _ (by omega)];exact e2
 ·rw [zG _ _ _ (by omega)];exact e3
theorem qr {w:World} {B:Nat} {x0 x1 x2 x3:Value} {T:TypeId} (h:w.heap[B]?=some (.cells #[x0,x1,x2,x3] T)) :
  w.cell? ⟨B,0,none⟩=some x0∧w.cell? ⟨B,1,none⟩=some x1∧w.cell? ⟨B,2,none⟩=some x2∧w.cell? ⟨B,3,none⟩=some x3 :=
 ⟨by rw [cr h];rfl,by rw [cr h];rfl,by rw [cr h];rfl,by rw [cr h];rfl⟩
def dc:Array Value:=#[.slice none 0 0,.int .i64 0,.int .i64 0,.int .i64 0,.slice none 0 0,.slice none 0 0,.int .i64 0,.string ⟨#[]⟩]
def lO (W:World) (E:Nat) (x0 x1 x2 x3 x4 x5 x6 x7:Value):World :=
 (((((((W.setCell ⟨E,0,none⟩ x0).setCell ⟨E,1,none⟩ x1).setCell ⟨E,2,none⟩ x2).setCell ⟨E,3,none⟩ x3).setCell ⟨E,4,none⟩ x4).setCell ⟨E,5,none⟩ x5).setCell ⟨E,6,none⟩ x6).setCell ⟨E,7,none⟩ x7
theorem xq:(prog.info? 253).map (·.size)=some 8:=by kernel_rfl
theorem ie {W:World} {E:Nat} {z0 z1 z2 z3 z4 z5 z6 z7:Value} (h:W.heap[E]?=some (.cells #[z0,z1,z2,z3,z4,z5,z6,z7] 253)) (x0 x1 x2 x3 x4 x5 x6 x7:Value) :
  (loadVar 253 ⟨E,0,none⟩).run prog (lO W E x0 x1 x2 x3 x4 x5 x6 x7)=.ok (.agg #[x0,x1,x2,x3,x4,x5,x6,x7]) (lO W E x0 x1 x2 x3 x4 x5 x6 x7):=by
 have h0:(W.setCell ⟨E,0,none⟩ x0).heap[E]?=some (.cells #[x0,z1,z2,z3,z4,z5,z6,z7] 253):=by rw [zH _ _ 0 _ _ _ h];rfl
 have h1:((W.setCell ⟨E,0,none⟩ x0).setCell ⟨E,1,none⟩ x1).heap[E]?=some (.cells #[x0,x1,z2,z3,z4,z5,z6,z7] 253):=by rw [zH _ _ 1 _ _ _ h0];rfl
 have h2:(((W.setCell ⟨E,0,none⟩ x0).setCell ⟨E,1,none⟩ x1).setCell ⟨E,2,none⟩ x2).heap[E]?=some (.cells #[x0,x1,x2,z3,z4,z5,z6,z7] 253):=by rw [zH _ _ 2 _ _ _ h1];rfl
 have h3:((((W.setCell ⟨E,0,none⟩ x0).setCell ⟨E,1,none⟩ x1).setCell ⟨E,2,none⟩ x2).setCell ⟨E,3,none⟩ x3).heap[E]?=some (.cells #[x0,x1,x2,x3,z4,z5,z6,z7] 253):=by rw [zH _ _ 3 _ _ _ h2];rfl
 have h4:(((((W.setCell ⟨E,0,none⟩ x0).setCell ⟨E,1,none⟩ x1).setCell ⟨E,2,none⟩ x2).setCell ⟨E,3,none⟩ x3).setCell ⟨E,4,none⟩ x4).heap[E]?=some (.cells #[x0,x1,x2,x3,x4,z5,z6,z7] 253):=by rw [zH _ _ 4 _ _ _ h3];rfl
 have h5:((((((W.setCell ⟨E,0,none⟩ x0).setCell ⟨E,1,none⟩ x1).setCell ⟨E,2,none⟩ x2).setCell ⟨E,3,none⟩ x3).setCell ⟨E,4,none⟩ x4).setCell ⟨E,5,none⟩ x5).heap[E]?=some (.cells #[x0,x1,x2,x3,x4,x5,z6,z7] 253):=by rw [zH _ _ 5 _ _ _ h4];rfl
 have h6:(((((((W.setCell ⟨E,0,none⟩ x0).setCell ⟨E,1,none⟩ x1).setCell ⟨E,2,none⟩ x2).setCell ⟨E,3,none⟩ x3).setCell ⟨E,4,none⟩ x4).setCell ⟨E,5,none⟩ x5).setCell ⟨E,6,none⟩ x6).heap[E]?=some (.cells #[x0,x1,x2,x3,x4,x5,x6,z7] 253):=by rw [zH _ _ 6 _ _ _ h5];rfl
 have h7:((((((((W.setCell ⟨E,0,none⟩ x0).setCell ⟨E,1,none⟩ x1).setCell ⟨E,2,none⟩ x2).setCell ⟨E,3,none⟩ x3).setCell ⟨E,4,none⟩ x4).setCell ⟨E,5,none⟩ x5).setCell ⟨E,6,none⟩ x6).setCell ⟨E,7,none⟩ x7).heap[E]?=some (.cells #[x0,x1,x2,x3,x4,x5,x6,x7] 253):=by rw [zH _ _ 7 _ _ _ h6];rfl
 exact run_loadVar_row (P:=prog) _ _ 253 253 #[x0,x1,x2,x3,x4,x5,x6,x7] (0,0) _ h7 underlying253 rfl xq
theorem ju (W:World) (E:Nat) (x0 x1 x2 x3 x4 x5 x6 x7:Value) (g:Nat) (hg:g≠E):(lO W E x0 x1 x2 x3 x4 x5 x6 x7).heap[g]?=W.heap[g]?:=by
 unfold lO;rw [Below.heap_setCell _ _ _ g hg,Below.heap_setCell _ _ _ g hg,Below.heap_setCell _ _ _ g hg,Below.heap_setCell _ _ _ g hg,Below.heap_setCell _ _ _ g hg,Below.heap_setCell _ _ _ g hg,Below.heap_setCell _ _ _ g hg,Below.heap_setCell _ _ _ g hg]
theorem go {n:Nat} {w W:World} {E:Nat} (h:Below n w W) (hE:n≤E) (x0 x1 x2 x3 x4 x5 x6 x7:Value):Below n w (lO W E x0 x1 x2 x3 x4 x5 x6 x7) :=
 (((((((h.setCell (p:=⟨E,0,none⟩) hE _).setCell (p:=⟨E,1,none⟩) hE _).setCell (p:=⟨E,2,none⟩) hE _).setCell (p:=⟨E,3,none⟩) hE _).setCell (p:=⟨E,4,none⟩) hE _).setCell (p:=⟨E,5,none⟩) hE _).setCell (p:=⟨E,6,none⟩) hE _).setCell (p:=⟨E,7,none⟩) hE _
def uY (w w':World) (Pb B:Nat) (k:UInt8) (t:ByteArray) (l:List UInt8) (e:Ending):Prop :=
 ∃ off cap sa sc x,e=.returned (.tuple #[.agg #[.slice (some ⟨Pb,0,none⟩) 3 3,.int .i64 2,.int .i64 20,.int .i64 3,.slice (some ⟨B,off,none⟩) l.length cap,.slice sa 1 sc,.int .i64 x,.string t],.nilIface])∧Rest w' B (.slice (some ⟨B,off,none⟩) l.length cap) l∧w'.ownsRow w.heap.size 2 1 (.slice sa 1 sc) 1 [.int .i64 k.toNat]∧Below w.heap.size w w'
theorem qs (w:World) (Pb B:Nat) (v:Value) (k n:UInt8) (r:List UInt8) (hP:w.heap[Pb]?=some (.cells #[.int .i64 0,.int .i64 1,.int .i64 3] 273)) (hB:B<w.heap.size) (hv:Rest w B v (k :: n :: r)) (hg:oL 2 20 n.toNat r=false) :
  Calls prog 178 #[.agg #[.slice (some ⟨Pb,0,none⟩) 3 3,.int .i64 2,.int .i64 20,.int .i64 3],v] w fun e w'=>uY w w' Pb B k (co (r.take (n.toNat - 2))) (r.drop (n.toNat - 2)) e:=by
 have hPw:Pb<w.heap.size:=(ge.1 hP).1;obtain ⟨off,cap,hvf,hcap,hl⟩:=hv;subst hvf;have HL:=aa hl;have HP:=aa hP;have HC:=aa hcap;clear hl hP hcap;go_enter func178,ntmps178
 go_wp2_with fail
 refine (fC _).mono ?_;rintro e w1 ⟨rfl,hw1⟩
 obtain ⟨hs,q0,q1,q2,q3,hb1⟩:=m8 w (.cells #[.slice (some ⟨Pb,0,none⟩) 3 3,.int .i64 2,.int .i64 20,.int .i64 3] 250) (.cells dc 253)
  (.cells #[.slice (some ⟨Pb,0,none⟩) 3 3,.int .i64 2,.int .i64 20,.int .i64 3,.slice (some ⟨B,off,none⟩) (r.length+1+1) cap,.slice none 0 0,.int .i64 0,.string ⟨#[]⟩] 253) (.map cW 4)
 unfold dc at hs q0 q1 q2 q3 hb1;rw [← hw1] at hs q0 q1 q2 q3 hb1;have hra:Ra w w1 (w.heap.size+1+1+1) Pb (w.heap.size+1) #[.int .i64 0,.int .i64 1,.int .i64 3] dc:=⟨q3,(hb1.block Pb hPw).trans (uh HP),q1,hb1⟩;have hrd:Rdg w1 (w.heap.size+1+1) (w.heap.size+1+1+1+1) B (.slice (some ⟨Pb,0,none⟩) 3 3) 2 20 3 (k :: n :: r) [] 0 ⟨#[]⟩ :=
  ⟨_,_,q2,⟨off,cap,rfl,uh HC,(uh HL).same (hb1.block B hB)⟩,⟨rfl,Or.inl ⟨rfl,rfl⟩⟩⟩
 obtain ⟨c0,c1,c2,c3⟩:=qr q0;have HRA:=aa hra;have HRD:=aa hrd;have l0:=e_ w1 (w.heap.size+1+1+1) cW 4 0 0 (eE 204) hra.hm rfl;have k0:=dA hra.hp 0 _ rfl;clear hra hrd hw1 q0 q1 q2 q3 HL HP HC;go_wp2_with fail
 refine wp_loop_rounds 4 ?_;rw [rounds_succ];go_wp2_with fail
 refine (gn _ _ B _ 2 20 3 (k :: n :: r) [] 0 ⟨#[]⟩ w1 (by omega) (by omega) (by omega) (by omega) (by simp) (uh HRD)).mono ?_;rintro e w2 ⟨hof,⟨hn,_⟩ | ⟨c,r',hc,rfl,hrd⟩⟩
 ·cases hn
 obtain ⟨rfl,rfl⟩:=List.cons.inj hc;have hra:=(uh HRA).off hof (by omega) (by omega) (by omega) (by omega) (by omega) (by omega) (by omega) (by omega);have hs2:=hof.size;have l1:=e_ w2 (w.heap.size+1+1+1) cW 4 1 1 (eE 205) hra.hm rfl;have k1:=dA hra.hp 1 _ rfl;clear HRA HRD hc l0 k0 c0 c1 c2 c3 hb1;have HRA:=aa hra;have HRD:=aa hrd;clear hra hrd hof;go_wp2_with fail
 rw [rounds_succ];go_wp2_with fail
 have C:=aa (lN _ _ B _ 2 20 3 (n :: r) _ 0 ⟨#[]⟩ w2 (by omega) (by omega) (by omega) (by omega) (by omega) (by simp) (uh HRD));rw [show ax (List.take 1 (n :: r))=n.toNat by simp [ax],show List.drop 1 (n :: r)=r from rfl,hg,if_neg (by decide)] at C;refine (uh C).mono ?_;rintro e w3 ⟨rfl,hnr,hrd⟩;have hra:=(uh HRA).off (hnr.off (N:=w.heap.size+1+1+1+1) (by omega)) (by omega) (by omega) (by omega) (by omega) (by omega) (by omega) (by omega) (by omega);have hs3:=hnr.size;have l3:=e_ w3 (w.heap.size+1+1+1) cW 4 3 3 (eE 207) hra.hm rfl;have k2:=dA hra.hp 2 _ rfl;clear HRA HRD C l1 k1;have HRA:=aa hra;have HRD:=aa hrd;clear hra hrd hnr;go_wp2_with fail
 rw [rounds_succ];go_wp2_with fail
 obtain ⟨g1,g2,g3⟩:2≤n.toNat∧n.toNat≤22∧n.toNat - 2≤r.length:=by
  have:=of_decide_eq_false hg
  omega
 have hrd:=uh HRD;rw [show ((n.toNat:Nat):Int) - 2=((n.toNat - 2:Nat):Int) by omega] at hrd;refine (sN _ _ B _ 2 20 3 r _ (n.toNat - 2) ⟨#[]⟩ w3 (by omega) (by omega) (by omega) g3 hrd).mono ?_;rintro e w4 ⟨rfl,hnr,hrd2⟩;have hra:=(uh HRA).off (hnr.off (N:=w.heap.size+1+1+1+1) (by omega)) (by omega) (by omega) (by omega) (by omega) (by omega) (by omega) (by omega) (by omega);obtain ⟨v',s,hR,hv,ho⟩:=hrd2;obtain ⟨off',cap',hvf,hcap',hl'⟩:=hv;subst hvf;obtain ⟨sa,sc,hsf⟩:=af ho;subst hsf;have hE:=hra.he;unfold dc at hE;have hfin:=hra.below;obtain ⟨c0,c1,c2,c3,c4,c5,c6,c7,_⟩:=j_ hR;obtain ⟨e0,e1,e2,e3,e4,e5,e6,e7,ef⟩:=j_ hE;have f0:=ef 0;have f1:=ef 1;have f2:=ef 2;have f3:=ef 3;have f4:=ef 4;have f5:=ef 5;have f6:=ef 6;have f7:=ef 7;have HL:=aa hl';have HO:=aa ho;have FIN:=aa (ie hE);unfold lO at FIN;clear HRA HRD hrd hnr hra hR hl' ho ef hE l3 k2 hg;go_wp2_with fail
 rw [rounds_succ];go_wp2
 refine bodyPost_ret (v:=.tuple #[.agg #[.slice (some ⟨Pb,0,none⟩) 3 3,.int .i64 2,.int .i64 20,.int .i64 3,.slice (some ⟨B,off',none⟩) (r.drop (n.toNat - 2)).length cap',.slice sa 1 sc,.int .i64 ((n.toNat - 2:Nat):Int),.string (co (r.take (n.toNat - 2)))],.nilIface]) (by simp [results,results178,asAddr,uh FIN]) rfl ?_;have hne:B≠w.heap.size+1:=by omega
 refine ⟨_,_,_,_,_,rfl,⟨off',cap',rfl,hcap',(uh HL).same (ju w4 (w.heap.size+1) _ _ _ _ _ _ _ _ B hne)⟩,?_,go (E:=w.heap.size+1) hfin (Nat.le_succ _) _ _ _ _ _ _ _ _⟩;refine qq (aY (uh HO) fun g hg _=>ju w4 (w.heap.size+1) _ _ _ _ _ _ _ _ g ?_) (by omega);clear FIN;omega
theorem qt (w:World) (Pb B:Nat) (v:Value) (k:UInt8) (hP:w.heap[Pb]?=some (.cells #[.int .i64 0,.int .i64 1,.int .i64 3] 273)) (hB:B<w.heap.size) (hv:Rest w B v [k]) :
  Calls prog 178 #[.agg #[.slice (some ⟨Pb,0,none⟩) 3 3,.int .i64 2,.int .i64 20,.int .i64 3],v] w fun e w'=>e=.returned (.tuple #[.agg dc,cS 3])∧Below w.heap.size w w':=by
 have hPw:Pb<w.heap.size:=(ge.1 hP).1;obtain ⟨off,cap,hvf,hcap,hl⟩:=hv;subst hvf;have HL:=aa hl;have HP:=aa hP;have HC:=aa hcap;clear hl hP hcap;go_enter func178,ntmps178
 go_wp2_with fail
 refine (fC _).mono ?_;rintro e w1 ⟨rfl,hw1⟩
 obtain ⟨hs,q0,q1,q2,q3,hb1⟩:=m8 w (.cells #[.slice (some ⟨Pb,0,none⟩) 3 3,.int .i64 2,.int .i64 20,.int .i64 3] 250) (.cells dc 253)
  (.cells #[.slice (some ⟨Pb,0,none⟩) 3 3,.int .i64 2,.int .i64 20,.int .i64 3,.slice (some ⟨B,off,none⟩) 1 cap,.slice none 0 0,.int .i64 0,.string ⟨#[]⟩] 253) (.map cW 4)
 unfold dc at hs q0 q1 q2 q3 hb1;rw [← hw1] at hs q0 q1 q2 q3 hb1;have hra:Ra w w1 (w.heap.size+1+1+1) Pb (w.heap.size+1) #[.int .i64 0,.int .i64 1,.int .i64 3] dc:=⟨q3,(hb1.block Pb hPw).trans (uh HP),q1,hb1⟩;have hrd:Rdg w1 (w.heap.size+1+1) (w.heap.size+1+1+1+1) B (.slice (some ⟨Pb,0,none⟩) 3 3) 2 20 3 [k] [] 0 ⟨#[]⟩ :=
  ⟨_,_,q2,⟨off,cap,rfl,uh HC,(uh HL).same (hb1.block B hB)⟩,⟨rfl,Or.inl ⟨rfl,rfl⟩⟩⟩
 obtain ⟨c0,c1,c2,c3⟩:=qr q0;have HRA:=aa hra;have HRD:=aa hrd;have l0:=e_ w1 (w.heap.size+1+1+1) cW 4 0 0 (eE 204) hra.hm rfl;have k0:=dA hra.hp 0 _ rfl;clear hra hrd hw1 q0 q1 q2 q3 HL HP HC;go_wp2_with fail
 refine wp_loop_rounds 4 ?_;rw [rounds_succ];go_wp2_with fail
 refine (gn _ _ B _ 2 20 3 [k] [] 0 ⟨#[]⟩ w1 (by omega) (by omega) (by omega) (by omega) (by simp) (uh HRD)).mono ?_;rintro e w2 ⟨hof,⟨hn,_⟩ | ⟨c,r',hc,rfl,hrd⟩⟩
 ·cases hn
 obtain ⟨rfl,rfl⟩:=List.cons.inj hc;have hra:=(uh HRA).off hof (by omega) (by omega) (by omega) (by omega) (by omega) (by omega) (by omega) (by omega);have hs2:=hof.size;have l1:=e_ w2 (w.heap.size+1+1+1) cW 4 1 1 (eE 205) hra.hm rfl;have k1:=dA hra.hp 1 _ rfl;clear HRA HRD hc l0 k0 c0 c1 c2 c3 hb1;have HRA:=aa hra;have HRD:=aa hrd;clear hra hrd hof;go_wp2_with fail
 rw [rounds_succ];go_wp2_with fail
 have C:=aa (m7 _ _ B _ 2 20 3 [] _ 0 ⟨#[]⟩ w2 (by simp) (uh HRD));refine (uh C).mono ?_;rintro e w3 ⟨rfl,hnr⟩;have hra:=(uh HRA).off (hnr.off (N:=w.heap.size+1+1+1+1) (by omega)) (by omega) (by omega) (by omega) (by omega) (by omega) (by omega) (by omega) (by omega);have hE:=hra.he;unfold dc at hE;have hfin:=hra.below;obtain ⟨e0,e1,e2,e3,e4,e5,e6,e7,ef⟩:=j_ hE;have f0:=ef 0;have f1:=ef 1;have f2:=ef 2;have f3:=ef 3;have f4:=ef 4;have f5:=ef 5;have f6:=ef 6;have f7:=ef 7;have FIN:=aa (ie hE);unfold lO at FIN;clear HRA HRD hnr hra ef hE l1 k1 C;unfold cS;go_wp2
 refine bodyPost_ret (v:=.tuple #[.agg dc,cS 3]) (by simp [results,results178,asAddr,uh FIN,dc,cS]) rfl ⟨rfl,?_⟩;exact go (E:=w.heap.size+1) hfin (Nat.le_succ _) _ _ _ _ _ _ _ _
theorem qu (w:World) (Pb B:Nat) (v:Value) (k n:UInt8) (r:List UInt8) (hP:w.heap[Pb]?=some (.cells #[.int .i64 0,.int .i64 1,.int .i64 3] 273)) (hB:B<w.heap.size) (hv:Rest w B v (k :: n :: r)) (hg:oL 2 20 n.toNat r=true) :
  Calls prog 178 #[.agg #[.slice (some ⟨Pb,0,none⟩) 3 3,.int .i64 2,.int .i64 20,.int .i64 3],v] w fun e w'=>e=.returned (.tuple #[.agg dc,cS 3])∧Below w.heap.size w w':=by
 have hPw:Pb<w.heap.size:=(ge.1 hP).1;obtain ⟨off,cap,hvf,hcap,hl⟩:=hv;subst hvf;have HL:=aa hl;have HP:=aa hP;have HC:=aa hcap;clear hl hP hcap;go_enter func178,ntmps178
 go_wp2_with fail
 refine (fC _).mono ?_;rintro e w1 ⟨rfl,hw1⟩
 obtain ⟨hs,q0,q1,q2,q3,hb1⟩:=m8 w (.cells #[.slice (some ⟨Pb,0,none⟩) 3 3,.int .i64 2,.int .i64 20,.int .i64 3] 250) (.cells dc 253)
  (.cells #[.slice (some ⟨Pb,0,none⟩) 3 3,.int .i64 2,.int .i64 20,.int .i64 3,.slice (some ⟨B,off,none⟩) (r.length+1+1) cap,.slice none 0 0,.int .i64 0,.string ⟨#[]⟩] 253) (.map cW 4)
 unfold dc at hs q0 q1 q2 q3 hb1;rw [← hw1] at hs q0 q1 q2 q3 hb1;have hra:Ra w w1 (w.heap.size+1+1+1) Pb (w.heap.size+1) #[.int .i64 0,.int .i64 1,.int .i64 3] dc:=⟨q3,(hb1.block Pb hPw).trans (uh HP),q1,hb1⟩;have hrd:Rdg w1 (w.heap.size+1+1) (w.heap.size+1+1+1+1) B (.slice (some ⟨Pb,0,none⟩) 3 3) 2 20 3 (k :: n :: r) [] 0 ⟨#[]⟩ :=
  ⟨_,_,q2,⟨off,cap,rfl,uh HC,(uh HL).same (hb1.block B hB)⟩,⟨rfl,Or.inl ⟨rfl,rfl⟩⟩⟩
 obtain ⟨c0,c1,c2,c3⟩:=qr q0;have HRA:=aa hra;have HRD:=aa hrd;have l0:=e_ w1 (w.heap.size+1+1+1) cW 4 0 0 (eE 204) hra.hm rfl;have k0:=dA hra.hp 0 _ rfl;clear hra hrd hw1 q0 q1 q2 q3 HL HP HC;go_wp2_with fail
 refine wp_loop_rounds 4 ?_;rw [rounds_succ];go_wp2_with fail
 refine (gn _ _ B _ 2 20 3 (k :: n :: r) [] 0 ⟨#[]⟩ w1 (by omega) (by omega) (by omega) (by omega) (by simp) (uh HRD)).mono ?_;rintro e w2 ⟨hof,⟨hn,_⟩ | ⟨c,r',hc,rfl,hrd⟩⟩
 ·cases hn
 obtain ⟨rfl,rfl⟩:=List.cons.inj hc;have hra:=(uh HRA).off hof (by omega) (by omega) (by omega) (by omega) (by omega) (by omega) (by omega) (by omega);have hs2:=hof.size;have l1:=e_ w2 (w.heap.size+1+1+1) cW 4 1 1 (eE 205) hra.hm rfl;have k1:=dA hra.hp 1 _ rfl;clear HRA HRD hc l0 k0 c0 c1 c2 c3 hb1;have HRA:=aa hra;have HRD:=aa hrd;clear hra hrd hof;go_wp2_with fail
 rw [rounds_succ];go_wp2_with fail
 have C:=aa (lN _ _ B _ 2 20 3 (n :: r) _ 0 ⟨#[]⟩ w2 (by omega) (by omega) (by omega) (by omega) (by omega) (by simp) (uh HRD));rw [show ax (List.take 1 (n :: r))=n.toNat by simp [ax],show List.drop 1 (n :: r)=r from rfl,hg,if_pos rfl] at C;refine (uh C).mono ?_;rintro e w3 ⟨rfl,hnr,_⟩;have hra:=(uh HRA).off (hnr.off (N:=w.heap.size+1+1+1+1) (by omega)) (by omega) (by omega) (by omega) (by omega) (by omega) (by omega) (by omega) (by omega);have hE:=hra.he;unfold dc at hE;have hfin:=hra.below;obtain ⟨e0,e1,e2,e3,e4,e5,e6,e7,ef⟩:=j_ hE;have f0:=ef 0;have f1:=ef 1;have f2:=ef 2;have f3:=ef 3;have f4:=ef 4;have f5:=ef 5;have f6:=ef 6;have f7:=ef 7;have FIN:=aa (ie hE);unfold lO at FIN;clear HRA HRD hnr hra ef hE l1 k1 C;unfold cS;go_wp2
 refine bodyPost_ret (v:=.tuple #[.agg dc,cS 3]) (by simp [results,results178,asAddr,uh FIN,dc,cS]) rfl ⟨rfl,?_⟩;exact go (E:=w.heap.size+1) hfin (Nat.le_succ _) _ _ _ _ _ _ _ _
end Go.Proofs.YtjebigodbnefiaaGreatDoor
