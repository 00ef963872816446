/- Take PkQ MtW OptEq MarkT OptSp Stuff Shift Table Model Behind Low Tail GoodImpl FmA LwAt Bytes -/
import Derived.Test.YtjebigodbnefiaaGreatDoorS00
import Derived.Test.YtjebigodbnefiaaGreatDoorDec
import Derived.Lib.OthersKept
import Derived.Lib.RuneCountTail
set_option maxHeartbeats 1000000
set_option maxRecDepth 100000
namespace Go.Proofs.YtjebigodbnefiaaGreatDoor
open Go.RowKit Go.Proofs.Tryz
def Rest (w:World) (B:Nat) (v:Value) (l:List UInt8):Prop:=∃ off cap,v=.slice (some ⟨B,off,none⟩) l.length cap∧l.length≤cap∧Lies w B off l
theorem Lies.same {w w':World} {B off:Nat} {l:List UInt8} (h:Lies w B off l) (hb:w'.heap[B]?=w.heap[B]?):Lies w' B off l:=fun i hi=>by
 rw [← h i hi];simp [World.cell?,hb]
theorem Rest.same {w w':World} {B:Nat} {v:Value} {l:List UInt8} (h:Rest w B v l) (hb:w'.heap[B]?=w.heap[B]?):Rest w' B v l:=by
 obtain ⟨off,cap,h1,h2,h3⟩:=h;exact ⟨off,cap,h1,h2,h3.same hb⟩
theorem Lies.take {w:World} {B off:Nat} {l:List UInt8} (h:Lies w B off l) (n:Nat):Lies w B off (l.take n):=fun i hi=>by
 rw [List.length_take] at hi;rw [h i (by omega),List.getElem_take]
theorem j_ {w:World} {B:Nat} {x0 x1 x2 x3 x4 x5 x6 x7:Value} {T:TypeId} (h:w.heap[B]?=some (.cells #[x0,x1,x2,x3,x4,x5,x6,x7] T)) :
  w.cell? ⟨B,0,none⟩=some x0∧w.cell? ⟨B,1,none⟩=some x1∧w.cell? ⟨B,2,none⟩=some x2∧w.cell? ⟨B,3,none⟩=some x3∧w.cell? ⟨B,4,none⟩=some x4∧w.cell? ⟨B,5,none⟩=some x5∧w.cell? ⟨B,6,none⟩=some x6∧w.cell? ⟨B,7,none⟩=some x7∧∀ o,w.frozen? ⟨B,o,none⟩=false :=
 ⟨by rw [cr h];rfl,by rw [cr h];rfl,by rw [cr h];rfl,by rw [cr h];rfl,by rw [cr h];rfl,by rw [cr h];rfl,by rw [cr h];rfl,by rw [cr h];rfl,fun o=>aX h o⟩
def cS (c:Int):Value:=.iface 257 (.agg #[.int .i64 c])
theorem mw (R n cap size:Nat) (ad:Option Addr) (lk:Int) (x0 x1 x2 x5 x6 x7:Value) (w:World) (h:n<size) (hR:w.heap[R]?=some (.cells #[x0,x1,x2,.int .i64 lk,.slice ad n cap,x5,x6,x7] 253)) :
  Calls prog 218 #[.pointer (some ⟨R,0,none⟩),.int .i64 size] w fun e w'=>e=.returned (.tuple #[.slice none 0 0,cS lk])∧∃ k,w'=w.drewN k:=by
 obtain ⟨c0,c1,c2,c3,c4,c5,c6,c7,cf⟩:=j_ hR;have d1:(n:Int)<(size:Int):=by omega
 clear hR;go_enter func218,ntmps218
 go_wp2_with fail
 go_quiet (fail)
 go_wp2
 go_ret2
 exact ⟨rfl,_,rfl⟩
def vH (w w':World) (R B off n size:Nat) (x0 x1 x2 x3 x5 x6 x7:Value):Prop :=
 ∃ off' cap',w'.heap[R]?=some (.cells #[x0,x1,x2,x3,.slice (some ⟨B,off',none⟩) (n - size) cap',x5,x6,x7] 253)∧n - size≤cap'∧(n=size∨off'=off+size)∧Nr R w w'
theorem nn (R B off n cap size:Nat) (x0 x1 x2 x3 x5 x6 x7:Value) (w:World) (h:size≤n) (hcap:n≤cap) (hR:w.heap[R]?=some (.cells #[x0,x1,x2,x3,.slice (some ⟨B,off,none⟩) n cap,x5,x6,x7] 253)) :
  Calls prog 218 #[.pointer (some ⟨R,0,none⟩),.int .i64 size] w fun e w'=>e=.returned (.tuple #[.slice (some ⟨B,off,none⟩) size size,.nilIface]) ∧
   vH w w' R B off n size x0 x1 x2 x3 x5 x6 x7:=by
 obtain ⟨c0,c1,c2,c3,c4,c5,c6,c7,cf⟩:=j_ hR;have d1:¬ ((n:Int)<(size:Int)):=by omega
 have d2:(size:Int)≤(cap:Int):=by omega
 have d3:(size:Int)≤(n:Int):=by omega
 have d4:(n:Int)≤(cap:Int):=by omega
 have hf:=cf 4;have HR:=aa hR;clear hR cf;by_cases hc:cap=size
 ·subst hc;obtain rfl:n=cap:=by omega
  go_enter func218,ntmps218
  go_wp2
  go_ret2
  exact ⟨rfl,off,0,by rw [zH _ _ 4 _ _ _ (uh HR),Nat.sub_self];rfl,by omega,Or.inl rfl,(Nr.refl _ _).setCell 4 _⟩
 ·go_enter func218,ntmps218
  go_wp2
  go_ret2
  exact ⟨rfl,off+size,cap - size,by rw [zH _ _ 4 _ _ _ (uh HR)];rfl,by omega,Or.inr rfl,(Nr.refl _ _).setCell 4 _⟩
def ts (w w':World) (R B:Nat) (l:List UInt8) (x0 x1 x2 x3 x5 x6 x7:Value):Prop :=
 ∃ v',w'.heap[R]?=some (.cells #[x0,x1,x2,x3,v',x5,x6,x7] 253)∧Rest w' B v' l∧Nr R w w'
theorem jJ {w w':World} {R B off size:Nat} {l:List UInt8} {x0 x1 x2 x3 x5 x6 x7:Value} (h:vH w w' R B off l.length size x0 x1 x2 x3 x5 x6 x7) (hl:Lies w B off l) (hB:B<w.heap.size) (hne:B≠R) :
  ts w w' R B (l.drop size) x0 x1 x2 x3 x5 x6 x7∧Lies w' B off (l.take size):=by
 obtain ⟨off',cap',h1,h2,h3,h4⟩:=h;have hl':=hl.same (h4.block B hB hne);refine ⟨⟨_,h1,⟨off',cap',by rw [List.length_drop],by rw [List.length_drop];exact h2,?_⟩,h4⟩,hl'.take size⟩;rcases h3 with h3 | h3
 ·intro i hi;rw [List.length_drop] at hi;omega
 ·rw [h3];exact hl'.drop size
theorem pm (w:World):Calls prog 202 #[.slice none 0 0] w fun e w'=>e=.returned (.int .i64 0)∧w'=w:=by
 go_enter func202,ntmps202
 go_wp2
 go_loop [3,8] (fun n i=>i=.int .i64 0∧n=.int .i64 0) (fun _ _=>0)
 case atStart=>exact ⟨rfl,rfl⟩
 case round =>
  obtain ⟨rfl,rfl⟩:=hrel;go_wp2
  go_ret
  exact ⟨rfl,rfl⟩
theorem jK (R B size:Nat) (l:List UInt8) (v:Value) (lk:Int) (x0 x1 x2 x5 x6 x7:Value) (w:World) (h:l.length<size) (hv:Rest w B v l) (hR:w.heap[R]?=some (.cells #[x0,x1,x2,.int .i64 lk,v,x5,x6,x7] 253)) :
  Calls prog 216 #[.pointer (some ⟨R,0,none⟩),.int .i64 size] w fun e w'=>e=.returned (.tuple #[.int .i64 0,cS lk])∧∃ k,w'=w.drewN k:=by
 obtain ⟨off,cap,rfl,hcap,hl⟩:=hv;have C:=aa (mw R l.length cap size _ lk x0 x1 x2 x5 x6 x7 w h hR);clear hR hl;go_enter func216,ntmps216
 go_wp2_with fail
 refine (uh C).mono ?_;rintro e w1 ⟨rfl,k,rfl⟩;go_wp2_with fail
 refine (pm _).mono ?_;rintro e w2 ⟨rfl,rfl⟩;go_wp2
 go_ret2
 exact ⟨rfl,k,rfl⟩
theorem pn (R B size:Nat) (l:List UInt8) (v:Value) (x0 x1 x2 x3 x5 x6 x7:Value) (w:World) (hs:size≤2) (h:size≤l.length) (hB:B<w.heap.size) (hne:B≠R) (hv:Rest w B v l) (hR:w.heap[R]?=some (.cells #[x0,x1,x2,x3,v,x5,x6,x7] 253)) :
  Calls prog 216 #[.pointer (some ⟨R,0,none⟩),.int .i64 size] w fun e w'=>e=.returned (.tuple #[.int .i64 (ax (l.take size):Nat),.nilIface])∧ts w w' R B (l.drop size) x0 x1 x2 x3 x5 x6 x7:=by
 obtain ⟨off,cap,rfl,hcap,hl⟩:=hv;have C:=aa (nn R B off l.length cap size x0 x1 x2 x3 x5 x6 x7 w h hcap hR);have HL:=aa hl;have hlen:(l.take size).length=size:=by rw [List.length_take];omega
 have C2:=aa fun v=>rL B off size (l.take size) v (by omega)
 rw [hlen] at C2;generalize ax (l.take size)=M at *;clear hR hl hlen;go_enter func216,ntmps216
 go_wp2_with fail
 refine (uh C).mono ?_;rintro e w1 ⟨rfl,ht⟩;obtain ⟨ht1,ht2⟩:=jJ ht (uh HL) hB hne;clear ht C;go_wp2_with fail
 refine (uh C2 _ ht2).mono ?_;rintro e w2 ⟨rfl,hw2⟩;go_wp2
 go_ret2
 exact ⟨rfl,hw2 ▸ ht1⟩
def HoldsK (W:World) (base:Nat) (v:Value) (P:List Op.Pk):Prop :=
 (v=.slice none 0 0∧P=[])∨∃ g o cp cur,v=.slice (some ⟨g,o,none⟩) P.length cp∧W.heap[g]?=some (.cells cur 32)∧base≤g∧P.length≤cp∧o+cp*3≤cur.size∧∀ j,j<P.length*3→cur[o+j]?=(ae P)[j]?
theorem HoldsK.form {W:World} {base:Nat} {v:Value} {P:List Op.Pk} (h:HoldsK W base v P):∃ a c,v=.slice a P.length c:=by
 rcases h with ⟨rfl,rfl⟩ | ⟨g,o,cp,cur,rfl,_⟩
 ·exact ⟨_,_,rfl⟩
 ·exact ⟨_,_,rfl⟩
theorem HoldsK.keep {W W':World} {base:Nat} {v:Value} {P:List Op.Pk} (h:HoldsK W base v P) (k:∀ g cur,v.ownBlock=some g→base≤g→W.heap[g]?=some (.cells cur 32)→W'.heap[g]?=W.heap[g]?):HoldsK W' base v P :=
 h.imp id fun ⟨g,o,cp,cur,e,h2,h3,h4⟩=>⟨g,o,cp,cur,e,(k g cur (by rw [e];rfl) h3 h2).trans h2,h3,h4⟩
theorem HoldsK.own {W:World} {base:Nat} {v:Value} {P:List Op.Pk} (h:W.ownsRow base 32 3 v P.length (ae P)):HoldsK W base v P:=by
 rcases h.2 with ⟨h1,h2⟩ | ⟨g,cap,cur,h1,hb,h3,h4,_,h6,h7⟩
 ·exact Or.inl ⟨h1,List.eq_nil_of_length_eq_zero h2⟩
 ·refine Or.inr ⟨g,0,cap,cur,h1,h3,hb,h4,by omega,fun j hj=>?_⟩;rw [Nat.zero_add,← h7,List.getElem?_take,if_pos hj,Array.getElem?_toList]
theorem HoldsK.first {W:World} {base:Nat} {v:Value} {p:Op.Pk} {P:List Op.Pk} (h:HoldsK W base v (p :: P)):∃ g o cp,v=.slice (some ⟨g,o,none⟩) (P.length+1) (cp+1)∧W.cell? ⟨g,o,none⟩=some (.int .i64 p.code)∧W.cell? ⟨g,o+1,none⟩=some (.int .i64 p.id)∧W.cell? ⟨g,o+2,none⟩=some (.string p.data)∧HoldsK W base (.slice (some ⟨g,o+3,none⟩) P.length cp) P∧(cp=0→HoldsK W base (.slice (some ⟨g,o,none⟩) P.length 0) P):=by
 rcases h with ⟨_,e⟩ | ⟨g,o,cp,cur,rfl,h2,h3,h4,h5,h6⟩
 ·cases e
 ·rw [List.length_cons] at h4 h6 ⊢;obtain ⟨k,rfl⟩:∃ k,cp=k+1:=⟨cp - 1,by omega⟩;have e:ae (p :: P)=.int .i64 p.code :: .int .i64 p.id :: .string p.data :: ae P:=rfl;refine ⟨g,o,k,rfl,?_,?_,?_,Or.inr ⟨g,o+3,k,cur,rfl,h2,h3,by omega,by omega,fun j hj=>?_⟩,fun hk=>?_⟩
  ·rw [cr h2];exact h6 0 (by omega)
  ·rw [cr h2];exact h6 1 (by omega)
  ·rw [cr h2];exact h6 2 (by omega)
  ·have:=h6 (j+3) (by omega)
   rw [show o+3+j=o+(j+3) by omega,this,e];rfl
  ·have:P=[]:=List.eq_nil_of_length_eq_zero (by omega)
   subst this;exact Or.inr ⟨g,o,0,cur,rfl,h2,h3,zD _,by omega,fun j hj=>absurd hj (by simp)⟩
theorem cM {n g:Nat} {a:World} (hg:n≤g):∀ (vs:List Value) (o:Nat) (W:World),Below n a W→Below n a (W.setCells g o vs)
 | [],_,_,h=>h
 | v :: vs,o,W,h=>cM hg vs (o+1) (W.setCell ⟨g,o,none⟩ v) (h.setCell (p:=⟨g,o,none⟩) hg v)
theorem bu {g k:Nat} (hk:k≠g):∀ (vs:List Value) (o:Nat) (W:World),(W.setCells g o vs).heap[k]?=W.heap[k]?
 | [],_,_=>rfl
 | v :: vs,o,W=>(bu hk vs (o+1) (W.setCell ⟨g,o,none⟩ v)).trans (Below.heap_setCell _ ⟨g,o,none⟩ _ _ hk)
theorem HoldsP.news {W:World} {F:List Op.Pk} {g cs:Nat} {cur:Array Value} (h1:W.heap[g]?=some (.cells cur 32)) (h2:∀ j,j<F.length*3→cur[j]?=(ae F)[j]?) (_:cs=cs):∀ j u,(ae F)[j]?=some u→W.cell? ((⟨g,0,none⟩:Addr).add j)=some u:=fun j u hu=>by
 have hj:j<F.length*3:=by have:=(List.getElem?_eq_some_iff.1 hu).1;rw [aF] at this;exact this
 rw [Addr.add_lit,Nat.zero_add,cr h1,h2 j hj];exact hu
theorem HoldsK.tail {W:World} {base g o n cp:Nat} {Q:List Op.Pk} {b:Addr} (h:HoldsK W base (.slice (some ⟨g,o,none⟩) (n+1) (cp+1)) Q) (hb:0<cp→b=⟨g,o+3,none⟩) (hb2:b=⟨g,o+3,none⟩∨b=⟨g,o,none⟩):∃ p P,Q=p :: P∧P.length=n∧HoldsK W base (.slice (some b) n cp) P:=by
 obtain ⟨a,c,e⟩:=h.form;injection e with _ e _;match Q,h,e with
 | [],_,e=>simp at e
 | p :: P,h,e =>
  rw [List.length_cons] at e;have e':P.length=n:=by omega
  subst e';obtain ⟨g',o',cp',e1,_,_,_,h1,h2⟩:=h.first;injection e1 with e1 _ e2;injection e1 with e1;injection e1 with e1 e3 _;have e4:cp=cp':=by omega
  subst e1 e3 e4;refine ⟨p,P,rfl,rfl,?_⟩;by_cases hc:0<cp
  ·rw [hb hc];exact h1
  ·have hc0:cp=0:=by omega
   subst hc0;rcases hb2 with rfl | rfl
   ·exact h1
   ·exact h2 rfl
theorem cH {B:Nat} {T:TypeId}:∀ (Y vs X Z:List Value) (W:World),W.heap[B]?=some (.cells (X ++ Y ++ Z).toArray T)→vs.length=Y.length→(W.setCells B X.length vs).heap[B]?=some (.cells (X ++ vs ++ Z).toArray T)
 | [],vs,X,Z,W,h,e=>by
  have:=List.eq_nil_of_length_eq_zero e
  subst this;exact h
 | y :: Y,[],X,Z,W,h,e=>by simp at e
 | y :: Y,v :: vs,X,Z,W,h,e=>by
  have h1:=zH _ _ X.length _ _ v h;have h2:(X ++ y :: Y ++ Z).toArray.setIfInBounds X.length v=((X ++ [v]) ++ Y ++ Z).toArray:=by
   simp
  rw [h2] at h1;have h3:=cH Y vs (X ++ [v]) Z _ h1 (by simpa using e);rw [List.length_append,List.length_singleton] at h3;rw [show X ++ v :: vs ++ Z=X ++ [v] ++ vs ++ Z by simp];exact h3
theorem aS {W:World} {B:Nat} {X Y Z:List Value} {T:TypeId} (h:W.heap[B]?=some (.cells (X ++ Y ++ Z).toArray T)):W.rangeAt B X.length Y:=fun j v hj=>by
 rw [cr h];have:=(List.getElem?_eq_some_iff.1 hj).1
 rw [List.getElem?_toArray,List.append_assoc,List.getElem?_append_right (by omega),List.getElem?_append_left (by omega),Nat.add_sub_cancel_left];exact hj
theorem bI {W:World} {B:Nat} {X Z:List Value} {v:Value} {T:TypeId} (h:W.heap[B]?=some (.cells (X ++ [v] ++ Z).toArray T)):W.cell? ⟨B,X.length,none⟩=some v:=aS h 0 v rfl
structure Fr (B:Nat) (v v':Value) (W W':World):Prop where
 os:W'.os=W.os
 tape:W'.tape=W.tape
 output:W'.output=W.output
 size:W.heap.size≤W'.heap.size
 same:∀ k,k<W.heap.size→k≠B→v.ownBlock≠some k→W'.heap[k]?=W.heap[k]?
 own:∀ g,v'.ownBlock=some g→v.ownBlock=some g∨W.heap.size≤g
theorem Fr.trans {B:Nat} {v v' v'':Value} {W W' W'':World} (h:Fr B v v' W W') (k:Fr B v' v'' W' W''):Fr B v v'' W W'' :=
 ⟨k.os.trans h.os,k.tape.trans h.tape,k.output.trans h.output,zE h.size k.size,fun i hi h1 h2=>(k.same i (Nat.lt_of_lt_of_le hi h.size) h1 fun e=>(h.own i e).elim (fun e=>h2 e) (fun e=>by omega)).trans (h.same i hi h1 h2),
  fun g hg=>(k.own g hg).elim (h.own g) (fun e=>Or.inr (zE h.size e))⟩
theorem Fr.of_below {B:Nat} {v:Value} {W W':World} (h:Below W.heap.size W W'):Fr B v v W W' :=
 ⟨h.os,h.tape,h.output,h.size,fun k hk _ _=>h.block k hk,fun _ hg=>Or.inl hg⟩
theorem Fr.refl (B:Nat) (v:Value) (W:World):Fr B v v W W:=Fr.of_below (zC _ _)
theorem Fr.grown {B:Nat} {v v':Value} {W W':World} (hg:W.grownBy W' v.ownBlock) (ho:∀ g,v'.ownBlock=some g→v.ownBlock=some g∨W.heap.size≤g):Fr B v v' W W' :=
 ⟨hg.os,hg.tape,hg.output,hg.size,fun k hk _ h2=>hg.block k hk (fun e=>h2 e.symm),ho⟩
theorem Fr.cells {B:Nat} (v v':Value) (W:World) (ho:∀ g,v'.ownBlock=some g→v.ownBlock=some g∨W.heap.size≤g) (o:Nat) (vs:List Value):Fr B v v' W (W.setCells B o vs):=by
 have hb:=cM (n:=0) (g:=B) (a:=W) (Nat.zero_le _) vs o W (zC 0 W);exact ⟨hb.os,hb.tape,hb.output,hb.size,fun k _ h1 _=>bu h1 vs o W,ho⟩
structure Wr (base:Nat) (T:TypeId) (W:World) (B:Nat) (X Z:List Value) (v:Value) (L:List Op.Pk):Prop where
 row:W.heap[B]?=some (.cells (X ++ [v] ++ Z).toArray T)
 hk:HoldsK W base v L
 le:L.length≤40
 bs:base≤W.heap.size
 nT:T≠32
section
variable {base:Nat} {T:TypeId} {W W':World} {B:Nat} {X Z:List Value} {v:Value} {L:List Op.Pk}
theorem Wr.ownB (h:Wr base T W B X Z v L) (g:Nat) (hg:v.ownBlock=some g):g≠B∧base≤g∧g<W.heap.size∧∃ cur,W.heap[g]?=some (.cells cur 32):=by
 rcases h.hk with ⟨rfl,_⟩ | ⟨g',o,cp,cur,rfl,h2,h3,_⟩
 ·cases hg
 ·cases hg;refine ⟨fun (e:g'=B)=>?_,h3,(ge.1 h2).1,cur,h2⟩;rw [e,h.row] at h2;injection h2 with h2;injection h2 with _ h2;exact h.nT h2
theorem Wr.lt (h:Wr base T W B X Z v L):B<W.heap.size:=(ge.1 h.row).1
theorem Wr.below (h:Wr base T W B X Z v L) (hb:Below W.heap.size W W'):Wr base T W' B X Z v L :=
 ⟨(hb.block B h.lt).trans h.row,h.hk.keep fun g _ hg _ _=>hb.block g (h.ownB g hg).2.2.1,h.le,zE h.bs hb.size,h.nT⟩
theorem Wr.set (h:Wr base T W B X Z v L) {v':Value} {L':List Op.Pk} (hk:HoldsK W base v' L') (le:L'.length≤40):Wr base T (W.setCell ⟨B,X.length,none⟩ v') B X Z v' L':=by
 have h1:=cH [v] [v'] X Z W h.row rfl;refine ⟨h1,hk.keep fun g cur hg _ h2=>heap_setCell_other _ _ _ _ (fun e=>?_),le,zE h.bs (((zC 0 W).setCell (p:=⟨B,X.length,none⟩) (Nat.zero_le _) _).size),h.nT⟩;have e':g=B:=e;rw [e',h.row] at h2;injection h2 with h2;injection h2 with _ h2;exact h.nT h2
end
def ry:Nat→Nat→ByteArray→ByteArray
 | 0,_,o=>o
 | f+1,k,o=>if k=0 then o else ry f (k / 10) (strOfNums [((48+k % 10:Nat):Int)] ++ o)
def rC (k:Nat):ByteArray:=⟨#[109]⟩ ++ ry k k ⟨#[]⟩
theorem yZ (c:UInt8):bits .xor .u8 (c.toNat:Int) 32=((c ^^^ 0x20).toNat:Int):=by
 have:=u8_xor_nat c.toNat 32 c.toNat_lt (by decide)
 rw [UInt8.toNat_xor];exact this
theorem vd (a:Nat) (c:UInt8) (P:Prop)
  (h1:((c.toNat:Int) == 126)=true→Hd.stuff1 a c=[0x7d,c ^^^ 0x20]→P)
  (h2:((c.toNat:Int) == 126)=false→((c.toNat:Int) == 125)=true→Hd.stuff1 a c=[0x7d,c ^^^ 0x20]→P)
  (h3:((c.toNat:Int) == 126)=false→((c.toNat:Int) == 125)=false→Hd.mapped a c=true→Hd.stuff1 a c=[0x7d,c ^^^ 0x20]→P)
  (h4:((c.toNat:Int) == 126)=false→((c.toNat:Int) == 125)=false→Hd.mapped a c=false→Hd.stuff1 a c=[c]→P):P:=by
 by_cases e1:c=0x7e
 ·subst e1;exact h1 rfl (by simp [Hd.stuff1,Hd.odd])
 ·have d1:((c.toNat:Int) == 126)=false:=vC e1;by_cases e2:c=0x7d
  ·subst e2;exact h2 rfl rfl (by simp [Hd.stuff1,Hd.odd])
  ·have d2:((c.toNat:Int) == 125)=false:=vC e2;cases hm:Hd.mapped a c
   ·exact h4 d1 d2 hm (by simp [Hd.stuff1,Hd.odd,e1,e2,hm])
   ·exact h3 d1 d2 hm (by simp [Hd.stuff1,Hd.odd,hm])
theorem sX (t:ByteArray) (a:Nat) (w:World) (ha:a<4294967296) (ht:t.size≤8000) :
  Calls prog 20 #[.string t,.int .i64 a] w fun e w'=>e=.returned (.string (co (Hd.stuff a t.data.toList)))∧Below w.heap.size w w':=by
 have d0:¬ ((8000:Int)<(t.size:Int)):=by omega
 have c1:=oB a w;rw [lV ha] at c1;go_enter func20,ntmps20
 go_wp2_with (first
  | (go_at_call 19;refine c1.mono ?_;rintro e w1 ⟨rfl,hw⟩;replace hw:=hw.symm;subst hw)
  | (go_at_call 33;refine (nA a _).mono ?_;rintro e w1 ⟨rfl,rfl⟩)
  | (at_make;refine nh rfl _ _ rfl (w.heap.size+1) _ (2*t.size) rfl rfl (by go_num) (by omega) (by simp) ?_;rintro v0 w2 ho2 hb2;have HO2:=aa ho2;have HB2:=aa hb2;clear ho2 hb2))
 go_loopw [6,7] (fun v i wr=>∃ (k:Nat),k≤t.size∧i=.int .i64 k∧wr.ownsRow (w.heap.size+1) 5 1 v (Hd.stuff a (t.data.toList.take k)).length (bh (Hd.stuff a (t.data.toList.take k)))∧Below (w.heap.size+1) (w.alloc (.cells #[.int .i64 a] 2)) wr) (fun _ i _=>t.size - (intOf i).toNat)
 case atStart=>exact ⟨0,Nat.zero_le _,rfl,uh HO2,uh HB2⟩
 case round =>
  obtain ⟨k,hk,rfl,hown,hb1⟩:=hrel;have hcell:wr.cell? ⟨w.heap.size,0,none⟩=some (.int .i64 a):=by
   rw [hb1.cell (p:=⟨w.heap.size,0,none⟩) (Nat.lt_succ_self _),World.cell?_alloc_at _ _ _ _ rfl];rfl
  by_cases hlt:k<t.size
  ·have hn:=Hd.stuff_len a (t.data.toList.take k);rw [List.length_take] at hn;have HS:Hid (Hd.stuff a (t.data.toList.take (k+1))=Hd.stuff a (t.data.toList.take k) ++ Hd.stuff1 a t[k]):=by
    refine aa ?_;rw [fg t k hlt,Hd.stuff_snoc]
   have hn2:(Hd.stuff a (t.data.toList.take k)).length≤200000:=by omega
   generalize Hd.stuff a (t.data.toList.take k)=L at *;have C:=aa (ij a t[k] w.heap.size wr ha hcell);have hxo:=yZ t[k];have hsz:w.heap.size+1≤wr.heap.size:=by simpa using hb1.size
   have HO:=aa hown;clear hown hn hcell HO2 HB2;refine vd a t[k] _ (fun d1 hs=>?_) (fun d1 d2 hs=>?_) (fun d1 d2 d3 hs=>?_) (fun d1 d2 d3 hs=>?_);case' refine_1=>have HT:Hid (Hd.stuff a (t.data.toList.take (k+1))=L ++ [0x7d,t[k] ^^^ 0x20]):=aa (by rw [uh HS,hs])
   case' refine_2=>have HT:Hid (Hd.stuff a (t.data.toList.take (k+1))=L ++ [0x7d,t[k] ^^^ 0x20]):=aa (by rw [uh HS,hs])
   case' refine_3=>have HT:Hid (Hd.stuff a (t.data.toList.take (k+1))=L ++ [0x7d,t[k] ^^^ 0x20]):=aa (by rw [uh HS,hs])
   case' refine_4=>have HT:Hid (Hd.stuff a (t.data.toList.take (k+1))=L ++ [t[k]]):=aa (by rw [uh HS,hs])
   all_goals clear hs HS
   case' refine_3=>rw [d3] at C
   case' refine_4=>rw [d3] at C
   all_goals
    try generalize (t[k] ^^^ 0x20)=c' at *
    go_wp2_with (first
     | (go_at_call 75;refine (uh C).mono ?_;rintro e w1 ⟨rfl,rfl⟩)
     | (at_builtin;refine iH rfl _ _ rfl (w.heap.size+1) u6 L [0x7d,c'] rfl (uh HO) 2 rfl rfl rfl (by simp;omega) hsz ?_;rintro v' w2 ho2 hb2;have HO2:=aa ho2;clear ho2)
     | (at_builtin;refine iH rfl _ _ rfl (w.heap.size+1) u6 L [t[k]] rfl (uh HO) 1 rfl rfl rfl (by simp;omega) hsz ?_;rintro v' w2 ho2 hb2;have HO2:=aa ho2;clear ho2))
    go_roundw
    case rel =>
     refine ⟨k+1,by omega,by go_num,?_,hb1.trans hb2⟩;rw [uh HT];exact uh HO2
    case measure=>simp [intOf];omega
  ·have hlt':¬ ((k:Int)<(t.size:Int)):=by omega
   have hcv:=eK hown;rw [List.take_of_length_le (by simp;omega)] at hcv;go_wp2
   go_ret
   exact ⟨rfl,((zC _ _).alloc (zD _) _).trans (hb1.mono (Nat.le_succ _))⟩
theorem nM (n:Nat) (h:n<65536):bits .and .u16 (n:Int) 1=((n % 2:Nat):Int):=by
 have:=u16_and_nat n 1 h (by decide)
 rw [nat_mask1] at this;exact this
theorem ve (n r:Nat) (h:n<65536) (hr:r<65536):bits .xor .u16 ((n:Int) / 2) (r:Int)=((n / 2 ^^^ r:Nat):Int):=by
 have:=u16_xor_nat (n / 2) r (by omega) hr
 rw [← this];rfl
theorem kJ (r s k:Nat) (hs:s<65536) (hr:r<65536):Fcs.stp r k s<65536:=Fcs.stp_lt (n:=16) hr hs k
theorem sY (s r:Nat) (w:World) (hs:s<65536) (hr:r<65536) :
  Calls prog 87 #[.int .u16 s,.int .u16 r] w fun e w'=>e=.returned (.int .u16 (Fcs.stp r 8 s:Nat))∧w'=w:=by
 go_enter func87,ntmps87
 go_wp2
 go_loop [0,6] (fun x i=>∃ (k:Nat),k≤8∧i=.int .i64 k∧x=.int .u16 (Fcs.stp r k s:Nat)) (fun _ i=>8 - (intOf i).toNat)
 case atStart=>exact ⟨0,by omega,rfl,rfl⟩
 case round =>
  obtain ⟨k,hk,rfl,rfl⟩:=hrel;have hn:=kJ r s k hs hr;have HS:Hid (Fcs.stp r (k+1) s=Fcs.step r (Fcs.stp r k s)):=aa rfl;generalize hg:Fcs.stp r k s=n at *;have HG:=aa hg;clear hg;by_cases hlt:k<8
  ·by_cases hodd:n % 2=1
   ·have hb:(bits .and .u16 (n:Int) 1 == 1)=true:=by rw [nM n hn,hodd];rfl
    have HB:=aa hodd;clear hodd;go_wp2
    go_round
    case rel=>exact ⟨k+1,by omega,by go_num,by rw [uh HS,ve n r hn hr,Fcs.step,if_pos (uh HB)]⟩
    case measure=>simp [intOf];omega
   ·have hb:(bits .and .u16 (n:Int) 1 == 1)=false:=by
     rw [nM n hn,show n % 2=0 by omega];rfl
    have HB:=aa hodd;clear hodd;go_wp2
    go_round
    case rel=>exact ⟨k+1,by omega,by go_num,by rw [uh HS,Fcs.step,if_neg (uh HB)];rfl⟩
    case measure=>simp [intOf];omega
  ·have e8:k=8:=by omega
   have HK:=aa e8;clear e8;go_wp2
   go_ret
   refine ⟨j8 ?_,rfl⟩;rw [← uh HG,uh HK]
theorem nQ (n:Nat) (h:n<4294967296):bits .and .u32 (n:Int) 1=((n % 2:Nat):Int):=by
 have:=u32_and_nat n 1 h (by decide)
 rw [nat_mask1] at this;exact this
theorem vg (n r:Nat) (h:n<4294967296) (hr:r<4294967296):bits .xor .u32 ((n:Int) / 2) (r:Int)=((n / 2 ^^^ r:Nat):Int):=by
 have:=u32_xor_nat (n / 2) r (by omega) hr
 rw [← this];rfl
theorem kL (r s k:Nat) (hs:s<4294967296) (hr:r<4294967296):Fcs.stp r k s<4294967296:=Fcs.stp_lt (n:=32) hr hs k
theorem s4 (s r:Nat) (w:World) (hs:s<4294967296) (hr:r<4294967296) :
  Calls prog 85 #[.int .u32 s,.int .u32 r] w fun e w'=>e=.returned (.int .u32 (Fcs.stp r 8 s:Nat))∧w'=w:=by
 go_enter func85,ntmps85
 go_wp2
 go_loop [0,6] (fun x i=>∃ (k:Nat),k≤8∧i=.int .i64 k∧x=.int .u32 (Fcs.stp r k s:Nat)) (fun _ i=>8 - (intOf i).toNat)
 case atStart=>exact ⟨0,by omega,rfl,rfl⟩
 case round =>
  obtain ⟨k,hk,rfl,rfl⟩:=hrel;have hn:=kL r s k hs hr;have HS:Hid (Fcs.stp r (k+1) s=Fcs.step r (Fcs.stp r k s)):=aa rfl;generalize hg:Fcs.stp r k s=n at *;have HG:=aa hg;clear hg;by_cases hlt:k<8
  ·by_cases hodd:n % 2=1
   ·have hb:(bits .and .u32 (n:Int) 1 == 1)=true:=by rw [nQ n hn,hodd];rfl
    have HB:=aa hodd;clear hodd;go_wp2
    go_round
    case rel=>exact ⟨k+1,by omega,by go_num,by rw [uh HS,vg n r hn hr,Fcs.step,if_pos (uh HB)]⟩
    case measure=>simp [intOf];omega
   ·have hb:(bits .and .u32 (n:Int) 1 == 1)=false:=by
     rw [nQ n hn,show n % 2=0 by omega];rfl
    have HB:=aa hodd;clear hodd;go_wp2
    go_round
    case rel=>exact ⟨k+1,by omega,by go_num,by rw [uh HS,Fcs.step,if_neg (uh HB)];rfl⟩
    case measure=>simp [intOf];omega
  ·have e8:k=8:=by omega
   have HK:=aa e8;clear e8;go_wp2
   go_ret
   refine ⟨j8 ?_,rfl⟩;rw [← uh HG,uh HK]
theorem eN (w:World) (c c':Array Value) (t:TypeId) (o:Obj) :
  ((w.alloc (.cells c t)).alloc o).setRow w.heap.size c'=(w.alloc (.cells c' t)).alloc o:=by
 simp only [World.setRow,World.alloc];congr 1
 apply Array.ext_getElem?
 intro i;rw [Array.getElem?_modify];by_cases h:w.heap.size=i
 ·subst h;simp [Array.getElem?_push]
 ·have h':¬ i=w.heap.size:=fun e=>h e.symm
  simp [h,h',Array.getElem?_push]
theorem cR (w:World) (o o':Obj):((w.alloc o).alloc o').heap[w.heap.size]?=some o:=by
 show ((w.heap.push o).push o')[w.heap.size]?=some o
 simp [Array.getElem?_push]
theorem gx (w:World) (o o':Obj):((w.alloc o).alloc o').heap[w.heap.size+1]?=some o':=by
 have:=heap_alloc_last (w.alloc o) o'
 have e:(w.alloc o).heap.size=w.heap.size+1:=by simp
 rw [e] at this;exact this
theorem dW {fn:Func} {p:Tmp} {ty:TypeId} (h:fn.results=#[.cell p ty]) (tmps:Array Value) (P:Program) (w:World) :
  (results fn tmps).run P w=((asAddr (tmps.getD p undef)).run P w).andThen fun a w₁=>(loadVar ty a).run P w₁:=by
 simp only [results,h];simp [Sem.run_bind,Result.andThen]
theorem bf {P:Program} (w:World) {ops:Array Oper} {rest:List Oper} {o:Oper} {a:Act} {Q:Exit→Act→World→Prop}
  (hg:o.guard=none) (t:TypeId) (p:Operand) (hop:o.op=Op.load t p) (g:Nat) (c:Array Value) (n:Nat) (e:TypeId)
  (hp:a.eval p=.pointer (some ⟨g,0,none⟩)) (hh:w.heap[g]?=some (.cells c t (0,0))) (hu:P.underlying t=some (.array n e))
  (hi:(P.info? t).map (·.size)=some c.size) (hK:wpList P ops Q rest (a.put o.dst (.agg c)) w):wpList P ops Q (o :: rest) a w:=by
 refine wpList_plain hg fun K hK'=>?_
 have hrun:(Instr.loadAt t (.pointer (some ⟨g,0,none⟩))).run P w=.ok (.agg c) w:=by
  simp only [Instr.loadAt,Instr.sureAddr,Sem.run_bind,Sem.run_pure,Result.andThen];exact run_loadVar_row w g t t c (0,0) _ hh hu rfl hi
 unfold Oper.wp;simp [execOp,hop,hp,hrun,Result.andThen];exact hK' _ _ hK
theorem cV {P:Program} (w:World) {ops:Array Oper} {rest:List Oper} {o:Oper} {a:Act} {Q:Exit→Act→World→Prop}
  (hg:o.guard=none) (t:TypeId) (p x:Operand) (hop:o.op=Op.store t p x) (g:Nat) (old c:Array Value)
  (hp:a.eval p=.pointer (some ⟨g,0,none⟩)) (hx:a.eval x=.agg c) (hh:w.heap[g]?=some (.cells old t (0,0)))
  (hi:(P.info? t).map (·.size)=some c.size) (ho:old.size=c.size) (h1:c.all (·.oneCell')=true)
  (hK:wpList P ops Q rest (a.put o.dst undef) (w.setRow g c)):wpList P ops Q (o :: rest) a w:=by
 refine wpList_plain hg fun K hK'=>?_
 have hrun:(Instr.storeAt t (.pointer (some ⟨g,0,none⟩)) (.agg c)).run P w=.ok () (w.setRow g c):=by
  simp only [Instr.storeAt,Instr.sureAddr,Sem.run_bind,Sem.run_pure,Result.andThen];exact run_storeVar_row w g t t old c hh hi ho h1
 unfold Oper.wp;simp [execOp,hop,hp,hx,hrun,Result.andThen];exact hK' _ _ hK
def cu (K:IntKind) (r k:Nat):Array Value:=(Array.range 256).map fun j=>.int K (if j<k then (Fcs.stp r 8 j:Nat) else 0)
theorem da (K:IntKind) (r k:Nat):(cu K r k).size=256:=by simp [cu]
theorem lW (K:IntKind) (r:Nat):cu K r 0=Array.replicate 256 (.int K 0):=by
 apply Array.ext_getElem?
 intro i;simp only [cu,Array.getElem?_map,Array.getElem?_range,Array.getElem?_replicate];by_cases h:i<256<;>simp [h]
theorem lX (K:IntKind) (r k:Nat) (h:k<256):(cu K r k).setIfInBounds k (.int K (Fcs.stp r 8 k:Nat))=cu K r (k+1):=by
 apply Array.ext_getElem?
 intro i;rw [Array.getElem?_setIfInBounds,da];simp only [cu,Array.getElem?_map,Array.getElem?_range];by_cases hi:k=i
 ·subst hi;simp [h]
 ·by_cases h2:i<256
  ·by_cases h3:i<k
   ·have:i<k+1:=by omega
    simp [hi,h2,h3,this]
   ·have:¬ i<k+1:=by omega
    simp [hi,h2,h3,this]
  ·simp [hi,h2]
theorem rj (K:IntKind) (r j:Nat) (h:j<256):(cu K r 256)[j]?=some (.int K (Fcs.stp r 8 j:Nat)):=by
 simp [cu,h]
theorem iS (K:IntKind) (r k:Nat):(cu K r k).all (·.oneCell')=true:=by
 rw [Array.all_eq_true];intro i hi;simp [cu,Value.oneCell']
theorem fE:(prog.info? 101).map (fun i=>(i.zero,i.size))=some (some (.agg (Array.replicate 256 (.int .u16 0))),256):=by kernel_rfl
theorem s5 (r:Nat) (w:World) (hr:r<65536) :
  Calls prog 78 #[.int .u16 r] w fun e w'=>e=.returned (.agg (cu .u16 r 256))∧w'=(w.alloc (.cells (cu .u16 r 256) 101)).alloc (.cells (cu .u16 r 256) 101):=by
 have hv:=(zero_of_info fE).1;have hi:=(zero_of_info fE).2;go_enter func78,ntmps78
 go_wp2_with fail
 rw [← lW .u16 r];generalize hc0:cu .u16 r 0=c0;have hs0:c0.size=256:=by rw [← hc0,da]
 have HC0:=aa hc0;go_loopw [5] (fun i wr=>∃ k:Nat,k≤256∧i=.int .i64 k∧wr=(w.alloc (.cells c0 101)).alloc (.cells (cu .u16 r k) 101)) (fun i _=>256 - (intOf i).toNat)
 case atStart=>exact ⟨0,by omega,rfl,by rw [uh HC0]⟩
 case round =>
  obtain ⟨k,hk,rfl,rfl⟩:=hrel;clear hc0;by_cases hlt:k<256
  ·have hlt':(k:Int)<256:=by omega
   have hsz:=da .u16 r k;go_wp2_with fail
   refine (sY k r _ (by omega) hr).mono ?_;rintro e w' ⟨rfl,rfl⟩;go_wp2
   go_roundw
   case rel=>exact ⟨k+1,by omega,by go_num,by rw [← lX .u16 r k hlt]⟩
   case measure=>simp [intOf];omega
  ·obtain rfl:k=256:=by omega
   have hsz:=da .u16 r 256;have hld:=run_loadVar_row (P:=prog) ((w.alloc (.cells (cu .u16 r 256) 101)).alloc (.cells (cu .u16 r 256) 101)) w.heap.size 101 101 (cu .u16 r 256) (0,0) _ (cR w _ _) underlying101 rfl (by rw [hsz];exact hi)
   go_wp2_with (first
    | (refine bf _ rfl 101 _ rfl (w.heap.size+1) (cu .u16 r 256) 256 _ rfl (gx w _ _) underlying101 (by rw [hsz];exact hi) ?_)
    | (refine cV _ rfl 101 _ _ rfl w.heap.size c0 (cu .u16 r 256) rfl rfl (cR w _ _) (by rw [hsz];exact hi) (by rw [hsz,hs0]) (iS _ _ _) ?_;rw [eN]))
   refine bodyPost_ret (v:=.agg (cu .u16 r 256)) ?_ rfl ⟨rfl,rfl⟩;rw [dW rfl];simp [asAddr,Result.andThen,Act.put,hld]
theorem fF:(prog.info? 97).map (fun i=>(i.zero,i.size))=some (some (.agg (Array.replicate 256 (.int .u32 0))),256):=by kernel_rfl
theorem s6 (r:Nat) (w:World) (hr:r<4294967296) :
  Calls prog 76 #[.int .u32 r] w fun e w'=>e=.returned (.agg (cu .u32 r 256))∧w'=(w.alloc (.cells (cu .u32 r 256) 97)).alloc (.cells (cu .u32 r 256) 97):=by
 have hv:=(zero_of_info fF).1;have hi:=(zero_of_info fF).2;go_enter func76,ntmps76
 go_wp2_with fail
 rw [← lW .u32 r];generalize hc0:cu .u32 r 0=c0;have hs0:c0.size=256:=by rw [← hc0,da]
 have HC0:=aa hc0;go_loopw [5] (fun i wr=>∃ k:Nat,k≤256∧i=.int .i64 k∧wr=(w.alloc (.cells c0 97)).alloc (.cells (cu .u32 r k) 97)) (fun i _=>256 - (intOf i).toNat)
 case atStart=>exact ⟨0,by omega,rfl,by rw [uh HC0]⟩
 case round =>
  obtain ⟨k,hk,rfl,rfl⟩:=hrel;clear hc0;by_cases hlt:k<256
  ·have hlt':(k:Int)<256:=by omega
   have hsz:=da .u32 r k;go_wp2_with fail
   refine (s4 k r _ (by omega) hr).mono ?_;rintro e w' ⟨rfl,rfl⟩;go_wp2
   go_roundw
   case rel=>exact ⟨k+1,by omega,by go_num,by rw [← lX .u32 r k hlt]⟩
   case measure=>simp [intOf];omega
  ·obtain rfl:k=256:=by omega
   have hsz:=da .u32 r 256;have hld:=run_loadVar_row (P:=prog) ((w.alloc (.cells (cu .u32 r 256) 97)).alloc (.cells (cu .u32 r 256) 97)) w.heap.size 97 97 (cu .u32 r 256) (0,0) _ (cR w _ _) underlying97 rfl (by rw [hsz];exact hi)
   go_wp2_with (first
    | (refine bf _ rfl 97 _ rfl (w.heap.size+1) (cu .u32 r 256) 256 _ rfl (gx w _ _) underlying97 (by rw [hsz];exact hi) ?_)
    | (refine cV _ rfl 97 _ _ rfl w.heap.size c0 (cu .u32 r 256) rfl rfl (cR w _ _) (by rw [hsz];exact hi) (by rw [hsz,hs0]) (iS _ _ _) ?_;rw [eN]))
   refine bodyPost_ret (v:=.agg (cu .u32 r 256)) ?_ rfl ⟨rfl,rfl⟩;rw [dW rfl];simp [asAddr,Result.andThen,Act.put,hld]
theorem jW (r s:Nat) (l:List UInt8) (hs:s<4294967296) (hr:r<4294967296):Fcs.sumL r s l<4294967296:=Fcs.sumL_lt (n:=32) (by decide) hr l s hs
theorem jX (r s:Nat) (l:List UInt8) (hs:s<65536) (hr:r<65536):Fcs.sumL r s l<65536:=Fcs.sumL_lt (n:=16) (by decide) hr l s hs
theorem vi (s:ByteArray) (w:World) (hT:Lib.Utf8Tabs 2 3 w) :
  Calls prog 77 #[.string s] w fun e w'=>e=.returned (.tuple #[.int .i32 (Lib.decodeGo s).1,.int .i64 (Lib.decodeGo s).2])∧Below w.heap.size w w' :=
 Any.utf8_DecodeRuneInString Tryz.laysDec s w hT
theorem vj (n b0 b1 b2 b3:Nat) (h:1≤n):(Lib.decodeN n b0 b1 b2 b3).2≤n:=by
 unfold Lib.decodeN;repeat' split
 all_goals simp only []
 all_goals omega
def xI (s:ByteArray) (pos:Nat):Nat:=(Utf8.decode s pos).2
theorem vk (s:ByteArray) (pos:Nat) (h:pos<s.size):pos+xI s pos≤s.size:=by
 unfold xI;rw [Lib.decode_at];have:=vj (s.size - pos) (s.get! pos).toNat (s.get! (pos+1)).toNat (s.get! (pos+2)).toNat (s.get! (pos+3)).toNat (by omega)
 omega
theorem rk (s:ByteArray) (pos:Nat):1≤xI s pos:=by
 unfold xI;rw [Lib.decode_at];unfold Lib.decodeN;repeat' split
 all_goals simp only []
 all_goals omega
theorem nR (s:ByteArray) (pos:Nat) (h:pos<s.size):(Lib.decodeGo (s.extract pos s.size)).2=xI s pos:=by
 unfold Lib.decodeGo xI;rw [Lib.tail_decode,if_neg (by rw [Lib.tail_size];omega),Nat.add_zero]
theorem rl (n b:Nat) (hb:b<256):bits .xor .u8 ((n:Int) % 256) (b:Int)=((n % 256 ^^^ b:Nat):Int)∧n % 256 ^^^ b<256:=by
 refine ⟨?_,Nat.xor_lt_two_pow (n:=8) (by omega) hb⟩;have:=u8_xor_nat (n % 256) b (by omega) hb
 rw [← this];rfl
theorem vl (r n b:Nat) (hn:n<65536) (hr:r<65536) (hb:b<256) :
  bits .xor .u16 ((n:Int) / 256) ((Fcs.stp r 8 (n % 256 ^^^ b):Nat):Int)=((Fcs.stp r 8 (n ^^^ b):Nat):Int):=by
 have hq:=kJ r (n % 256 ^^^ b) 8 (by have:=(rl n b hb).2;omega) hr;rw [← Fcs.table_step r n b hb];have:=u16_xor_nat (n / 256) (Fcs.stp r 8 (n % 256 ^^^ b)) (by omega) hq
 rw [← this];rfl
theorem qi (s r:Nat) (t:ByteArray) (w:World) (hs:s<65536) (hr:r<65536) (ht:t.size≤maxLen)
  (hT:Lib.Utf8Tabs 2 3 w) :
  Calls prog 37 #[.int .u16 s,.int .u16 r,.string t] w fun e w'=>e=.returned (.int .u16 (Fcs.sumL r s t.data.toList:Nat))∧Below w.heap.size w w':=by
 unfold maxLen at ht;have hv:=(zero_of_info fE).1;have hi:=(zero_of_info fE).2;have hsz:=da .u16 r 256;go_enter func37,ntmps37
 go_wp2_with fail
 refine (s5 r _ hr).mono ?_;rintro e w1 ⟨rfl,hw1⟩;have hb1:Below w.heap.size w w1:=by
  rw [hw1];exact ((zC _ _).alloc (zD _) _).alloc (by simp) _
 clear hw1;have hz1:w.heap.size≤w1.heap.size:=hb1.size
 go_wp2_with (first
  | (refine cV _ rfl 101 _ _ rfl w1.heap.size (Array.replicate 256 (.int .u16 0)) (cu .u16 r 256) rfl rfl (heap_alloc_last w1 _) (by rw [hsz];exact hi) (by rw [hsz,Array.size_replicate]) (iS _ _ _) ?_;rw [World.setRow_alloc_new]))
 go_loopw [0] (fun x wr=>∃ pos:Nat,pos≤t.size∧x=.int .u16 (Fcs.sumL r s (t.data.toList.take pos):Nat)∧wr.heap[w1.heap.size+1]?=some (.stringIter t pos)∧(∀ j,j<256→wr.cell? ⟨w1.heap.size,j,none⟩=some (.int .u16 (Fcs.stp r 8 j:Nat)))∧Below w1.heap.size w1 wr) (fun _ wr=>t.size - wr.iterPos (w1.heap.size+1))
 case atStart =>
  refine ⟨0,Nat.zero_le _,rfl,?_,?_,?_⟩
  ·have:=World.iter_heap (w1.alloc (.cells (cu .u16 r 256) 101)) t 0
   simpa using this
  ·intro j hj;have h1:=World.cell?_of_block (w:=w1.alloc (.cells (cu .u16 r 256) 101)) (w':=(w1.alloc (.cells (cu .u16 r 256) 101)).iter t 0) (a:=⟨w1.heap.size,j,none⟩) (by
    simp only [World.iter];exact zG _ _ _ (by simp))
   rw [h1,cell_of_row _ _ j (cu .u16 r 256) 101 (0,0) (heap_alloc_last w1 _)];exact rj .u16 r j hj
  ·exact ((zC _ _).alloc (zD _) _).alloc (by simp) _
 case round =>
  obtain ⟨pos,hpl,rfl,hit,hcl,hbw⟩:=hrel;have hn:Fcs.sumL r s (t.data.toList.take pos)<65536:=jX r s _ hs hr;have hsz1:w1.heap.size+1<wr.heap.size:=(ge.1 hit).1;have HCL:=aa hcl;clear hcl;by_cases hp:pos<t.size
  ·have hnx:∀ ty,(Instr.next (.pointer (some ⟨w1.heap.size+1,0,none⟩)) true ty).run prog wr=_:=fun ty=>Lib.run_next_any_at wr (w1.heap.size+1) t pos ty hit hp
   have hit2:=Lib.iterAt_heap wr (w1.heap.size+1) t pos (pos+(Utf8.decode t pos).2) hit;have hbw2:=Lib.below_iterAt hbw (k:=w1.heap.size+1) (by omega) t (pos+(Utf8.decode t pos).2);have hsz2:w1.heap.size+1<(wr.iterAt (w1.heap.size+1) t (pos+(Utf8.decode t pos).2)).heap.size:=by rw [Lib.iterAt_size];omega
   generalize hw2:wr.iterAt (w1.heap.size+1) t (pos+(Utf8.decode t pos).2)=w2 at *;have HW2:=aa hw2;clear hw2;have hT2:Lib.Utf8Tabs 2 3 w2:=Utf8Tabs_below hT (hb1.trans (hbw2.mono hz1));have HC2:Hid (∀ j,j<256→w2.cell? ⟨w1.heap.size,j,none⟩=some (.int .u16 (Fcs.stp r 8 j:Nat))):=by
    refine aa fun j hj=>?_
    rw [← uh HCL j hj,← uh HW2];exact World.cell?_of_block (Lib.iterAt_other wr (w1.heap.size+1) w1.heap.size t _ (by show w1.heap.size≠w1.heap.size+1;omega))
   go_wp2_with fail
   refine (vi (t.extract pos t.size) w2 hT2).mono ?_;rintro e w3 ⟨rfl,hb3⟩;rw [nR t pos hp];have HC3:Hid (∀ j,j<256→w3.cell? ⟨w1.heap.size,j,none⟩=some (.int .u16 (Fcs.stp r 8 j:Nat))):=by
    refine aa fun j hj=>?_
    rw [← uh HC2 j hj];exact hb3.cell (p:=⟨w1.heap.size,j,none⟩) (by show w1.heap.size<w2.heap.size;omega)
   have hwl:=vk t pos hp;have hwp:=rk t pos;have HD:Hid ((Utf8.decode t pos).2=xI t pos):=rfl;generalize xI t pos=wd at *;go_wp2
   go_loop [0,11] (fun x i=>∃ k:Nat,pos≤k∧k≤pos+wd∧i=.int .i64 k∧x=.int .u16 (Fcs.sumL r s (t.data.toList.take k):Nat)) (fun _ i=>pos+wd - (intOf i).toNat)
   case atStart=>exact ⟨pos,zD _,by omega,rfl,rfl⟩
   case round =>
    obtain ⟨k,hk1,hk2,rfl,rfl⟩:=hrel;clear hn;have hn:Fcs.sumL r s (t.data.toList.take k)<65536:=jX r s _ hs hr;by_cases hlt:k<pos+wd
    ·have hkt:k<t.size:=by omega
     have HS:Hid (Fcs.sumL r s (t.data.toList.take (k+1))=Fcs.stp r 8 (Fcs.sumL r s (t.data.toList.take k) ^^^ t[k].toNat)):=by
      refine aa ?_;rw [fg t k hkt,Fcs.sumL_snoc]
     generalize Fcs.sumL r s (t.data.toList.take k)=n at *;have hb:t[k].toNat<256:=t[k].toNat_lt;have hx8:=rl n t[k].toNat hb;have hx:=vl r n t[k].toNat hn hr hb;obtain ⟨hx8,hm⟩:=hx8;have hc:=uh HC3 _ hm;rw [← uh HS] at hx;generalize n % 256 ^^^ t[k].toNat=m at *;generalize hq:Fcs.sumL r s (t.data.toList.take (k+1))=q at *;have HQ:=aa hq;clear hq;go_wp2
     go_round
     case rel=>exact ⟨k+1,by omega,by omega,by go_num,by rw [uh HQ]⟩
     case measure=>simp [intOf];omega
    ·obtain rfl:k=pos+wd:=by omega
     go_wp2
     go_roundw
     case rel =>
      refine ⟨pos+wd,hwl,rfl,?_,uh HC3,hbw2.trans (hb3.mono (by omega))⟩;rw [hb3.block _ hsz2,hit2,uh HD]
     case measure =>
      have e3:w3.heap[w1.heap.size+1]?=some (.stringIter t (pos+wd)):=by rw [hb3.block _ hsz2,hit2,uh HD]
      simp only [World.iterPos,e3,hit];omega
  ·have hnx:∀ ty,(Instr.next (.pointer (some ⟨w1.heap.size+1,0,none⟩)) true ty).run prog wr=_:=fun ty=>Lib.run_next_end_at wr (w1.heap.size+1) t pos ty hit hp
   go_wp2
   go_ret
   exact ⟨j8 (by rw [List.take_of_length_le (by simp;omega)]),hb1.trans (hbw.mono hz1)⟩
theorem rm (n b:Nat) (hb:b<256):bits .xor .u8 ((n:Int) % 256) (b:Int)=((n % 256 ^^^ b:Nat):Int)∧n % 256 ^^^ b<256:=by
 refine ⟨?_,Nat.xor_lt_two_pow (n:=8) (by omega) hb⟩;have:=u8_xor_nat (n % 256) b (by omega) hb
 rw [← this];rfl
theorem vm (r n b:Nat) (hn:n<4294967296) (hr:r<4294967296) (hb:b<256) :
  bits .xor .u32 ((n:Int) / 256) ((Fcs.stp r 8 (n % 256 ^^^ b):Nat):Int)=((Fcs.stp r 8 (n ^^^ b):Nat):Int):=by
 have hq:=kL r (n % 256 ^^^ b) 8 (by have:=(rm n b hb).2;omega) hr;rw [← Fcs.table_step r n b hb];have:=u32_xor_nat (n / 256) (Fcs.stp r 8 (n % 256 ^^^ b)) (by omega) hq
 rw [← this];rfl
theorem qj (s r:Nat) (t:ByteArray) (w:World) (hs:s<4294967296) (hr:r<4294967296) (ht:t.size≤maxLen)
  (hT:Lib.Utf8Tabs 2 3 w) :
  Calls prog 35 #[.int .u32 s,.int .u32 r,.string t] w fun e w'=>e=.returned (.int .u32 (Fcs.sumL r s t.data.toList:Nat))∧Below w.heap.size w w':=by
 unfold maxLen at ht;have hv:=(zero_of_info fF).1;have hi:=(zero_of_info fF).2;have hsz:=da .u32 r 256;go_enter func35,ntmps35
 go_wp2_with fail
 refine (s6 r _ hr).mono ?_;rintro e w1 ⟨rfl,hw1⟩;have hb1:Below w.heap.size w w1:=by
  rw [hw1];exact ((zC _ _).alloc (zD _) _).alloc (by simp) _
 clear hw1;have hz1:w.heap.size≤w1.heap.size:=hb1.size
 go_wp2_with (first
  | (refine cV _ rfl 97 _ _ rfl w1.heap.size (Array.replicate 256 (.int .u32 0)) (cu .u32 r 256) rfl rfl (heap_alloc_last w1 _) (by rw [hsz];exact hi) (by rw [hsz,Array.size_replicate]) (iS _ _ _) ?_;rw [World.setRow_alloc_new]))
 go_loopw [0] (fun x wr=>∃ pos:Nat,pos≤t.size∧x=.int .u32 (Fcs.sumL r s (t.data.toList.take pos):Nat)∧wr.heap[w1.heap.size+1]?=some (.stringIter t pos)∧(∀ j,j<256→wr.cell? ⟨w1.heap.size,j,none⟩=some (.int .u32 (Fcs.stp r 8 j:Nat)))∧Below w1.heap.size w1 wr) (fun _ wr=>t.size - wr.iterPos (w1.heap.size+1))
 case atStart =>
  refine ⟨0,Nat.zero_le _,rfl,?_,?_,?_⟩
  ·have:=World.iter_heap (w1.alloc (.cells (cu .u32 r 256) 97)) t 0
   simpa using this
  ·intro j hj;have h1:=World.cell?_of_block (w:=w1.alloc (.cells (cu .u32 r 256) 97)) (w':=(w1.alloc (.cells (cu .u32 r 256) 97)).iter t 0) (a:=⟨w1.heap.size,j,none⟩) (by
    simp only [World.iter];exact zG _ _ _ (by simp))
   rw [h1,cell_of_row _ _ j (cu .u32 r 256) 97 (0,0) (heap_alloc_last w1 _)];exact rj .u32 r j hj
  ·exact ((zC _ _).alloc (zD _) _).alloc (by simp) _
 case round =>
  obtain ⟨pos,hpl,rfl,hit,hcl,hbw⟩:=hrel;have hn:Fcs.sumL r s (t.data.toList.take pos)<4294967296:=jW r s _ hs hr;have hsz1:w1.heap.size+1<wr.heap.size:=(ge.1 hit).1;have HCL:=aa hcl;clear hcl;by_cases hp:pos<t.size
  ·have hnx:∀ ty,(Instr.next (.pointer (some ⟨w1.heap.size+1,0,none⟩)) true ty).run prog wr=_:=fun ty=>Lib.run_next_any_at wr (w1.heap.size+1) t pos ty hit hp
   have hit2:=Lib.iterAt_heap wr (w1.heap.size+1) t pos (pos+(Utf8.decode t pos).2) hit;have hbw2:=Lib.below_iterAt hbw (k:=w1.heap.size+1) (by omega) t (pos+(Utf8.decode t pos).2);have hsz2:w1.heap.size+1<(wr.iterAt (w1.heap.size+1) t (pos+(Utf8.decode t pos).2)).heap.size:=by rw [Lib.iterAt_size];omega
   generalize hw2:wr.iterAt (w1.heap.size+1) t (pos+(Utf8.decode t pos).2)=w2 at *;have HW2:=aa hw2;clear hw2;have hT2:Lib.Utf8Tabs 2 3 w2:=Utf8Tabs_below hT (hb1.trans (hbw2.mono hz1));have HC2:Hid (∀ j,j<256→w2.cell? ⟨w1.heap.size,j,none⟩=some (.int .u32 (Fcs.stp r 8 j:Nat))):=by
    refine aa fun j hj=>?_
    rw [← uh HCL j hj,← uh HW2];exact World.cell?_of_block (Lib.iterAt_other wr (w1.heap.size+1) w1.heap.size t _ (by show w1.heap.size≠w1.heap.size+1;omega))
   go_wp2_with fail
   refine (vi (t.extract pos t.size) w2 hT2).mono ?_;rintro e w3 ⟨rfl,hb3⟩;rw [nR t pos hp];have HC3:Hid (∀ j,j<256→w3.cell? ⟨w1.heap.size,j,none⟩=some (.int .u32 (Fcs.stp r 8 j:Nat))):=by
    refine aa fun j hj=>?_
    rw [← uh HC2 j hj];exact hb3.cell (p:=⟨w1.heap.size,j,none⟩) (by show w1.heap.size<w2.heap.size;omega)
   have hwl:=vk t pos hp;have hwp:=rk t pos;have HD:Hid ((Utf8.decode t pos).2=xI t pos):=rfl;generalize xI t pos=wd at *;go_wp2
   go_loop [0,11] (fun x i=>∃ k:Nat,pos≤k∧k≤pos+wd∧i=.int .i64 k∧x=.int .u32 (Fcs.sumL r s (t.data.toList.take k):Nat)) (fun _ i=>pos+wd - (intOf i).toNat)
   case atStart=>exact ⟨pos,zD _,by omega,rfl,rfl⟩
   case round =>
    obtain ⟨k,hk1,hk2,rfl,rfl⟩:=hrel;clear hn;have hn:Fcs.sumL r s (t.data.toList.take k)<4294967296:=jW r s _ hs hr;by_cases hlt:k<pos+wd
    ·have hkt:k<t.size:=by omega
     have HS:Hid (Fcs.sumL r s (t.data.toList.take (k+1))=Fcs.stp r 8 (Fcs.sumL r s (t.data.toList.take k) ^^^ t[k].toNat)):=by
      refine aa ?_;rw [fg t k hkt,Fcs.sumL_snoc]
     generalize Fcs.sumL r s (t.data.toList.take k)=n at *;have hb:t[k].toNat<256:=t[k].toNat_lt;have hx8:=rm n t[k].toNat hb;have hx:=vm r n t[k].toNat hn hr hb;obtain ⟨hx8,hm⟩:=hx8;have hc:=uh HC3 _ hm;rw [← uh HS] at hx;generalize n % 256 ^^^ t[k].toNat=m at *;generalize hq:Fcs.sumL r s (t.data.toList.take (k+1))=q at *;have HQ:=aa hq;clear hq;go_wp2
     go_round
     case rel=>exact ⟨k+1,by omega,by omega,by go_num,by rw [uh HQ]⟩
     case measure=>simp [intOf];omega
    ·obtain rfl:k=pos+wd:=by omega
     go_wp2
     go_roundw
     case rel =>
      refine ⟨pos+wd,hwl,rfl,?_,uh HC3,hbw2.trans (hb3.mono (by omega))⟩;rw [hb3.block _ hsz2,hit2,uh HD]
     case measure =>
      have e3:w3.heap[w1.heap.size+1]?=some (.stringIter t (pos+wd)):=by rw [hb3.block _ hsz2,hit2,uh HD]
      simp only [World.iterPos,e3,hit];omega
  ·have hnx:∀ ty,(Instr.next (.pointer (some ⟨w1.heap.size+1,0,none⟩)) true ty).run prog wr=_:=fun ty=>Lib.run_next_end_at wr (w1.heap.size+1) t pos ty hit hp
   go_wp2
   go_ret
   exact ⟨j8 (by rw [List.take_of_length_le (by simp;omega)]),hb1.trans (hbw.mono hz1)⟩
theorem nS:(prog.info? 5).map (fun i=>(i.zero,i.size,i.bytes))=some (some (.int .u8 0),1,1):=by kernel_rfl
theorem zw:madeCells #[Value.int .u8 0] 2=#[.int .u8 0,.int .u8 0]:=by kernel_rfl
theorem zx:madeCells #[Value.int .u8 0] 4=#[.int .u8 0,.int .u8 0,.int .u8 0,.int .u8 0]:=by kernel_rfl
theorem zy (w:World):(Instr.makeSlice 22 (.int .i64 2) (.int .i64 2)).run prog w=.ok (.slice (some ⟨w.heap.size,0,none⟩) 2 2) (w.alloc (.cells #[.int .u8 0,.int .u8 0] 5)) :=
 zw ▸ run_make_row' (P:=prog) 22 5 (.int .u8 0) 1 underlying22 nS rfl .i64 .i64 2 (by decide) (by decide) w
theorem zz (w:World):(Instr.makeSlice 22 (.int .i64 4) (.int .i64 4)).run prog w=.ok (.slice (some ⟨w.heap.size,0,none⟩) 4 4) (w.alloc (.cells #[.int .u8 0,.int .u8 0,.int .u8 0,.int .u8 0] 5)) :=
 zx ▸ run_make_row' (P:=prog) 22 5 (.int .u8 0) 1 underlying22 nS rfl .i64 .i64 4 (by decide) (by decide) w
theorem zB (w:World) (a b:Int):(convert 22 9 (.slice (some ⟨w.heap.size,0,none⟩) 2 2)).run prog (w.alloc (.cells #[.int .u8 a,.int .u8 b] 5))=.ok (.string (strOfNums [a,b])) (w.alloc (.cells #[.int .u8 a,.int .u8 b] 5)) :=
 run_convert_bytes_arg (P:=prog) _ 22 5 underlying22 underlying5 w.heap.size 0 2 2 [a,b] rfl (fun i hi=>by
  rw [World.cell?_alloc_at _ _ _ _ (by simp)];match i,hi with
  | 0,_=>rfl
  | 1,_=>rfl) 9 underlying9
theorem zJ (w:World) (a b c d:Int):(convert 22 9 (.slice (some ⟨w.heap.size,0,none⟩) 4 4)).run prog (w.alloc (.cells #[.int .u8 a,.int .u8 b,.int .u8 c,.int .u8 d] 5))=.ok (.string (strOfNums [a,b,c,d])) (w.alloc (.cells #[.int .u8 a,.int .u8 b,.int .u8 c,.int .u8 d] 5)) :=
 run_convert_bytes_arg (P:=prog) _ 22 5 underlying22 underlying5 w.heap.size 0 4 4 [a,b,c,d] rfl (fun i hi=>by
  rw [World.cell?_alloc_at _ _ _ _ (by simp)];match i,hi with
  | 0,_=>rfl
  | 1,_=>rfl
  | 2,_=>rfl
  | 3,_=>rfl) 9 underlying9
theorem s7 (n:Nat) (w:World) :
  Calls prog 34 #[.int .u32 n,.int .i64 2] w fun e w'=>e=.returned (.string (strOfNums [(n:Int) % 256,(n:Int) / 256 % 256]))∧Below w.heap.size w w':=by
 have hm:=zy;have hc:=zB w;go_enter func34,ntmps34
 go_wp2_with fail
 go_rounds 3
 go_ret
 exact ⟨rfl,(zC _ _).alloc (zD _) _⟩
theorem Bk (n:Nat) (w:World) (hn:n<4294967296) :
  Calls prog 34 #[.int .u32 n,.int .i64 4] w fun e w'=>e=.returned (.string (strOfNums [(n:Int) % 256,(n:Int) / 256 % 256,(n:Int) / 65536 % 256,(n:Int) / 16777216]))∧Below w.heap.size w w':=by
 have hm:=zz;have hc:=zJ w;go_enter func34,ntmps34
 go_wp2_with fail
 go_rounds 5
 go_ret
 exact ⟨rfl,(zC _ _).alloc (zD _) _⟩
theorem rn {a b:List Int} (h:a=b):Ending.returned (.string (strOfNums a))=.returned (.string (strOfNums b)):=by rw [h]
def vp (q:Nat):List Int:=[(4294967295 - q:Int) % 256,(4294967295 - q:Int) / 256 % 256,(4294967295 - q:Int) / 65536 % 256,(4294967295 - q:Int) / 16777216]
def vq (q:Nat):List Int:=[(65535 - q:Int) % 256,(65535 - q:Int) / 256]
def gf (l:List UInt8) (wide:Bool):ByteArray:=if wide then strOfNums (vp (Fcs.sumL 3988292384 4294967295 l)) else strOfNums (vq (Fcs.sumL 33800 65535 l))
theorem nU (n q:Nat) (h:q<2 ^ n):(2 ^ n - 1) ^^^ q=2 ^ n - 1 - q:=by
 apply Nat.eq_of_testBit_eq
 intro i;rw [Nat.testBit_xor,Nat.testBit_two_pow_sub_one,show 2 ^ n - 1 - q=2 ^ n - (q+1) by omega,Nat.testBit_two_pow_sub_succ h];by_cases hi:i<n
 ·simp [hi]
 ·have:q.testBit i=false:=Nat.testBit_lt_two_pow (Nat.lt_of_lt_of_le h (Nat.pow_le_pow_right (by decide) (by omega)))
  simp [hi,this]
theorem vu (q:Nat) (h:q<65536):∃ m:Nat,bits .xor .u16 IntKind.u16.max (q:Int)=(m:Int)∧m=65535 - q :=
 ⟨65535 ^^^ q,u16_xor_nat 65535 q (by decide) h,nU 16 q h⟩
theorem mC:IntKind.u16.signed=false:=rfl
theorem vw (q:Nat) (h:q<4294967296):∃ m:Nat,bits .xor .u32 IntKind.u32.max (q:Int)=(m:Int)∧m=4294967295 - q :=
 ⟨4294967295 ^^^ q,u32_xor_nat 4294967295 q (by decide) h,nU 32 q h⟩
theorem mD:IntKind.u32.signed=false:=rfl
theorem kQ (b:Bool) (w:World):Calls prog 36 #[.bool b] w fun e w'=>e=.returned (.int .i64 (if b then 4 else 2))∧w'=w:=by
 cases b
 all_goals
  go_enter func36,ntmps36
  go_wp2
  go_ret
  exact ⟨rfl,rfl⟩
theorem n9 (t:ByteArray) (b:Bool) (w:World) (ht:t.size≤maxLen) (h8:t.size≤8000)
  (hT:Lib.Utf8Tabs 2 3 w) :
  Calls prog 21 #[.string t,.bool b] w fun e w'=>e=.returned (.string (gf t.data.toList b))∧Below w.heap.size w w':=by
 have d1:¬ ((8000:Int)<(t.size:Int)):=by omega
 cases b
 ·have hq:=jX 33800 65535 t.data.toList (by decide) (by decide);have c:Calls prog 37 #[.int .u16 65535,.int .u16 33800,.string t] w fun e w'=>e=.returned (.int .u16 (Fcs.sumL 33800 65535 t.data.toList:Nat))∧Below w.heap.size w w':=qi 65535 33800 t w (by decide) (by decide) ht hT
  have HV:Hid (gf t.data.toList false=strOfNums (vq (Fcs.sumL 33800 65535 t.data.toList))):=aa rfl;generalize gf t.data.toList false=V at *;generalize Fcs.sumL 33800 65535 t.data.toList=q at *;have hsg:=mC;obtain ⟨m,hx,hm⟩:=vu q (by omega);have hml:m<65536:=by omega
  have HM:=aa hm;clear hm;go_enter func21,ntmps21
  go_wp2_with fail
  refine c.mono ?_;rintro e w1 ⟨rfl,hb1⟩;go_wp2_with fail
  refine (kQ false _).mono ?_;rintro e w2 ⟨rfl,rfl⟩;go_wp2_with fail
  refine (s7 m _).mono ?_;rintro e w3 ⟨rfl,hb3⟩;go_wp2
  go_ret
  refine ⟨?_,hb1.trans (hb3.mono hb1.size)⟩;rw [uh HV];refine rn ?_;have hm:=uh HM;simp only [vq,List.cons.injEq,and_true];omega
 ·have hq:=jW 3988292384 4294967295 t.data.toList (by decide) (by decide);have c:Calls prog 35 #[.int .u32 4294967295,.int .u32 3988292384,.string t] w fun e w'=>e=.returned (.int .u32 (Fcs.sumL 3988292384 4294967295 t.data.toList:Nat))∧Below w.heap.size w w':=qj 4294967295 3988292384 t w (by decide) (by decide) ht hT
  have HV:Hid (gf t.data.toList true=strOfNums (vp (Fcs.sumL 3988292384 4294967295 t.data.toList))):=aa rfl;generalize gf t.data.toList true=V at *;generalize Fcs.sumL 3988292384 4294967295 t.data.toList=q at *;have hsg:=mD;obtain ⟨m,hx,hm⟩:=vw q (by omega);have hml:m<4294967296:=by omega
  have HM:=aa hm;clear hm;go_enter func21,ntmps21
  go_wp2_with fail
  refine c.mono ?_;rintro e w1 ⟨rfl,hb1⟩;go_wp2_with fail
  refine (kQ true _).mono ?_;rintro e w2 ⟨rfl,rfl⟩;go_wp2_with fail
  refine (Bk m _ hml).mono ?_;rintro e w3 ⟨rfl,hb3⟩;go_wp2
  go_ret
  refine ⟨?_,hb1.trans (hb3.mono hb1.size)⟩;rw [uh HV];refine rn ?_;have hm:=uh HM;simp only [vp,List.cons.injEq,and_true];omega
def kU (t:ByteArray) (b:Bool):ByteArray:=if t.size≤8000 then gf t.data.toList b else ⟨#[]⟩
theorem n_ (t:ByteArray) (b:Bool) (w:World) (ht:t.size≤maxLen) (hT:Lib.Utf8Tabs 2 3 w) :
  Calls prog 21 #[.string t,.bool b] w fun e w'=>e=.returned (.string (kU t b))∧Below w.heap.size w w':=by
 by_cases h8:t.size≤8000
 ·rw [show kU t b=gf t.data.toList b from if_pos h8];exact n9 t b w ht h8 hT
 ·rw [show kU t b=⟨#[]⟩ from if_neg h8];have d1:(8000:Int)<(t.size:Int):=by omega
  unfold maxLen at ht;go_enter func21,ntmps21
  go_wp2
  go_ret
  exact ⟨rfl,zC _ _⟩
def de (b:Bool):Nat:=if b then 4 else 2
theorem jh (b:Bool):de b≤4:=by cases b<;>decide
theorem vx (b:Bool) (w:World):Calls prog 36 #[.bool b] w fun e w'=>e=.returned (.int .i64 (de b:Nat))∧w'=w:=by
 have:=kQ b w
 cases b
 ·exact this
 ·exact this
theorem mE (t:ByteArray) (k:Nat) (h:k≤t.size):(t.extract 0 k).size=k:=by
 rw [ByteArray.size_extract];omega
theorem ob (t:ByteArray) (b:Bool) (w:World) (k:Nat) (hk:t.size=k+de b) (h8:t.size≤8000) (hT:Lib.Utf8Tabs 2 3 w) :
  Calls prog 161 #[.string t,.bool b] w fun e w'=>e=.returned (.bool ((t.extract k t.size).toList == (kU (t.extract 0 k) b).toList))∧Below w.heap.size w w':=by
 have hkl:k≤t.size:=by omega
 have HC:Hid (∀ w,Lib.Utf8Tabs 2 3 w→Calls prog 21 #[.string (t.extract 0 k),.bool b] w fun e w'=>e=.returned (.string (kU (t.extract 0 k) b))∧Below w.heap.size w w'):=by
  refine aa fun w hT=>?_
  exact n_ (t.extract 0 k) b w (by rw [mE t k hkl];unfold maxLen;omega) hT
 have d1:¬ ((8000:Int)<(t.size:Int)):=by omega
 have hs:=vx b;have hc4:=jh b;generalize de b=c at *;have hkk:(t.size:Int) - (c:Int)=(k:Int):=by omega
 have hki:(k:Int)≤(t.size:Int):=by omega
 have HS:=aa hs;clear hs hk;generalize kU (t.extract 0 k) b=V at *;go_enter func161,ntmps161
 go_wp2_with fail
 refine (uh HS _).mono ?_;rintro e w1 ⟨rfl,rfl⟩;go_wp2_with fail
 go_region_held (fun _=>True) (trivial) (first
  | (go_at_call 21;refine (uh HC _ ?_).mono ?_;exact Utf8Tabs_below hT ((zC _ _).drew);rintro e w2 ⟨rfl,hb2⟩))
 go_wp2
 go_ret
 exact ⟨rfl,(zC _ _).drew.trans hb2⟩
theorem oe (t:ByteArray) (b:Bool) (w:World) (h:8000<t.size∨t.size<de b) (ht:t.size≤maxLen) :
  Calls prog 161 #[.string t,.bool b] w fun e w'=>e=.returned (.bool false)∧Below w.heap.size w w':=by
 unfold maxLen at ht;have hs:=vx b;have hc4:=jh b;generalize de b=c at *;have HS:=aa hs;clear hs;by_cases h8:8000<t.size
 ·have d1:(8000:Int)<(t.size:Int):=by omega
  go_enter func161,ntmps161
  go_wp2_with fail
  refine (uh HS _).mono ?_;rintro e w1 ⟨rfl,rfl⟩;go_wp2
  all_goals first | (exfalso;omega) | (go_ret;exact ⟨rfl,zC _ _⟩)
 ·have d1:¬ ((8000:Int)<(t.size:Int)):=by omega
  have d2:(t.size:Int) - (c:Int)<0:=by omega
  clear h;go_enter func161,ntmps161
  go_wp2_with fail
  refine (uh HS _).mono ?_;rintro e w1 ⟨rfl,rfl⟩;go_wp2
  all_goals first | (exfalso;omega) | (go_ret;exact ⟨rfl,zC _ _⟩)
def rp (t:ByteArray) (b:Bool):Bool :=
 if t.size≤8000∧de b≤t.size then (t.extract (t.size - de b) t.size).toList == (kU (t.extract 0 (t.size - de b)) b).toList else false
theorem og (t:ByteArray) (b:Bool) (w:World) (ht:t.size≤maxLen) (hT:Lib.Utf8Tabs 2 3 w) :
  Calls prog 161 #[.string t,.bool b] w fun e w'=>e=.returned (.bool (rp t b))∧Below w.heap.size w w':=by
 by_cases h:t.size≤8000∧de b≤t.size
 ·rw [show rp t b=_ from if_pos h];exact ob t b w (t.size - de b) (by omega) h.1 hT
 ·rw [show rp t b=false from if_neg h];exact oe t b w (by omega) ht
inductive Fp | R | K | N | T
deriving DecidableEq
def hasF (p:Fp) (l:List Fp):Bool:=l.any fun x=>x == p
theorem Bz (w:World) (B:Nat) (sl:Value) (n q most:Nat) (hq:q<1000) (hm:most<4294967296) (hn:n≤maxLen) (hD:Dat w B sl n) :
  Calls prog 4 #[sl,.int .i64 q,.int .i64 most] w fun e w'=>∃ r:Nat,e=.returned (.int .i64 r)∧(r<most∨r=0)∧w'=w:=by
 unfold maxLen at hn;by_cases h1:most≤1
 ·have d1:decide ((most:Int)≤1)=true:=decide_eq_true (by omega);obtain ⟨a,cap,rfl⟩:=hD.1;clear hD;go_enter func4,ntmps4
  go_wp2
  all_goals first | (exfalso;omega) | (go_ret;exact ⟨0,rfl,Or.inr rfl,rfl⟩)
 ·have d1:decide ((most:Int)≤1)=false:=decide_eq_false (by omega);by_cases h0:n=0
  ·obtain ⟨a,cap,rfl⟩:=hD.1;clear hD;have d2:((n:Int) == 0)=true:=beq_iff_eq.2 (by omega);go_enter func4,ntmps4
   go_wp2
   all_goals first | (exfalso;omega) | (go_ret;exact ⟨0,rfl,Or.inr rfl,rfl⟩)
  ·have hlt:q % n<n:=Nat.mod_lt _ (by omega);obtain ⟨b,o,cap,x,rfl,hb,hx,hx2⟩:=hD.2 (q % n) hlt;have d2:((n:Int) == 0)=false:=beq_eq_false_iff_ne.2 (by omega);have e1:(q:Int) % (n:Int)=((q % n:Nat):Int):=rfl;clear hD;generalize q % n=k at *;have hk:(k:Int)<(n:Int):=by omega
   go_enter func4,ntmps4
   go_wp2
   go_ret
   exact ⟨x % most,rfl,Or.inl (Nat.mod_lt _ (by omega)),rfl⟩
end Go.Proofs.YtjebigodbnefiaaGreatDoor
namespace Go.Proofs.YtjebigodbnefiaaGreatDoor
open Go.Proofs.Tryz
open Go.ChangeShapes Go.WideShapes Go.ChangeAt Go.RowKit
theorem yM:prog.cellsOf 5=1:=by kernel_rfl
theorem Am {H:Type} {enc:TypeId × Value→H} {W:World} {a:Option Addr} {len cap:Nat} {d:DataW H} {ps:List MemPlace}
  (h:DataW.Trod enc prog W 0 (fun _=>true) true 22 (.slice a len cap) d ps):Dat W W.heap.size (.slice a len cap) len∧len≤maxLen:=by
 obtain ⟨fuel,hf⟩:=h;rcases open_ints underlying22 underlying5 yM hf with ⟨hcs,hx⟩ | ⟨a',len',cap',zs,hcs,_,hl,hm,hz,hx,hcell,hwz⟩
 ·simp [Value.cells] at hcs;obtain ⟨rfl,rfl,rfl⟩:=hcs;exact ⟨⟨⟨_,_,rfl⟩,fun i hi=>absurd hi (Nat.not_lt_zero i)⟩,Nat.zero_le _⟩
 ·simp [Value.cells] at hcs;obtain ⟨rfl,rfl,rfl⟩:=hcs;simp only [if_true] at hz;refine ⟨⟨⟨_,_,rfl⟩,fun i hi=>?_⟩,by omega⟩;have hc:=hcell i (by omega);obtain ⟨b,o,sp⟩:=a';have hsp:sp=none:=by
   cases sp with
   | none=>rfl
   | some x =>
    have hc0:=hcell 0 (by omega);unfold World.cell? Addr.add at hc0;split at hc0<;>simp at hc0
  subst hsp;have hadd:(⟨b,o,none⟩:Addr).add i=⟨b,o+i,none⟩:=by unfold Addr.add;split<;>simp_all
  rw [hadd] at hc;have hw:=hwz (zs.getD i 0) (by
   rw [List.getD_eq_getElem?_getD,List.getElem?_eq_getElem (by omega)];exact List.getElem_mem _)
  have hb:0≤zs.getD i 0∧zs.getD i 0≤255:=by simpa [Lit.wf,IntKind.min,IntKind.max,IntKind.signed,IntKind.bits] using hw
  obtain ⟨x,hx2⟩:=Int.eq_ofNat_of_zero_le hb.1;refine ⟨b,o,cap,x,rfl,World.block_lt_of_cell? W _ hc,?_,by omega⟩;rw [hc,hx2]
end Go.Proofs.YtjebigodbnefiaaGreatDoor
