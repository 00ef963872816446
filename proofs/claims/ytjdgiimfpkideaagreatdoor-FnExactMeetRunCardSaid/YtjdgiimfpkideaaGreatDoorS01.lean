/- OwnB Take Bys OptRow OptEq MarkT StrMarks StrO IvR IvA OpenIv -/
import Derived.Test.YtjdgiimfpkideaaGreatDoorS00
set_option maxHeartbeats 100000000
namespace Go.Proofs.YtjdgiimfpkideaaGreatDoor
open Go.RowKit Go.Proofs.Tryz
structure Nr (B:Nat) (w w':World):Prop where
 os:w'.os=w.os
 tape:w'.tape=w.tape
 output:w'.output=w.output
 size:w.heap.size≤w'.heap.size
 block:∀ k,k<w.heap.size→k≠B→w'.heap[k]?=w.heap[k]?
theorem Nr.refl (B:Nat) (w:World):Nr B w w:=⟨rfl,rfl,rfl,zD _,fun _ _ _=>rfl⟩
theorem Nr.trans {B:Nat} {a b c:World} (h:Nr B a b) (k:Nr B b c):Nr B a c :=
 ⟨k.os.trans h.os,k.tape.trans h.tape,k.output.trans h.output,zE h.size k.size,fun i hi hn=>(k.block i (Nat.lt_of_lt_of_le hi h.size) hn).trans (h.block i hi hn)⟩
theorem Nr.drew {B:Nat} {a w:World} (h:Nr B a w):Nr B a w.drew:=⟨h.os,h.tape,h.output,h.size,h.block⟩
theorem Nr.drewN {B:Nat} {a w:World} (h:Nr B a w) (k:Nat):Nr B a (w.drewN k):=⟨h.os,h.tape,h.output,h.size,h.block⟩
theorem Nr.setCell {B:Nat} {a w:World} (h:Nr B a w) (o:Nat) (v:Value):Nr B a (w.setCell ⟨B,o,none⟩ v):=by
 have hb:=(zC 0 w).setCell (p:=⟨B,o,none⟩) (Nat.zero_le _) v;exact ⟨hb.os.trans h.os,hb.tape.trans h.tape,hb.output.trans h.output,zE h.size hb.size,fun k hk hn=>(Below.heap_setCell w ⟨B,o,none⟩ v k hn).trans (h.block k hk hn)⟩
theorem Nr.of_below {B:Nat} {a w w':World} (h:Nr B a w) (hb:Below w.heap.size w w'):Nr B a w' :=
 h.trans ⟨hb.os,hb.tape,hb.output,hb.size,fun k hk _=>hb.block k hk⟩
theorem Nr.alloc {B:Nat} {a w:World} (h:Nr B a w) (o:Obj):Nr B a (w.alloc o):=h.of_below ((zC _ _).alloc (zD _) _)
theorem Nr.below {B n:Nat} {w w':World} (h:Nr B w w') (hn:n≤B) (hw:n≤w.heap.size):Below n w w' :=
 ⟨h.os,h.tape,h.output,h.size,fun k hk=>h.block k (by omega) (by omega)⟩
theorem aY {w w':World} {base:Nat} {e:TypeId} {size:Nat} {v:Value} {n:Nat} {xs:List Value} (h:w.ownsRow base e size v n xs) (hb:∀ g,base≤g→g<w.heap.size→w'.heap[g]?=w.heap[g]?):w'.ownsRow base e size v n xs :=
 ⟨h.1,h.2.imp id fun ⟨g,cap,cur,h1,h2,h3,h4⟩=>⟨g,cap,cur,h1,h2,(hb g h2 (ge.1 h3).1).trans h3,h4⟩⟩
structure But (o:Option Nat) (w w':World):Prop where
 os:w'.os=w.os
 tape:w'.tape=w.tape
 output:w'.output=w.output
 size:w.heap.size≤w'.heap.size
 block:∀ b,b<w.heap.size→o≠some b→w'.heap[b]?=w.heap[b]?
theorem But.of_below {o:Option Nat} {w w':World} (h:Below w.heap.size w w'):But o w w':=⟨h.os,h.tape,h.output,h.size,fun b hb _=>h.block b hb⟩
def Rest (w:World) (B:Nat) (v:Value) (l:List UInt8):Prop:=∃ off cap,v=.slice (some ⟨B,off,none⟩) l.length cap∧l.length≤cap∧Lies w B off l
theorem Lies.same {w w':World} {B off:Nat} {l:List UInt8} (h:Lies w B off l) (hb:w'.heap[B]?=w.heap[B]?):Lies w' B off l:=fun i hi=>by
 rw [← h i hi];simp [World.cell?,hb]
theorem Rest.same {w w':World} {B:Nat} {v:Value} {l:List UInt8} (h:Rest w B v l) (hb:w'.heap[B]?=w.heap[B]?):Rest w' B v l:=by
 obtain ⟨off,cap,h1,h2,h3⟩:=h;exact ⟨off,cap,h1,h2,h3.same hb⟩
theorem Lies.take {w:World} {B off:Nat} {l:List UInt8} (h:Lies w B off l) (n:Nat):Lies w B off (l.take n):=fun i hi=>by
 rw [List.length_take] at hi;rw [h i (by omega),List.getElem_take]
theorem j_ {w:World} {B:Nat} {x0 x1 x2 x3 x4 x5 x6 x7:Value} {T:TypeId} (h:w.heap[B]?=some (.cells #[x0,x1,x2,x3,x4,x5,x6,x7] T)) :
  w.cell? ⟨B,0,none⟩=some x0∧w.cell? ⟨B,1,none⟩=some x1∧w.cell? ⟨B,2,none⟩=some x2∧w.cell? ⟨B,3,none⟩=some x3∧w.cell? ⟨B,4,none⟩=some x4∧w.cell? ⟨B,5,none⟩=some x5∧w.cell? ⟨B,6,none⟩=some x6∧w.cell? ⟨B,7,none⟩=some x7∧∀ o,w.frozen? ⟨B,o,none⟩=false :=
 ⟨by rw [cr h];rfl,by rw [cr h];rfl,by rw [cr h];rfl,by rw [cr h];rfl,by rw [cr h];rfl,by rw [cr h];rfl,by rw [cr h];rfl,by rw [cr h];rfl,fun o=>aX h o⟩
def cS (c:Int):Value:=.iface 224 (.agg #[.int .i64 c])
theorem mw (R n cap size:Nat) (ad:Option Addr) (lk:Int) (x0 x1 x2 x5 x6 x7:Value) (w:World) (h:n<size) (hR:w.heap[R]?=some (.cells #[x0,x1,x2,.int .i64 lk,.slice ad n cap,x5,x6,x7] 219)) :
  Calls prog 221 #[.pointer (some ⟨R,0,none⟩),.int .i64 size] w fun e w'=>e=.returned (.tuple #[.slice none 0 0,cS lk])∧∃ k,w'=w.drewN k:=by
 obtain ⟨c0,c1,c2,c3,c4,c5,c6,c7,cf⟩:=j_ hR;have d1:(n:Int)<(size:Int):=by omega
 clear hR;go_enter func221,ntmps221
 go_wp2_with fail
 go_quiet (fail)
 go_wp2
 go_ret2
 exact ⟨rfl,_,rfl⟩
def vH (w w':World) (R B off n size:Nat) (x0 x1 x2 x3 x5 x6 x7:Value):Prop :=
 ∃ off' cap',w'.heap[R]?=some (.cells #[x0,x1,x2,x3,.slice (some ⟨B,off',none⟩) (n - size) cap',x5,x6,x7] 219)∧n - size≤cap'∧(n=size∨off'=off+size)∧Nr R w w'
theorem nn (R B off n cap size:Nat) (x0 x1 x2 x3 x5 x6 x7:Value) (w:World) (h:size≤n) (hcap:n≤cap) (hR:w.heap[R]?=some (.cells #[x0,x1,x2,x3,.slice (some ⟨B,off,none⟩) n cap,x5,x6,x7] 219)) :
  Calls prog 221 #[.pointer (some ⟨R,0,none⟩),.int .i64 size] w fun e w'=>e=.returned (.tuple #[.slice (some ⟨B,off,none⟩) size size,.nilIface]) ∧
   vH w w' R B off n size x0 x1 x2 x3 x5 x6 x7:=by
 obtain ⟨c0,c1,c2,c3,c4,c5,c6,c7,cf⟩:=j_ hR;have d1:¬ ((n:Int)<(size:Int)):=by omega
 have d2:(size:Int)≤(cap:Int):=by omega
 have d3:(size:Int)≤(n:Int):=by omega
 have d4:(n:Int)≤(cap:Int):=by omega
 have hf:=cf 4;have HR:=aa hR;clear hR cf;by_cases hc:cap=size
 ·subst hc;obtain rfl:n=cap:=by omega
  go_enter func221,ntmps221
  go_wp2
  go_ret2
  exact ⟨rfl,off,0,by rw [zH _ _ 4 _ _ _ (uh HR),Nat.sub_self];rfl,by omega,Or.inl rfl,(Nr.refl _ _).setCell 4 _⟩
 ·go_enter func221,ntmps221
  go_wp2
  go_ret2
  exact ⟨rfl,off+size,cap - size,by rw [zH _ _ 4 _ _ _ (uh HR)];rfl,by omega,Or.inr rfl,(Nr.refl _ _).setCell 4 _⟩
def ts (w w':World) (R B:Nat) (l:List UInt8) (x0 x1 x2 x3 x5 x6 x7:Value):Prop :=
 ∃ v',w'.heap[R]?=some (.cells #[x0,x1,x2,x3,v',x5,x6,x7] 219)∧Rest w' B v' l∧Nr R w w'
theorem jJ {w w':World} {R B off size:Nat} {l:List UInt8} {x0 x1 x2 x3 x5 x6 x7:Value} (h:vH w w' R B off l.length size x0 x1 x2 x3 x5 x6 x7) (hl:Lies w B off l) (hB:B<w.heap.size) (hne:B≠R) :
  ts w w' R B (l.drop size) x0 x1 x2 x3 x5 x6 x7∧Lies w' B off (l.take size):=by
 obtain ⟨off',cap',h1,h2,h3,h4⟩:=h;have hl':=hl.same (h4.block B hB hne);refine ⟨⟨_,h1,⟨off',cap',by rw [List.length_drop],by rw [List.length_drop];exact h2,?_⟩,h4⟩,hl'.take size⟩;rcases h3 with h3 | h3
 ·intro i hi;rw [List.length_drop] at hi;omega
 ·rw [h3];exact hl'.drop size
theorem pm (w:World):Calls prog 158 #[.slice none 0 0] w fun e w'=>e=.returned (.int .i64 0)∧w'=w:=by
 go_enter func158,ntmps158
 go_wp2
 go_loop [3,8] (fun n i=>i=.int .i64 0∧n=.int .i64 0) (fun _ _=>0)
 case atStart=>exact ⟨rfl,rfl⟩
 case round =>
  obtain ⟨rfl,rfl⟩:=hrel;go_wp2
  go_ret
  exact ⟨rfl,rfl⟩
theorem jK (R B size:Nat) (l:List UInt8) (v:Value) (lk:Int) (x0 x1 x2 x5 x6 x7:Value) (w:World) (h:l.length<size) (hv:Rest w B v l) (hR:w.heap[R]?=some (.cells #[x0,x1,x2,.int .i64 lk,v,x5,x6,x7] 219)) :
  Calls prog 219 #[.pointer (some ⟨R,0,none⟩),.int .i64 size] w fun e w'=>e=.returned (.tuple #[.int .i64 0,cS lk])∧∃ k,w'=w.drewN k:=by
 obtain ⟨off,cap,rfl,hcap,hl⟩:=hv;have C:=aa (mw R l.length cap size _ lk x0 x1 x2 x5 x6 x7 w h hR);clear hR hl;go_enter func219,ntmps219
 go_wp2_with fail
 refine (uh C).mono ?_;rintro e w1 ⟨rfl,k,rfl⟩;go_wp2_with fail
 refine (pm _).mono ?_;rintro e w2 ⟨rfl,rfl⟩;go_wp2
 go_ret2
 exact ⟨rfl,k,rfl⟩
theorem pn (R B size:Nat) (l:List UInt8) (v:Value) (x0 x1 x2 x3 x5 x6 x7:Value) (w:World) (hs:size≤2) (h:size≤l.length) (hB:B<w.heap.size) (hne:B≠R) (hv:Rest w B v l) (hR:w.heap[R]?=some (.cells #[x0,x1,x2,x3,v,x5,x6,x7] 219)) :
  Calls prog 219 #[.pointer (some ⟨R,0,none⟩),.int .i64 size] w fun e w'=>e=.returned (.tuple #[.int .i64 (ax (l.take size):Nat),.nilIface])∧ts w w' R B (l.drop size) x0 x1 x2 x3 x5 x6 x7:=by
 obtain ⟨off,cap,rfl,hcap,hl⟩:=hv;have C:=aa (nn R B off l.length cap size x0 x1 x2 x3 x5 x6 x7 w h hcap hR);have HL:=aa hl;have hlen:(l.take size).length=size:=by rw [List.length_take];omega
 have C2:=aa fun v=>rL B off size (l.take size) v (by omega)
 rw [hlen] at C2;generalize ax (l.take size)=M at *;clear hR hl hlen;go_enter func219,ntmps219
 go_wp2_with fail
 refine (uh C).mono ?_;rintro e w1 ⟨rfl,ht⟩;obtain ⟨ht1,ht2⟩:=jJ ht (uh HL) hB hne;clear ht C;go_wp2_with fail
 refine (uh C2 _ ht2).mono ?_;rintro e w2 ⟨rfl,hw2⟩;go_wp2
 go_ret2
 exact ⟨rfl,hw2 ▸ ht1⟩
theorem ns (x:Int) (w:World):Calls prog 113 #[.int .i64 x] w fun e w'=>e=.returned (.bool (decide (0≤x) && decide (x≤255)))∧w'=w:=by
 by_cases h1:0≤x
 ·have d1:decide ((0:Int)≤x)=true:=decide_eq_true h1;rw [d1,Bool.true_and];go_enter func113,ntmps113
  go_wp2
  go_ret
  exact ⟨rfl,rfl⟩
 ·have d1:decide ((0:Int)≤x)=false:=decide_eq_false h1;rw [d1,Bool.false_and];go_enter func113,ntmps113
  go_wp2
  go_ret
  exact ⟨rfl,rfl⟩
theorem jM (x y:Int) (w:World):Calls prog 48 #[.int .i64 x,.int .i64 y,.int .i64 255] w fun e w'=>e=.returned (.bool (decide (y≤x) && decide (x≤255)))∧w'=w:=by
 by_cases h1:y≤x
 ·have d1:decide (y≤x)=true:=decide_eq_true h1;rw [d1,Bool.true_and];go_enter func48,ntmps48
  go_wp2
  go_ret
  exact ⟨rfl,rfl⟩
 ·have d1:decide (y≤x)=false:=decide_eq_false h1;rw [d1,Bool.false_and];go_enter func48,ntmps48
  go_wp2
  go_ret
  exact ⟨rfl,rfl⟩
def aj (fs:List Op.Opt):List Value:=fs.flatMap fun f=>[.int .i64 f.kind,.string f.data]
theorem bU (fs:List Op.Opt):(aj fs).length=fs.length*2:=by
 induction fs with
 | nil=>rfl
 | cons f fs ih=>simp [aj] at ih ⊢;omega
theorem bV (fs gs:List Op.Opt):aj (fs ++ gs)=aj fs ++ aj gs:=by simp [aj]
theorem bW (fs:List Op.Opt) (i:Nat) (f:Op.Opt) (h:fs[i]?=some f):(aj fs)[i*2]?=some (.int .i64 f.kind)∧(aj fs)[i*2+1]?=some (.string f.data):=by
 induction fs generalizing i with
 | nil=>simp at h
 | cons d fs ih =>
  cases i with
  | zero =>
   simp at h;subst h;exact ⟨rfl,rfl⟩
  | succ i =>
   have:=ih i (by simpa using h)
   have e:aj (d :: fs)=.int .i64 d.kind :: .string d.data :: aj fs:=rfl;rw [e,show (i+1)*2=i*2+2 by omega];exact this
theorem kW:∃ i,prog.info? 105=some i∧i.zero=some (.agg #[.int .i64 0,.string ⟨#[]⟩])∧i.size=2∧i.bytes=24:=by
 have h:(prog.info? 105).map (fun i=>(i.zero,i.size,i.bytes))=some (some (.agg #[.int .i64 0,.string ⟨#[]⟩]),2,24):=by kernel_rfl
 obtain ⟨i,hi,hzz⟩:=Option.map_eq_some_iff.1 h;simp only [Prod.mk.injEq] at hzz;exact ⟨i,hi,hzz.1,hzz.2.1,hzz.2.2⟩
def HoldsO (w:World) (v:Value) (F:List Op.Opt):Prop :=
 (∃ ad cp,v=.slice ad 0 cp∧F=[])∨∃ g cp cur,v=.slice (some ⟨g,0,none⟩) F.length cp∧w.heap[g]?=some (.cells cur 105)∧F.length*2≤cur.size∧∀ j,j<F.length*2→cur[j]?=(aj F)[j]?
theorem HoldsO.own {w:World} {base:Nat} {v:Value} {F:List Op.Opt} (h:w.ownsRow base 105 2 v F.length (aj F)):HoldsO w v F:=by
 rcases h.2 with ⟨h1,h2⟩ | ⟨g,cap,cur,h1,_,h3,h4,_,h6,h7⟩
 ·exact Or.inl ⟨_,_,h1,List.eq_nil_of_length_eq_zero h2⟩
 ·refine Or.inr ⟨g,cap,cur,h1,h3,by rw [h6];omega,fun j hj=>?_⟩;rw [← h7,List.getElem?_take,if_pos hj,Array.getElem?_toList]
theorem HoldsO.below {n:Nat} {w w':World} {v:Value} {F:List Op.Opt} (h:HoldsO w v F) (hb:Below n w w') (hn:n=w.heap.size):HoldsO w' v F:=by
 subst hn;exact h.imp id fun ⟨g,cp,cur,h1,h2,h3⟩=>⟨g,cp,cur,h1,(hb.block g (ge.1 h2).1).trans h2,h3⟩
theorem HoldsO.form {w:World} {v:Value} {F:List Op.Opt} (h:HoldsO w v F):∃ ad cp,v=.slice ad F.length cp:=by
 rcases h with ⟨ad,cp,h1,h2⟩ | ⟨g,cp,cur,h1,_⟩
 ·exact ⟨ad,cp,by rw [h1,h2];rfl⟩
 ·exact ⟨_,_,h1⟩
theorem eY (w:World) (ad:Option Addr) (cp:Nat):HoldsO w (.slice ad 0 cp) []:=Or.inl ⟨ad,cp,rfl,rfl⟩
theorem nu (o:Op.Opt) (P:Prop) (h1:o.kind<1→Op.ok o=false→P) (h2:1≤o.kind→255<o.kind→Op.ok o=false→P) (h3:1≤o.kind→o.kind≤255→20<o.data.size→Op.ok o=false→P)
  (h4:1≤o.kind→o.kind≤255→o.data.size≤20→Op.ok o=true→P):P:=by
 by_cases a:1≤o.kind
 ·by_cases b:o.kind≤255
  ·by_cases c:o.data.size≤20
   ·exact h4 a b c (decide_eq_true ⟨a,b,c⟩)
   ·exact h3 a b (by omega) (decide_eq_false (by omega))
  ·exact h2 a (by omega) (decide_eq_false (by omega))
 ·exact h1 (by omega) (decide_eq_false (by omega))
theorem il {F:List Op.Opt} {k:Nat} (hk:k<F.length) (h:Op.ok F[k]=false):Op.right F=false:=by
 rw [← Bool.not_eq_true];intro hr;have:=Op.right_all hr F[k] (List.getElem_mem hk)
 rw [h] at this;cases this
theorem iU {F:List Op.Opt} (hl:F.length≤20) (h:∀ k (hk:k<F.length),Op.ok F[k]=true):Op.right F=true:=by
 refine Op.right_mk hl fun o ho=>?_
 obtain ⟨k,hk,rfl⟩:=List.getElem_of_mem ho;exact h k hk
theorem iV {F:List Op.Opt} (hl:20<F.length):Op.right F=false:=by
 rw [← Bool.not_eq_true];intro hr;have:=Op.right_len hr
 omega
theorem iW (ad:Option Addr) (cp:Nat) (w:World):Calls prog 130 #[.slice ad 0 cp] w fun e w'=>e=.returned (.bool true)∧Below w.heap.size w w':=by
 go_enter func130,ntmps130
 go_wp2_with fail
 go_loopw [10] (fun y wr=>y=.int .i64 0∧wr=w) (fun _ _=>0)
 case atStart=>exact ⟨rfl,rfl⟩
 case round =>
  obtain ⟨rfl,rfl⟩:=hrel;go_wp2
  go_ret
  exact ⟨rfl,zC _ _⟩
theorem iX (g cp:Nat) (F:List Op.Opt) (cur:Array Value) (w:World) (hm:F.length≤maxLen) (h1:w.heap[g]?=some (.cells cur 105)) (a1:∀ j,j<F.length*2→cur[j]?=(aj F)[j]?) :
  Calls prog 130 #[.slice (some ⟨g,0,none⟩) F.length cp] w fun e w'=>e=.returned (.bool (Op.right F))∧Below w.heap.size w w':=by
 unfold maxLen at hm;have hl1:g<w.heap.size:=(ge.1 h1).1;obtain ⟨n,hn⟩:∃ n,F.length=n:=⟨_,rfl⟩;by_cases h20:20<n
 ·have d0:(20:Int)<(n:Int):=by omega
  rw [iV (by omega),hn];go_enter func130,ntmps130
  go_wp2
  go_ret
  exact ⟨rfl,zC _ _⟩
 ·have d0:¬ ((20:Int)<(n:Int)):=by omega
  have HA:Hid (∀ i (hi:i<n),cur[i*2]?=some (.int .i64 (F[i]'(by omega)).kind)∧cur[i*2+1]?=some (.string (F[i]'(by omega)).data)):=by
   refine aa fun i hi=>?_
   have q:=bW F i (F[i]'(by omega)) (List.getElem?_eq_getElem (by omega));exact ⟨(a1 _ (by omega)).trans q.1,(a1 _ (by omega)).trans q.2⟩
  have HT:Hid ((∀ k (hk:k<n),Op.ok (F[k]'(by omega))=true)→Op.right F=true):=aa fun h=>iU (by omega) fun k hk=>h k (by omega)
  have HF:Hid (∀ k (hk:k<n),Op.ok (F[k]'(by omega))=false→Op.right F=false):=aa fun k hk h=>il (by omega) h
  rw [hn];clear a1 hm;generalize Op.right F=RT at *;go_enter func130,ntmps130
  go_wp2_with fail
  go_loopw [10] (fun y wr=>∃ (i:Nat),i≤n∧y=.int .i64 i∧(∀ k (hk:k<i) (hkn:k<n),Op.ok (F[k]'(by omega))=true)∧Below w.heap.size w wr) (fun y _=>n - (intOf y).toNat)
  case atStart=>exact ⟨0,Nat.zero_le _,rfl,fun k hk=>by omega,zC _ _⟩
  case round =>
   obtain ⟨i,hi,rfl,hall,hb⟩:=hrel;have hbs:=hb.size;by_cases hlt:i<n
   ·have d1:(i:Int)<(n:Int):=by omega
    obtain ⟨q1,q2⟩:=uh HA i hlt;have e1:=(hb.block g hl1).trans h1;have hf:=uh HF i hlt;have hall2:Op.ok (F[i]'(by omega))=true→∀ k (hk:k<i+1) (hkn:k<n),Op.ok (F[k]'(by omega))=true:=by
     intro h k hk hkn;rcases Nat.lt_or_ge k i with hk2 | hk2
     ·exact hall k hk2 hkn
     ·have:k=i:=by omega
      subst this;exact h
    generalize hO:F[i]'(by omega)=o at *;have k0:wr.cell? ⟨g,i*2,none⟩=some (.int .i64 o.kind):=by rw [cr e1];exact q1
    have k1:wr.cell? ⟨g,i*2+1,none⟩=some (.string o.data):=by rw [cr e1];exact q2
    have HAL:=aa hall2;have HFF:=aa hf;have C:=aa fun v=>ns o.kind v
    obtain ⟨kd,dt⟩:=o;dsimp only at k0 k1 C;clear q1 q2 e1 hall hall2 hf hO HA HT HF h1;refine nu ⟨kd,dt⟩ _ (fun a r=>?_) (fun a b r=>?_) (fun a b c r=>?_) (fun a b c r=>?_);all_goals dsimp only at *
    ·have f1:decide (kd<1)=true:=decide_eq_true a;have hR:=uh HFF r;subst hR;clear HFF HAL r a;go_wp2
     go_ret
     exact ⟨rfl,hb.alloc hbs _⟩
    ·have f1:decide (kd<1)=false:=decide_eq_false (by omega);have hR:=uh HFF r;subst hR;rw [show (decide (0≤kd) && decide (kd≤255))=false by simp;omega] at C;clear HFF HAL r a b;go_wp2_with (first | (go_at_call 113;refine (uh C _).mono ?_;rintro e w2 ⟨rfl,rfl⟩))
     go_ret
     exact ⟨rfl,hb.alloc hbs _⟩
    ·have f1:decide (kd<1)=false:=decide_eq_false (by omega);have f2:decide ((20:Int)<(dt.size:Int))=true:=decide_eq_true (by omega);have hR:=uh HFF r;subst hR;rw [show (decide (0≤kd) && decide (kd≤255))=true by simp;omega] at C;clear HFF HAL r a b c;go_wp2_with (first | (go_at_call 113;refine (uh C _).mono ?_;rintro e w2 ⟨rfl,rfl⟩))
     go_ret
     exact ⟨rfl,hb.alloc hbs _⟩
    ·have f1:decide (kd<1)=false:=decide_eq_false (by omega);have f2:decide ((20:Int)<(dt.size:Int))=false:=decide_eq_false (by omega);have hR:=uh HAL r;have HR:=aa hR;rw [show (decide (0≤kd) && decide (kd≤255))=true by simp;omega] at C;clear HFF HAL r a b c hR;go_wp2_with (first | (go_at_call 113;refine (uh C _).mono ?_;rintro e w2 ⟨rfl,rfl⟩))
     go_roundw
     case rel=>exact ⟨i+1,by omega,by go_num,uh HR,hb.alloc hbs _⟩
     case measure=>simp [intOf];omega
   ·have e:i=n:=by omega
    subst e;have d1:¬ ((i:Int)<(i:Int)):=by omega
    have hR:=uh HT fun k hk=>hall k hk hk
    subst hR;go_wp2
    go_ret
    exact ⟨rfl,hb⟩
theorem cq (v:Value) (F:List Op.Opt) (w:World) (hm:F.length≤maxLen) (h:HoldsO w v F) :
  Calls prog 130 #[v] w fun e w'=>e=.returned (.bool (Op.right F))∧Below w.heap.size w w':=by
 rcases h with ⟨ad,cp,rfl,rfl⟩ | ⟨g,cp,cur,rfl,h2,_,h4⟩
 ·exact iW ad cp w
 ·exact iX g cp F cur w hm h2 h4
theorem yl (x:Int) (t:ByteArray) (w:World) :
  Calls prog 78 #[.agg #[.int .i64 x,.string t],.agg #[.int .i64 x,.string t]] w fun e w'=>e=.returned (.bool true)∧Below w.heap.size w w':=by
 go_enter func78,ntmps78
 go_wp2
 go_ret
 exact ⟨rfl,((zC _ _).alloc (zD _) _).alloc (by simp) _⟩
theorem uo (a1 a2:Option Addr) (c1 c2:Nat) (w:World) :
  Calls prog 57 #[.slice a1 0 c1,.slice a2 0 c2] w fun e w'=>e=.returned (.bool true)∧Below w.heap.size w w':=by
 go_enter func57,ntmps57
 go_wp2_with fail
 go_loopw [5] (fun y wr=>y=.int .i64 0∧wr=w) (fun _ _=>0)
 case atStart=>exact ⟨rfl,rfl⟩
 case round =>
  obtain ⟨rfl,rfl⟩:=hrel;go_wp2
  go_ret
  exact ⟨rfl,zC _ _⟩
theorem ym (g1 g2 c1 c2:Nat) (F:List Op.Opt) (cur1 cur2:Array Value) (w:World) (hF:F.length≤2000000) (h1:w.heap[g1]?=some (.cells cur1 105)) (h2:w.heap[g2]?=some (.cells cur2 105))
  (a1:∀ j,j<F.length*2→cur1[j]?=(aj F)[j]?) (a2:∀ j,j<F.length*2→cur2[j]?=(aj F)[j]?) :
  Calls prog 57 #[.slice (some ⟨g1,0,none⟩) F.length c1,.slice (some ⟨g2,0,none⟩) F.length c2] w fun e w'=>e=.returned (.bool true)∧Below w.heap.size w w':=by
 have hl1:g1<w.heap.size:=(ge.1 h1).1;have hl2:g2<w.heap.size:=(ge.1 h2).1;obtain ⟨n,hn⟩:∃ n,F.length=n:=⟨_,rfl⟩;have HA:Hid (∀ i,i<n→∃ x t,cur1[i*2]?=some (.int .i64 x)∧cur1[i*2+1]?=some (.string t)∧cur2[i*2]?=some (.int .i64 x)∧cur2[i*2+1]?=some (.string t)):=by
  refine aa fun i hi=>?_
  have g:=bW F i (F[i]'(by omega)) (List.getElem?_eq_getElem (by omega));exact ⟨_,_,(a1 _ (by omega)).trans g.1,(a1 _ (by omega)).trans g.2,(a2 _ (by omega)).trans g.1,(a2 _ (by omega)).trans g.2⟩
 rw [hn] at hF ⊢;clear a1 a2 hn;go_enter func57,ntmps57
 go_wp2_with fail
 go_loopw [5] (fun y wr=>∃ (i:Nat),i≤n∧y=.int .i64 i∧Below w.heap.size w wr) (fun y _=>n - (intOf y).toNat)
 case atStart=>exact ⟨0,Nat.zero_le _,rfl,zC _ _⟩
 case round =>
  obtain ⟨i,hi,rfl,hb⟩:=hrel;have hbs:=hb.size;by_cases hlt:i<n
  ·have d1:(i:Int)<(n:Int):=by omega
   obtain ⟨x,t,q1,q2,q3,q4⟩:=uh HA i hlt;have e1:=(hb.block g1 hl1).trans h1;have e2:=(hb.block g2 hl2).trans h2;have k0:wr.cell? ⟨g1,i*2,none⟩=some (.int .i64 x):=by rw [cr e1];exact q1
   have k1:wr.cell? ⟨g1,i*2+1,none⟩=some (.string t):=by rw [cr e1];exact q2
   have k2:wr.cell? ⟨g2,i*2,none⟩=some (.int .i64 x):=by rw [cr e2];exact q3
   have k3:wr.cell? ⟨g2,i*2+1,none⟩=some (.string t):=by rw [cr e2];exact q4
   have C:=aa fun v=>yl x t v
   clear e1 e2 q1 q2 q3 q4 h1 h2;go_wp2_with fail
   go_region_with (first
    | (go_at_call 78;refine (uh C _).mono ?_;rintro e w2 ⟨rfl,hb2⟩))
   all_goals
    go_wp2_with fail
    go_roundw
    case rel=>exact ⟨i+1,by omega,by go_num,hb.trans (((zC _ _).drew.trans hb2).mono hbs)⟩
    case measure=>simp [intOf];omega
  ·have e:i=n:=by omega
   subst e;have d1:¬ ((i:Int)<(i:Int)):=by omega
   go_wp2
   go_ret
   exact ⟨rfl,hb⟩
theorem eqS (v1 v2:Value) (F:List Op.Opt) (w:World) (hF:F.length≤2000000) (h1:HoldsO w v1 F) (h2:HoldsO w v2 F) :
  Calls prog 57 #[v1,v2] w fun e w'=>e=.returned (.bool true)∧Below w.heap.size w w':=by
 rcases h1 with ⟨ad1,cp1,rfl,e⟩ | ⟨g1,cp1,cur1,rfl,q1,q2,q3⟩
 ·subst e;rcases h2 with ⟨ad2,cp2,rfl,_⟩ | ⟨g2,cp2,cur2,rfl,_⟩
  ·exact uo _ _ _ _ w
  ·exact uo _ _ _ _ w
 ·rcases h2 with ⟨ad2,cp2,rfl,e⟩ | ⟨g2,cp2,cur2,rfl,r1,r2,r3⟩
  ·subst e;exact uo _ _ _ _ w
  ·exact ym g1 g2 cp1 cp2 F cur1 cur2 w hF q1 r1 q3 r3
def ry:Nat→Nat→ByteArray→ByteArray
 | 0,_,o=>o
 | f+1,k,o=>if k=0 then o else ry f (k / 10) (strOfNums [((48+k % 10:Nat):Int)] ++ o)
theorem pG (f:Nat) (o:ByteArray):ry f 0 o=o:=by cases f<;>rfl
theorem pH {f k:Nat} (o:ByteArray) (h:0<k) (hf:k≤f):∃ f',k / 10≤f'∧ry f k o=ry f' (k / 10) (strOfNums [((48+k % 10:Nat):Int)] ++ o):=by
 cases f with
 | zero=>omega
 | succ f=>exact ⟨f,by omega,by simp only [ry];rw [if_neg (by omega)]⟩
def rC (k:Nat):ByteArray:=⟨#[109]⟩ ++ ry k k ⟨#[]⟩
theorem k_ (k:Nat) (w:World) (hk:0<k) (hk2:k<10000000) :
  Calls prog 79 #[.int .i64 k] w fun e w'=>e=.returned (.string (rC k))∧Below w.heap.size w w':=by
 have d1:¬ ((k:Int)≤0):=by omega
 go_enter func79,ntmps79
 go_wp2_with fail
 go_loopw [0,3] (fun x o wr=>∃ (j f:Nat) (out:ByteArray),x=.int .i64 j∧o=.string out∧j≤f∧ry f j out=ry k k ⟨#[]⟩∧out.size+j≤10000000∧Below w.heap.size w wr) (fun x _ _=>(intOf x).toNat)
 case atStart=>exact ⟨k,k,⟨#[]⟩,rfl,rfl,zD _,rfl,by simp [ByteArray.size];omega,zC _ _⟩
 case round =>
  obtain ⟨j,f,out,rfl,rfl,hf,hd,hs,hb⟩:=hrel;have hs2:=hb.size;by_cases h0:0<j
  ·obtain ⟨f',hf',hd'⟩:=pH out h0 hf;have HD:Hid (ry f' (j / 10) (strOfNums [((48+j % 10:Nat):Int)] ++ out)=ry k k ⟨#[]⟩):=aa (hd'.symm.trans hd);have hsz:(strOfNums [((48+j % 10:Nat):Int)]).size=1:=iJ _;have hcv:(convert 22 9 (.slice (some ⟨wr.heap.size,0,none⟩) 1 1)).run prog (wr.alloc (.cells #[.int .u8 (48+(j:Int) % 10)] 5))=.ok (.string (strOfNums [((48+j % 10:Nat):Int)])) (wr.alloc (.cells #[.int .u8 (48+(j:Int) % 10)] 5)):=by
    have h:=kM (xs:=[((48+j % 10:Nat):Int)]) (World.ownsRow_lit (base:=wr.heap.size) wr #[.int .u8 ((48+j % 10:Nat):Int)] 1 (by omega) (by decide) rfl);rw [show ((48+j % 10:Nat):Int)=48+(j:Int) % 10 by omega] at h ⊢;exact h
   generalize strOfNums [((48+j % 10:Nat):Int)]=c at *;have hcat:¬ (9223372036854775807<c.size+out.size):=by omega
   have d2:(0:Int)<(j:Int):=by omega
   clear hd hd';go_wp2_with fail
   go_roundw
   case rel=>exact ⟨j / 10,f',c ++ out,by go_num,rfl,hf',uh HD,by rw [ByteArray.size_append];omega,hb.alloc hs2 _⟩
   case measure=>simp [intOf];omega
  ·have h0':j=0:=by omega
   subst h0';rw [pG] at hd;have hcat:¬ (9223372036854775807<(ByteArray.mk #[109]).size+out.size):=by rw [show (ByteArray.mk #[109]).size=1 from rfl];omega
   have HD:=aa hd;clear hd;go_wp2
   go_ret
   exact ⟨by unfold rC;rw [← uh HD];rfl,hb⟩
def mtl (k n:Nat):List ByteArray:=(List.range n).map fun i=>rC (k+i)
theorem s5 (x:Int) (h1:0≤x) (h2:x<9223372036854775808):wrap64 x=x:=by unfold wrap64;omega
theorem wU8 (c:UInt8):wrap64 (c.toNat:Int)=(c.toNat:Int):=s5 _ (by omega) (by have:=c.toNat_lt;omega)
theorem yZ:∀ c:UInt8,wrap64 (c.toNat:Int)=(c.toNat:Int):=wU8
theorem xI:∀ c:UInt8,IntKind.i64.wrap (c.toNat:Int)=(c.toNat:Int):=fun c=>by rw [IntKind.wrap_i64];have:=c.toNat_lt;omega
theorem ob (t:ByteArray) (m n:Nat):t.extract m n=co ((t.data.toList.drop m).take (n - m)):=by
 apply ByteArray.ext
 apply Array.ext'
 simp only [co,ByteArray.data_extract,Array.toList_extract,List.extract_eq_take_drop]
theorem s6 (U:ByteArray) (n:Nat):U.extract n U.size=co (U.data.toList.drop n):=by
 have hl:=bC U;rw [ob,List.take_of_length_le (by rw [List.length_drop];omega)]
theorem u6 {t:ByteArray} (h:2≤t.size):t.data.toList=t[0] :: t[1] :: t.data.toList.drop 2:=by
 have hl:=bC t;have e0:t.data.toList=t[0] :: t.data.toList.drop 1:=List.drop_eq_getElem_cons (i:=0) (l:=t.data.toList) (by omega);have e1:t.data.toList.drop 1=t[1] :: t.data.toList.drop 2:=List.drop_eq_getElem_cons (i:=1) (by omega);rw [← e1];exact e0
def fE (l:List Int):List Value:=l.map (Value.int .i64)
theorem dB (l:List Int) (i:Nat) (t:Int) (h:l[i]?=some t):(fE l)[i]?=some (.int .i64 t):=by simp [fE,h]
theorem xO:∃ i,prog.info? 2=some i∧i.zero=some (.int .i64 0)∧i.size=1∧i.bytes=8:=by
 have h:(prog.info? 2).map (fun i=>(i.zero,i.size,i.bytes))=some (some (.int .i64 0),1,8):=by kernel_rfl
 obtain ⟨i,hi,hzz⟩:=Option.map_eq_some_iff.1 h;simp only [Prod.mk.injEq] at hzz;exact ⟨i,hi,hzz.1,hzz.2.1,hzz.2.2⟩
def HoldsI (w:World) (v:Value) (L:List Int):Prop :=
 (∃ ad cp,v=.slice ad 0 cp∧L=[])∨∃ g cp cur,v=.slice (some ⟨g,0,none⟩) L.length cp∧w.heap[g]?=some (.cells cur 2)∧L.length≤cur.size∧∀ j,j<L.length→cur[j]?=(fE L)[j]?
theorem HoldsI.own {w:World} {base:Nat} {v:Value} {L:List Int} (h:w.ownsRow base 2 1 v L.length (fE L)):HoldsI w v L:=by
 rcases h.2 with ⟨h1,h2⟩ | ⟨g,cap,cur,h1,_,h3,h4,_,h6,h7⟩
 ·exact Or.inl ⟨_,_,h1,List.eq_nil_of_length_eq_zero h2⟩
 ·refine Or.inr ⟨g,cap,cur,h1,h3,by rw [h6];omega,fun j hj=>?_⟩;rw [← h7,List.getElem?_take,if_pos (by omega),Array.getElem?_toList]
theorem HoldsI.below {n:Nat} {w w':World} {v:Value} {L:List Int} (h:HoldsI w v L) (hb:Below n w w') (hn:n=w.heap.size):HoldsI w' v L:=by
 subst hn;exact h.imp id fun ⟨g,cp,cur,h1,h2,h3⟩=>⟨g,cp,cur,h1,(hb.block g (ge.1 h2).1).trans h2,h3⟩
theorem HoldsI.form {w:World} {v:Value} {L:List Int} (h:HoldsI w v L):∃ ad cp,v=.slice ad L.length cp:=by
 rcases h with ⟨ad,cp,h1,h2⟩ | ⟨g,cp,cur,h1,_⟩
 ·exact ⟨ad,cp,by rw [h1,h2];rfl⟩
 ·exact ⟨_,_,h1⟩
def ArgI (w:World) (v:Value) (L:List Int):Prop :=
 (∃ a cap,v=.slice a L.length cap)∧∀ i (hi:i<L.length),∃ b o cap,v=.slice (some ⟨b,o,none⟩) L.length cap∧b<w.heap.size∧w.cell? ⟨b,o+i,none⟩=some (.int .i64 L[i])
theorem ArgI.below {w w':World} {v:Value} {L:List Int} (h:ArgI w v L) (hb:Below w.heap.size w w'):ArgI w' v L :=
 ⟨h.1,fun i hi=>by
  obtain ⟨b,o,cap,h1,h2,h3⟩:=h.2 i hi;exact ⟨b,o,cap,h1,Nat.lt_of_lt_of_le h2 hb.size,(hb.cell (p:=⟨b,o+i,none⟩) h2).trans h3⟩⟩
theorem qY (cur':Array Value) (L:List Value) (i:Nat) (A:Value) (hi:i<cur'.size) (h1:L[i]?=some A) (ha:∀ j,j<i→cur'[j]?=L[j]?):∀ j,j<i+1→(cur'.setIfInBounds i A)[j]?=L[j]?:=by
 intro j hj;rw [Array.getElem?_setIfInBounds];by_cases e1:i=j
 ·rw [if_pos e1,if_pos hi,← e1,h1]
 ·rw [if_neg e1];exact ha j (by omega)
theorem y8 (v:Value) (L:List Int) (w:World) (hn:L.length≤1048576) (h:ArgI w v L) :
  Calls prog 12 #[v] w fun e w'=>∃ u,e=.returned u∧HoldsI w' u L∧(∀ q,u.ownBlock=some q→w.heap.size≤q)∧Below w.heap.size w w':=by
 obtain ⟨i0,hi0,hz0,hz1,hz2⟩:=xO;obtain ⟨va,vc,rfl⟩:=h.1;have HA:=aa h;clear h;obtain ⟨n,hnn⟩:∃ n,L.length=n:=⟨_,rfl⟩;rw [hnn] at hn ⊢;go_enter func12,ntmps12
 go_wp2_with (first
  | (at_make;refine wpList_make_full w rfl _ _ 25 rfl w.heap.size 2 i0 _ 1 underlying25 hi0 hz0 hz1 .i64 .i64 _ _ n rfl rfl rfl rfl (by rw [hz2];omega) (by unfold maxLen;omega) (zD _) ?_;rintro w1 ho1 hg1;have HO1:=aa ho1;have HG1:=aa hg1;clear ho1 hg1))
 have hb1:Below w.heap.size w w1:=(zC _ _).grown (uh HG1) (zD _) (fun k hk=>by cases hk);obtain ⟨cur,hc1,hc2⟩:∃ cur,w1.heap[w.heap.size]?=some (.cells cur 2)∧cur.size=n:=by
  rcases (uh HO1).2 with ⟨k,_⟩ | ⟨g',cap,cur,k1,_,k3,_,_,k6,_⟩
  ·cases k
  ·simp only [Value.slice.injEq,Option.some.injEq,Addr.mk.injEq,true_and,and_true] at k1;obtain ⟨rfl,rfl⟩:=k1;exact ⟨cur,k3,by omega⟩
 have HC1:=aa hc1;have HS:=aa (zA hc2 hb1);clear HO1 HG1 hc1 hc2 hb1;go_loopw [4] (fun y wr=>∃ (i:Nat),i≤n∧y=.int .i64 i∧(∃ cur',wr.heap[w.heap.size]?=some (.cells cur' 2)∧cur'.size=n∧∀ j,j<i→cur'[j]?=(fE L)[j]?)∧Below w.heap.size w wr) (fun y _=>n - (intOf y).toNat)
 case atStart=>exact ⟨0,Nat.zero_le _,rfl,⟨cur,uh HC1,(uh HS).1,fun j hj=>by omega⟩,(uh HS).2⟩
 case round =>
  obtain ⟨i,hi,rfl,⟨cur',hg',hs',ha'⟩,hb⟩:=hrel;have hbs:=hb.size;clear HC1 HS;have hgl:w.heap.size<wr.heap.size:=(ge.1 hg').1;by_cases hlt:i<n
  ·have e1:(i:Int)<(n:Int):=by omega
   obtain ⟨b,o,cap,hvf,hbl,k0⟩:=(uh HA).2 i (by omega);have hvf':va=some ⟨b,o,none⟩:=by
    simp only [Value.slice.injEq] at hvf;exact hvf.1
   subst hvf';have hget:=dB L i (L[i]'(by omega)) (List.getElem?_eq_getElem (by omega));generalize hO:L[i]'(by omega)=dt at *;have c0:=(hb.cell (p:=⟨b,o+i,none⟩) hbl).trans k0;obtain ⟨y0,hy0⟩:∃ y,wr.cell? ⟨w.heap.size,i,none⟩=some y:=⟨cur'[i]'(by omega),by rw [cr hg',Array.getElem?_eq_getElem (by omega)]⟩;have f0:wr.frozen? ⟨w.heap.size,i,none⟩=false:=aX hg' _;have HGET:=aa hget;have HG':=aa hg';have HA':=aa ha';have HB:=aa hb;have HI:Hid (i<cur'.size):=aa (by omega);clear k0 hvf hO hget hg' ha' hb HA;go_wp2
   go_roundw
   case rel =>
    refine ⟨i+1,by omega,by go_num,⟨_,zH _ _ i _ _ _ (uh HG'),by simp [hs'],?_⟩,(uh HB).setCell (p:=⟨w.heap.size,i,none⟩) (zD _) _⟩;exact qY cur' _ i _ (uh HI) (uh HGET) (uh HA')
   case measure=>simp [intOf];omega
  ·have e:i=n:=by omega
   subst e;have d1:¬ ((i:Int)<(i:Int)):=by omega
   have HH:=aa (zA hg' ha');clear hg' ha';go_wp2
   go_ret
   refine ⟨_,rfl,Or.inr ⟨w.heap.size,i,cur',by rw [hnn];rfl,(uh HH).1,by rw [hnn];omega,by rw [hnn];exact (uh HH).2⟩,?_,hb⟩;intro q hq;cases hq;exact zD _
end Go.Proofs.YtjdgiimfpkideaaGreatDoor
namespace Go.Proofs.YtjdgiimfpkideaaGreatDoor
open Go.Proofs.Tryz
open Go.ChangeShapes Go.WideShapes Go.ChangeAt Go.RowKit
theorem oT {W:World} {a:Addr} {v:Value} (h:W.cell? (a.add 0)=some v):∃ b o,a=⟨b,o,none⟩∧∀ k,a.add k=⟨b,o+k,none⟩:=by
 obtain ⟨b,o,sp⟩:=a;have hsp:sp=none:=by
  cases sp with
  | none=>rfl
  | some x =>
   unfold World.cell? Addr.add at h;split at h<;>simp at h
 subst hsp;exact ⟨b,o,rfl,fun k=>by unfold Addr.add;split<;>simp_all⟩
theorem oU {H:Type} {enc:TypeId × Value→H} {W:World} {v:Value} {d:DataW H} {ps:List MemPlace}
  (h:DataW.Trod enc prog W 0 (fun _=>true) true 25 v d ps) (hv:∃ a l c,v=.slice a l c):∃ L:List Int,ArgI W v L∧L.length≤maxLen:=by
 obtain ⟨fuel,hf⟩:=h;obtain ⟨a,l,c,rfl⟩:=hv;rcases open_ints underlying25 underlying2 mf hf with ⟨hcs,_⟩ | ⟨a9,len,cap,zs,hcs,_,hl,hm,hsl,_,hcell,_⟩
 ·simp [Value.cells] at hcs;obtain ⟨rfl,rfl,rfl⟩:=hcs;exact ⟨[],⟨⟨_,_,rfl⟩,fun i hi=>absurd hi (by simp)⟩,Nat.zero_le _⟩
 ·simp [Value.cells] at hcs;obtain ⟨rfl,rfl,rfl⟩:=hcs;simp only [if_true] at hsl;have hlen:(zs.take l).length=l:=by rw [List.length_take];omega
  refine ⟨zs.take l,⟨⟨_,c,by rw [hlen]⟩,fun i hi=>?_⟩,by rw [hlen];omega⟩;have hi':i<l:=by rw [hlen] at hi;exact hi
  have hqi:=hcell i (by omega);obtain ⟨b,o,rfl,hadd⟩:=oT (hcell 0 (by omega));rw [hadd] at hqi;have hg:(zs.take l)[i]=zs.getD i 0:=by rw [List.getElem_take,List.getD,List.getElem?_eq_getElem (by omega)];rfl
  rw [hg];exact ⟨b,o,c,by rw [hlen],World.block_lt_of_cell? W _ hqi,hqi⟩
end Go.Proofs.YtjdgiimfpkideaaGreatDoor
