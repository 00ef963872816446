/- MtY IvM LwMt MtQ MtR -/
import Derived.Test.YtjdgiimfpkideaaGreatDoorS44
set_option maxHeartbeats 8000000
set_option maxRecDepth 100000
namespace Go.Proofs.YtjdgiimfpkideaaGreatDoor
open Go.RowKit Go.Proofs.Tryz
abbrev gU (cd:Int):Array Value:=#[.int .i64 0,.int .i64 0,.int .i64 0,.bool false,.bool false,.bool false,.int .i64 0,.int .i64 0,.int .i64 0,.bool false,.bool false,.bool false,.int .i64 0,.int .i64 0,.int .i64 0,.int .i64 0,.int .i64 0,.slice none 0 0,.slice none 0 0,.bool false,.int .i64 0,.int .i64 0,.bool false,.bool false,.bool false,.int .i64 0,.int .i64 0,.bool false,.bool false,.bool false,.int .i64 0,.int .i64 0,.int .i64 0,.bool false,.bool false,.bool false,.int .i64 0,.int .i64 0,.int .i64 0,.bool false,.bool false,.bool false,.int .i64 0,.int .i64 0,.int .i64 0,.int .i64 0,.int .i64 0,.slice none 0 0,.slice none 0 0,.bool false,.int .i64 0,.int .i64 0,.bool false,.bool false,.bool false,.int .i64 0,.int .i64 0,.bool false,.bool false,.bool false,.int .i64 cd]
abbrev cm:Array Value:=gU 0
theorem bf:(prog.info? 34).map (·.size)=some 61:=by kernel_rfl
theorem eI {W:World} {E:Nat} {cs:Array Value} (h:W.heap[E]?=some (.cells cs 34)) (hs:cs.size=61:=by rfl):(loadVar 34 ⟨E,0,none⟩).run prog W=.ok (.agg cs) W :=
 run_loadVar_row (P:=prog) _ _ 34 34 cs (0,0) _ h underlying34 rfl (by rw [hs];exact bf)
structure MO where
 a:Sd
 b:Sd
 cd:Int
def kL:Sd:=⟨ag,[],[],[]⟩
def eC (m1 a1 g1:Int) (p1 c1 d1:Bool) (m2 a2 g2:Int) (p2 c2 d2:Bool) (L:List Int) (st:Bool):MO :=
 if 400<L.length then ⟨kL,kL,2⟩
 else if aK m1 a1 g1=true∧aK m2 a2 g2=true then ⟨(jX m1 a1 g1 p1 c1 d1 m2 a2 g2 p2 c2 d2 L st).a,(jX m1 a1 g1 p1 c1 d1 m2 a2 g2 p2 c2 d2 L st).b,0⟩
 else ⟨kL,kL,1⟩
def ye (dj:Bool) (base:Nat) (W:World) (o:MO) (cs:List Value):Prop:=∃ ca cb,cs=cV ca cb o.cd∧EnM base W ca o.a∧EnM base W cb o.b∧(dj=true→∀ g,kK ca g→¬ kK cb g)
def AnP (dj:Bool) (o:MO) (w:World) (e:Ending) (w':World):Prop:=∃ cs:List Value,e=.returned (.agg cs.toArray)∧ye dj w.heap.size w' o cs∧Below w.heap.size w w'
theorem noB (e:En) (g:Nat):¬ kK (aA e (.slice none 0 0) (.slice none 0 0)).toList g:=fun h=>by
 rcases h with ⟨v,e1,hv⟩ | ⟨v,e1,hv⟩
 ·have e':some (Value.slice none 0 0)=some v:=e1;cases e';cases hv
 ·have e':some (Value.slice none 0 0)=some v:=e1;cases e';cases hv
theorem iG (e:En) (base:Nat) (W:World) (l:List Op.Pk):EnM base W (aA e (.slice none 0 0) (.slice none 0 0)).toList ⟨e,[],[],l⟩ :=
 ⟨none,none,0,0,rfl,World.ownsRow_nil _ _ _ _,World.ownsRow_nil _ _ _ _,fun _ hg=>(by cases hg),Nat.zero_le _,Nat.zero_le _⟩
theorem AnP.err {dj:Bool} {w w':World} (k:Int) (hb:Below w.heap.size w w'):AnP dj ⟨kL,kL,k⟩ w (.returned (.agg (gU k))) w' :=
 ⟨(gU k).toList,rfl,⟨(aA ag (.slice none 0 0) (.slice none 0 0)).toList,(aA ag (.slice none 0 0) (.slice none 0 0)).toList,rfl,iG _ _ _ _,iG _ _ _ _,fun _ g _ h2=>noB _ g h2⟩,hb⟩
theorem fR (k:Int):(gU k).all (·.oneCell')=true:=by kernel_rfl
theorem kE (e1 e2:En) (x1 x2 x3 x4:Option Addr) (n1 n2 n3 n4 y1 y2 y3 y4:Nat) (k:Int):(cV (aA e1 (.slice x1 n1 y1) (.slice x2 n2 y2)).toList (aA e2 (.slice x3 n3 y3) (.slice x4 n4 y4)).toList k).toArray.all (·.oneCell')=true:=by kernel_rfl
theorem gN (e1 e2:En) (v1 v2 v3 v4:Value) (k:Int):(cV (aA e1 v1 v2).toList (aA e2 v3 v4).toList k).toArray.size=61:=by kernel_rfl
structure Mr (w:World) (A:Nat) (cs ds:Array Value) (q:World):Prop where
 a:q.heap[A]?=some (.cells cs 24)
 b:q.heap[A+1]?=some (.cells ds 24)
 z:q.heap[A+1+1]?=some (.cells cm 34)
 l:Below w.heap.size w q
theorem Mr.step {w:World} {A:Nat} {cs ds:Array Value} {q q':World} (h:Mr w A cs ds q) (hb:Below q.heap.size q q'):Mr w A cs ds q' :=
 ⟨(hb.block _ (ge.1 h.a).1).trans h.a,(hb.block _ (ge.1 h.b).1).trans h.b,(hb.block _ (ge.1 h.z).1).trans h.z,h.l.trans (hb.mono h.l.size)⟩
theorem qX (w:World) (cs ds:Array Value):Mr w w.heap.size cs ds (((w.alloc (.cells cs 24)).alloc (.cells ds 24)).alloc (.cells cm 34)):=by
 obtain ⟨h1,h2,h3,h4⟩:=kh w (.cells cs 24) (.cells ds 24) (.cells cm 34);exact ⟨h1,h2,h3,h4⟩
theorem y_ (v1 v2:Value) (L:List Int) (w:World) (hn:L.length≤2000000) (h1:HoldsI w v1 L) (h2:HoldsI w v2 L) :
  Calls prog 14 #[v1,v2] w fun e w'=>e=.returned (.bool true)∧Below w.heap.size w w':=by
 have HA:Hid (∀ i (hi:i<L.length),(∃ g1,v1.ownBlock=some g1∧(∃ cp,v1=.slice (some ⟨g1,0,none⟩) L.length cp)∧g1<w.heap.size∧w.cell? ⟨g1,i,none⟩=some (.int .i64 L[i]))∧∃ g2,(∃ cp,v2=.slice (some ⟨g2,0,none⟩) L.length cp)∧g2<w.heap.size∧w.cell? ⟨g2,i,none⟩=some (.int .i64 L[i])):=by
  refine aa fun i hi=>⟨?_,?_⟩
  ·rcases h1 with ⟨_,_,_,e⟩ | ⟨g,cp,cur,e,q1,q2,q3⟩
   ·rw [e] at hi;exact absurd hi (Nat.not_lt_zero _)
   ·exact ⟨g,by rw [e];rfl,⟨cp,e⟩,(ge.1 q1).1,by rw [cr q1,q3 i hi];exact dB L i _ (List.getElem?_eq_getElem hi)⟩
  ·rcases h2 with ⟨_,_,_,e⟩ | ⟨g,cp,cur,e,q1,q2,q3⟩
   ·rw [e] at hi;exact absurd hi (Nat.not_lt_zero _)
   ·exact ⟨g,⟨cp,e⟩,(ge.1 q1).1,by rw [cr q1,q3 i hi];exact dB L i _ (List.getElem?_eq_getElem hi)⟩
 obtain ⟨a1,c1,rfl⟩:=h1.form;obtain ⟨a2,c2,rfl⟩:=h2.form;obtain ⟨n,hL⟩:∃ n,L.length=n:=⟨_,rfl⟩;rw [hL] at hn ⊢;clear h1 h2;go_enter func14,ntmps14
 go_wp2_with fail
 go_loopw [5] (fun y wr=>∃ (i:Nat),i≤n∧y=.int .i64 i∧Below w.heap.size w wr) (fun y _=>n - (intOf y).toNat)
 case atStart=>exact ⟨0,Nat.zero_le _,rfl,zC _ _⟩
 case round =>
  obtain ⟨i,hi,rfl,hb⟩:=hrel;by_cases hlt:i<n
  ·have d1:(i:Int)<(n:Int):=by omega
   have d0:(0:Int)≤(i:Int):=by omega
   obtain ⟨⟨g1,_,⟨cp1,e1⟩,hg1,k1⟩,g2,⟨cp2,e2⟩,hg2,k2⟩:=uh HA i (by omega);cases e1;cases e2;replace k1:=(hb.cell (p:=⟨g1,i,none⟩) hg1).trans k1;replace k2:=(hb.cell (p:=⟨g2,i,none⟩) hg2).trans k2;generalize L[i]'(by omega)=t at *;have HB:=aa hb;clear hb HA;go_wp2_with fail
   go_quiet (fail)
   go_wp2_with fail
   go_roundw
   case rel=>exact ⟨i+1,by omega,by go_num,(uh HB).os,(uh HB).tape,(uh HB).output,(uh HB).size,(uh HB).block⟩
   case measure=>simp [intOf];omega
  ·have e:i=n:=by omega
   subst e;have d1:¬ ((i:Int)<(i:Int)):=by omega
   go_wp2
   go_ret
   exact ⟨rfl,hb⟩
def vf (k n:Nat):List Int:=(List.range n).map fun (i:Nat)=>((k+i:Nat):Int)
theorem kF (k n:Nat):(vf k n).length=n:=by simp [vf]
theorem tg (k n i K:Nat) (h:i<n) (hK:k+i=K):(fE (vf k n))[i]?=some (.int .i64 (K:Int)):=by
 subst hK;exact dB _ i _ (by simp [vf,h])
theorem qZ (cur':Array Value) (L:List Value) (i:Nat) (A:Value) (hi:i<cur'.size) (h1:L[i]?=some A) (ha:∀ j,j<i→cur'[j]?=L[j]?):∀ j,j<i+1→(cur'.setIfInBounds i A)[j]?=L[j]?:=by
 intro j hj;rw [Array.getElem?_setIfInBounds];by_cases e1:i=j
 ·rw [if_pos e1,if_pos hi,← e1,h1]
 ·rw [if_neg e1];exact ha j (by omega)
theorem vg (g cap n k:Nat) (cur:Array Value) (w:World) (hk:0<k) (hn:k+n<9000000) (hc:n≤cur.size) (hg:w.heap[g]?=some (.cells cur 2)) :
  Calls prog 15 #[.slice (some ⟨g,0,none⟩) n cap,.int .i64 k] w fun e w'=>e=.returned (.int .i64 ((k+n:Nat):Int)) ∧
   (∃ cur',w'.heap[g]?=some (.cells cur' 2)∧cur'.size=cur.size∧∀ j,j<n→cur'[j]?=(fE (vf k n))[j]?)∧Nr g w w':=by
 have hgl:g<w.heap.size:=(ge.1 hg).1;go_enter func15,ntmps15
 go_wp2_with fail
 go_loopw [1,5] (fun x y wr=>∃ (i:Nat),i≤n∧y=.int .i64 i∧x=.int .i64 ((k+i:Nat):Int)∧(∃ cur',wr.heap[g]?=some (.cells cur' 2)∧cur'.size=cur.size∧∀ j,j<i→cur'[j]?=(fE (vf k n))[j]?)∧Nr g w wr) (fun _ y _=>n - (intOf y).toNat)
 case atStart=>exact ⟨0,Nat.zero_le _,rfl,rfl,⟨cur,hg,rfl,fun j hj=>by omega⟩,Nr.refl _ _⟩
 case round =>
  obtain ⟨i,hi,rfl,rfl,⟨cur',hg',hs',ha'⟩,hnr⟩:=hrel;by_cases hlt:i<n
  ·have d1:(i:Int)<(n:Int):=by omega
   have hgl':g<wr.heap.size:=Nat.lt_of_lt_of_le hgl hnr.size;obtain ⟨K,hK⟩:∃ K:Nat,k+i=K:=⟨_,rfl⟩;rw [hK];have HMg:=aa (tg k n i K hlt hK);have HKe:Hid ((K:Int)+1=((k+(i+1):Nat):Int)):=aa (by omega);have hK9:K<9000000:=by omega
   have HI:Hid (i<cur'.size):=aa (by omega);have HA:=aa ha';have HN:=aa hnr;obtain ⟨y1,hy1⟩:∃ y,wr.cell? ⟨g,i,none⟩=some y:=⟨cur'[i]'(uh HI),by rw [cr hg',Array.getElem?_eq_getElem (uh HI)]⟩;have hf1:wr.frozen? ⟨g,i,none⟩=false:=aX hg' _;have HG2:=aa hg';clear ha' hnr hg' hK;go_wp2_with fail
   go_roundw
   case rel =>
    refine ⟨i+1,by omega,by go_num,by rw [uh HKe],⟨_,zH _ _ i _ _ _ (uh HG2),by simp [hs'],?_⟩,(uh HN).setCell i _⟩;exact qZ cur' _ i _ (uh HI) (uh HMg) (uh HA)
   case measure=>simp [intOf];omega
  ·have e:i=n:=by omega
   subst e;have d1:¬ ((i:Int)<(i:Int)):=by omega
   go_wp2
   go_ret
   exact ⟨rfl,⟨cur',hg',hs',ha'⟩,hnr⟩
theorem vi (ad:Option Addr) (cp k:Nat) (w:World):Calls prog 15 #[.slice ad 0 cp,.int .i64 k] w fun e w'=>e=.returned (.int .i64 k)∧w'=w:=by
 go_enter func15,ntmps15
 go_wp2_with fail
 go_loopw [1,5] (fun x y wr=>x=.int .i64 k∧y=.int .i64 0∧wr=w) (fun _ _ _=>0)
 case atStart=>exact ⟨rfl,rfl,rfl⟩
 case round =>
  obtain ⟨rfl,rfl,rfl⟩:=hrel;go_wp2
  go_ret
  exact ⟨rfl,rfl⟩
theorem vj (v:Value) (L:List Int) (k:Nat) (w:World) (hk:0<k) (hL:k+L.length<9000000) (h:HoldsI w v L) :
  Calls prog 15 #[v,.int .i64 k] w fun e w'=>e=.returned (.int .i64 ((k+L.length:Nat):Int))∧HoldsI w' v (vf k L.length)∧But v.ownBlock w w'∧(L=[]→Below w.heap.size w w'):=by
 by_cases hLe:L=[]
 ·subst hLe;obtain ⟨ad,cp,rfl⟩:=h.form;exact (vi ad cp k w).mono fun e w' ⟨p1,p2⟩=>⟨p1,Or.inl ⟨ad,cp,rfl,rfl⟩,p2 ▸ But.of_below (zC _ _),fun _=>p2 ▸ zC _ _⟩
 ·rcases h with ⟨ad,cp,rfl,e0⟩ | ⟨g,cp,cur,rfl,h2,h3,h4⟩
  ·exact absurd e0 hLe
  ·refine (vg g cp L.length k cur w hk hL h3 h2).mono fun e w' ⟨p1,⟨cur',q1,q2,q3⟩,p3⟩=>⟨p1,Or.inr ⟨g,cp,cur',by rw [kF],q1,by rw [kF];omega,by rw [kF];exact q3⟩,⟨p3.os,p3.tape,p3.output,p3.size,fun b hb hne=>p3.block b hb fun e=>hne (by rw [e];rfl)⟩,fun h=>absurd h hLe⟩
theorem EnM.keepB {base:Nat} {W W':World} {ca:List Value} {s:Sd} (h:EnM base W ca s) (k:∀ g,base≤g→g<W.heap.size→kK ca g→W'.heap[g]?=W.heap[g]?):EnM base W' ca s:=by
 have hb:=h.blk;obtain ⟨x1,x2,y1,y2,rfl,h1,h2,l⟩:=h;exact ⟨x1,x2,y1,y2,rfl,ak h1 fun g hg=>k g (hb g (Or.inl ⟨_,rfl,hg⟩)).1 (hb g (Or.inl ⟨_,rfl,hg⟩)).2 (Or.inl ⟨_,rfl,hg⟩),ak h2 fun g hg=>k g (hb g (Or.inr ⟨_,rfl,hg⟩)).1 (hb g (Or.inr ⟨_,rfl,hg⟩)).2 (Or.inr ⟨_,rfl,hg⟩),l⟩
def AnQ (dj:Bool) (lo hi:Nat) (W:World) (o:MO) (cs:List Value):Prop:=∃ ca cb,cs=cV ca cb o.cd∧EnM lo W ca o.a∧EnM lo W cb o.b∧(dj=true→∀ g,kK ca g→¬ kK cb g)∧∀ g,kK ca g∨kK cb g→g<hi
theorem AnQ.of {dj:Bool} {base:Nat} {W:World} {o:MO} {cs:List Value} (h:ye dj base W o cs):AnQ dj base W.heap.size W o cs:=by
 obtain ⟨ca,cb,e,ha,hb,hd⟩:=h;exact ⟨ca,cb,e,ha,hb,hd,fun g hg=>hg.elim (fun h=>(ha.blk g h).2) (fun h=>(hb.blk g h).2)⟩
section
variable {dj:Bool} {lo hi:Nat} {W W':World} {o:MO} {cs:List Value}
theorem AnQ.keep (h:AnQ dj lo hi W o cs) (k:∀ g,lo≤g→g<hi→g<W.heap.size→W'.heap[g]?=W.heap[g]?):AnQ dj lo hi W' o cs:=by
 obtain ⟨ca,cb,e,ha,hb,hd,hr⟩:=h;exact ⟨ca,cb,e,ha.keepB fun g h1 h2 hg=>k g h1 (hr g (Or.inl hg)) h2,hb.keepB fun g h1 h2 hg=>k g h1 (hr g (Or.inr hg)) h2,hd,hr⟩
theorem AnQ.step (h:AnQ dj lo hi W o cs) (hb:Below W.heap.size W W'):AnQ dj lo hi W' o cs:=h.keep fun g _ _ hg=>hb.block g hg
theorem AnQ.rg {a b:Nat} (h:AnQ dj lo hi W o cs) (hr:Rg a b W W') (hd:hi≤a∨b≤lo):AnQ dj lo hi W' o cs:=h.keep fun g h1 h2 hg=>hr.block g hg (fun e=>by omega)
theorem AnQ.ty (h:AnQ dj lo hi W o cs) (k:∀ (g:Nat) (cur:Array Value),W.heap[g]?=some (.cells cur 105)→W'.heap[g]?=W.heap[g]?):AnQ dj lo hi W' o cs:=by
 obtain ⟨ca,cb,e,ha,hb,hd,hr⟩:=h;exact ⟨ca,cb,e,ha.keep k,hb.keep k,hd,hr⟩
theorem AnQ.len (h:AnQ dj lo hi W o cs):cs.toArray.size=61:=by
 obtain ⟨ca,cb,e,ha,hb,_⟩:=h;rw [e];unfold cV;rw [List.size_toArray,List.length_append,List.length_append,ha.len,hb.len];rfl
theorem AnQ.one (h:AnQ dj lo hi W o cs):cs.toArray.all (·.oneCell')=true:=by
 obtain ⟨ca,cb,e,ha,hb,_⟩:=h;obtain ⟨x1,x2,y1,y2,rfl,_⟩:=ha;obtain ⟨x3,x4,y3,y4,rfl,_⟩:=hb;rw [e];exact kE _ _ _ _ _ _ _ _ _ _ _ _ _ _ _
theorem zc {d2:Bool} {l2 h2:Nat} {ds:List Value} (h:AnQ dj lo hi W o cs) (k:AnQ d2 l2 h2 W o ds):Calls prog 13 #[.agg cs.toArray,.agg ds.toArray] W fun r w'=>r=.returned (.bool true)∧Below W.heap.size W w':=by
 obtain ⟨ca,cb,rfl,ha,hb,_⟩:=h;obtain ⟨da,db,rfl,ka,kb,_⟩:=k;have key:∀ {l1 l2:Nat} {c d:List Value} {s:Sd} (W':World),EnM l1 W c s→EnM l2 W d s→Below W.heap.size W W'→Calls prog 32 #[.agg c.toArray,.agg d.toArray] W' fun r w'=>r=.returned (.bool true)∧Below W'.heap.size W' w':=fun W' h k hb=>by
  obtain ⟨x1,x2,y1,y2,rfl,q1,q2,_,n1,n2⟩:=h;obtain ⟨x3,x4,y3,y4,rfl,q3,q4,_,_,_⟩:=k;exact uv _ x1 x2 x3 x4 y1 y2 y3 y4 _ _ W' (by omega) (by omega) ((HoldsO.own q1).below hb rfl) ((HoldsO.own q2).below hb rfl) ((HoldsO.own q3).below hb rfl) ((HoldsO.own q4).below hb rfl)
 exact yo ha.len hb.len ka.len kb.len (fun W' hW=>key W' ha ka hW) (fun W' hW=>key W' hb kb hW)
end
def MkM (o:MO) (cs:List Value) (W:World):Prop:=∃ (x1 x2 x3 x4:Option Addr) (y1 y2 y3 y4:Nat),cs=cV (aA o.a.e (.slice x1 o.a.F1.length y1) (.slice x2 o.a.F2.length y2)).toList (aA o.b.e (.slice x3 o.b.F1.length y3) (.slice x4 o.b.F2.length y4)).toList o.cd∧HoldsO W (.slice x1 o.a.F1.length y1) (jb 1 o.a.F1.length)∧HoldsO W (.slice x2 o.a.F2.length y2) (jb (1+2*o.a.F1.length) o.a.F2.length)∧HoldsO W (.slice x3 o.b.F1.length y3) (jb (1+2*o.a.F1.length+2*o.a.F2.length) o.b.F1.length)∧HoldsO W (.slice x4 o.b.F2.length y4) (jb (1+2*o.a.F1.length+2*o.a.F2.length+2*o.b.F1.length) o.b.F2.length)
theorem MkM.keep {o:MO} {cs:List Value} {W W':World} (h:MkM o cs W) (k:∀ (g:Nat) (cur:Array Value),W.heap[g]?=some (.cells cur 105)→W'.heap[g]?=W.heap[g]?):MkM o cs W':=by
 obtain ⟨x1,x2,x3,x4,y1,y2,y3,y4,e,h1,h2,h3,h4⟩:=h;have key:∀ {v:Value} {F:List Op.Opt},HoldsO W v F→HoldsO W' v F:=fun h=>h.imp id fun ⟨g,cp,cur,e,q1,q2⟩=>⟨g,cp,cur,e,(k g cur q1).trans q1,q2⟩
 exact ⟨x1,x2,x3,x4,y1,y2,y3,y4,e,key h1,key h2,key h3,key h4⟩
theorem MkM.step {o:MO} {cs:List Value} {W W':World} (h:MkM o cs W) (hb:Below W.heap.size W W'):MkM o cs W':=h.keep fun g _ hg=>hb.block g (ge.1 hg).1
theorem q_ {w:World} {F1 F2:List Op.Opt} {v1 v2:Value} (h1:HoldsO w v1 F1) (ap:Ap v1 v2):F1≠[]→F2≠[]→v1.ownBlock≠v2.ownBlock:=by
 intro a _ e;rcases h1 with ⟨_,_,_,e0⟩ | ⟨g,cp,cur,e1,_⟩
 ·exact a e0
 ·exact ap g (by rw [e1];rfl) (by rw [← e,e1];rfl)
theorem jZ {n g:Nat} {v:Value} (h:v.ownBlock≠some g):nb n v≠some g:=fun e=>h (fD e)
theorem og {w:World} {v:Value} {F:List Op.Opt} {b:Nat} {cur:Array Value} {T:TypeId} (h:HoldsO w v F) (hb:w.heap[b]?=some (.cells cur T)) (hT:T≠105):nb F.length v≠some b:=fun e=>by
 rcases h with ⟨_,_,_,e0⟩ | ⟨g,cp,cu,e1,q1,_⟩
 ·rw [e0] at e;cases e
 ·have hg:=fD e;rw [e1] at hg;cases hg;rw [hb] at q1;injection q1 with q1;injection q1 with _ q1;exact hT q1
theorem xP {lo hi:Nat} {W:World} {o:MO} {cs:List Value} (h:AnQ true lo hi W o cs):Calls prog 16 #[.agg cs.toArray,.int .i64 1] W fun r w'=>r=.returned (.int .i64 ((1+2*o.a.F1.length+2*o.a.F2.length+2*o.b.F1.length+2*o.b.F2.length:Nat):Int))∧MkM o cs w'∧Rg lo hi W w'∧∀ (b:Nat) (cur:Array Value) (T:TypeId),T≠105→W.heap[b]?=some (.cells cur T)→w'.heap[b]?=W.heap[b]?:=by
 obtain ⟨ca,cb,rfl,ha,hb,hd,hr⟩:=h;have hxx:=hd rfl;have hbA:=ha.blk;have hbB:=hb.blk;obtain ⟨x1,x2,y1,y2,rfl,p1,p2,ap,l1,l2⟩:=ha;obtain ⟨x3,x4,y3,y4,rfl,p3,p4,ap',l3,l4⟩:=hb;have b1:∀ g,(Value.slice x1 o.a.F1.length y1).ownBlock=some g→kK (aA o.a.e (.slice x1 o.a.F1.length y1) (.slice x2 o.a.F2.length y2)).toList g:=fun g hg=>Or.inl ⟨_,rfl,hg⟩
 have b2:∀ g,(Value.slice x2 o.a.F2.length y2).ownBlock=some g→kK (aA o.a.e (.slice x1 o.a.F1.length y1) (.slice x2 o.a.F2.length y2)).toList g:=fun g hg=>Or.inr ⟨_,rfl,hg⟩
 have b3:∀ g,(Value.slice x3 o.b.F1.length y3).ownBlock=some g→kK (aA o.b.e (.slice x3 o.b.F1.length y3) (.slice x4 o.b.F2.length y4)).toList g:=fun g hg=>Or.inl ⟨_,rfl,hg⟩
 have b4:∀ g,(Value.slice x4 o.b.F2.length y4).ownBlock=some g→kK (aA o.b.e (.slice x3 o.b.F1.length y3) (.slice x4 o.b.F2.length y4)).toList g:=fun g hg=>Or.inr ⟨_,rfl,hg⟩
 refine uz (k1:=((1+2*o.a.F1.length+2*o.a.F2.length:Nat):Int)) (k2:=((1+2*o.a.F1.length+2*o.a.F2.length+2*o.b.F1.length+2*o.b.F2.length:Nat):Int)) (P1:=fun w1=>HoldsO w1 (.slice x1 o.a.F1.length y1) (jb 1 o.a.F1.length)∧HoldsO w1 (.slice x2 o.a.F2.length y2) (jb (1+2*o.a.F1.length) o.a.F2.length)∧HoldsO w1 (.slice x3 o.b.F1.length y3) o.b.F1∧HoldsO w1 (.slice x4 o.b.F2.length y4) o.b.F2∧Rg lo hi W w1∧∀ (b:Nat) (cur:Array Value) (T:TypeId),T≠105→W.heap[b]?=some (.cells cur T)→w1.heap[b]?=W.heap[b]?) (P2:=fun w'=>MkM o _ w'∧Rg lo hi W w'∧∀ (b:Nat) (cur:Array Value) (T:TypeId),T≠105→W.heap[b]?=some (.cells cur T)→w'.heap[b]?=W.heap[b]?) rfl rfl ?_ ?_
 ·intro W' hW hrow;have hs:=hW.size;refine (li o.a.e x1 x2 y1 y2 o.a.F1 o.a.F2 1 W' (by decide) (by omega) ((HoldsO.own p1).below hW rfl) ((HoldsO.own p2).below hW rfl) (q_ ((HoldsO.own p1).below hW rfl) ap)).mono ?_;rintro r w1 ⟨rfl,G1,G2,b12⟩;have st:∀ g,g<W.heap.size→(Value.slice x1 o.a.F1.length y1).ownBlock≠some g→(Value.slice x2 o.a.F2.length y2).ownBlock≠some g→w1.heap[g]?=W.heap[g]?:=fun g hg e1 e2=>(b12.block g (by omega) (jZ e1) (jZ e2)).trans (hW.block g hg)
  refine ⟨rfl,?_,G1,G2,(HoldsO.own p3).other fun g hg=>st g (hbB g (b3 g hg)).2 (fun e=>hxx g (b1 g e) (b3 g hg)) (fun e=>hxx g (b2 g e) (b3 g hg)),(HoldsO.own p4).other fun g hg=>st g (hbB g (b4 g hg)).2 (fun e=>hxx g (b1 g e) (b4 g hg)) (fun e=>hxx g (b2 g e) (b4 g hg)),⟨b12.os.trans hW.os,b12.tape.trans hW.tape,b12.output.trans hW.output,zE hs b12.size,fun b hb0 hn=>st b hb0 (fun e=>hn ⟨(hbA b (b1 b e)).1,hr b (Or.inl (b1 b e))⟩) (fun e=>hn ⟨(hbA b (b2 b e)).1,hr b (Or.inl (b2 b e))⟩)⟩,fun b cur T hT hb0=>(b12.block b (Nat.lt_of_lt_of_le (ge.1 hb0).1 hs) (og (HoldsO.own p1) hb0 hT) (og (HoldsO.own p2) hb0 hT)).trans (hW.block b (ge.1 hb0).1)⟩;exact (b12.block _ (ge.1 hrow).1 (jZ fun e=>by have:=(hbA _ (b1 _ e)).2;omega) (jZ fun e=>by have:=(hbA _ (b2 _ e)).2;omega)).trans hrow
 ·rintro W1 ⟨G1,G2,h3,h4,rg,ty⟩;refine (li o.b.e x3 x4 y3 y4 o.b.F1 o.b.F2 (1+2*o.a.F1.length+2*o.a.F2.length) W1 (by omega) (by omega) h3 h4 (q_ h3 ap')).mono ?_;rintro r w2 ⟨rfl,G3,G4,b34⟩;have hs:=rg.size;have st:∀ g,g<W.heap.size→(Value.slice x3 o.b.F1.length y3).ownBlock≠some g→(Value.slice x4 o.b.F2.length y4).ownBlock≠some g→w2.heap[g]?=W1.heap[g]?:=fun g hg e1 e2=>b34.block g (by omega) (jZ e1) (jZ e2)
  exact ⟨rfl,⟨x1,x2,x3,x4,y1,y2,y3,y4,rfl,G1.other fun g hg=>st g (hbA g (b1 g hg)).2 (fun e=>hxx g (b1 g hg) (b3 g e)) (fun e=>hxx g (b1 g hg) (b4 g e)),G2.other fun g hg=>st g (hbA g (b2 g hg)).2 (fun e=>hxx g (b2 g hg) (b3 g e)) (fun e=>hxx g (b2 g hg) (b4 g e)),G3,G4⟩,
   ⟨b34.os.trans rg.os,b34.tape.trans rg.tape,b34.output.trans rg.output,zE hs b34.size,fun b hb0 hn=>(st b hb0 (fun e=>hn ⟨(hbB b (b3 b e)).1,hr b (Or.inr (b3 b e))⟩) (fun e=>hn ⟨(hbB b (b4 b e)).1,hr b (Or.inr (b4 b e))⟩)).trans (rg.block b hb0 hn)⟩,fun b cur T hT hb0=>(b34.block b (Nat.lt_of_lt_of_le (ge.1 hb0).1 hs) (og (HoldsO.own p3) hb0 hT) (og (HoldsO.own p4) hb0 hT)).trans (ty b cur T hT hb0)⟩
theorem xQ {W:World} {o:MO} {cs:List Value} (h:MkM o cs W) (l1:o.a.F1.length≤100000) (l2:o.a.F2.length≤100000) (l3:o.b.F1.length≤100000) (l4:o.b.F2.length≤100000):Calls prog 17 #[.agg cs.toArray,.int .i64 1] W fun r w'=>r=.returned (.int .i64 ((1+2*o.a.F1.length+2*o.a.F2.length+2*o.b.F1.length+2*o.b.F2.length:Nat):Int))∧Below W.heap.size W w':=by
 obtain ⟨x1,x2,x3,x4,y1,y2,y3,y4,rfl,h1,h2,h3,h4⟩:=h;refine uA (k1:=((1+2*o.a.F1.length+2*o.a.F2.length:Nat):Int)) rfl rfl (by omega) (by omega) (fun W' hW=>?_) (fun W' hW=>?_)
 ·exact lj o.a.e x1 x2 _ _ y1 y2 1 W' (by decide) (by omega) (h1.below hW rfl) (h2.below hW rfl)
 ·exact lj o.b.e x3 x4 _ _ y3 y4 (1+2*o.a.F1.length+2*o.a.F2.length) W' (by omega) (by omega) (h3.below hW rfl) (h4.below hW rfl)
structure K0 (w:World) (A:Nat) (cs ds:Array Value) (q:World):Prop where
 a:q.heap[A]?=some (.cells cs 40)
 b:q.heap[A+1]?=some (.cells ds 40)
 low:Below w.heap.size w q
section
variable {w:World} {A:Nat} {cs ds:Array Value} {q q':World} {N:Nat} {c c':Array Value}
theorem K0.step (h:K0 w A cs ds q) (hb:Below q.heap.size q q'):K0 w A cs ds q' :=
 ⟨(hb.block _ (ge.1 h.a).1).trans h.a,(hb.block _ (ge.1 h.b).1).trans h.b,h.low.trans (hb.mono h.low.size)⟩
theorem jB {k:Nat} {T T2:TypeId} {d:Array Value} (hN:q.heap[N]?=some (.cells c T2)) (hk:q.heap[k]?=some (.cells d T)) (hT:T≠T2):k≠N:=fun e=>by
 rw [e,hN] at hk;injection hk with hk;injection hk with _ hk;exact hT hk.symm
theorem K0.sw (h:K0 w A cs ds q) (hN:q.heap[N]?=some (.cells c 34)) (hw:w.heap.size≤N):K0 w A cs ds (q.setRow N c') :=
 ⟨(bH q N A c' (jB hN h.a (by decide))).trans h.a,(bH q N (A+1) c' (jB hN h.b (by decide))).trans h.b,am h.low hw _⟩
theorem K0.rg {lo hi:Nat} (h:K0 w A cs ds q) (hr:Rg lo hi q q') (hA:A+1<lo) (hw:w.heap.size≤lo):K0 w A cs ds q' :=
 ⟨(hr.block _ (ge.1 h.a).1 (fun e=>by omega)).trans h.a,(hr.block _ (ge.1 h.b).1 (fun e=>by omega)).trans h.b,hr.below h.low hw (zD _)⟩
theorem AnQ.sw {dj:Bool} {lo hi:Nat} {o:MO} {d:List Value} (h:AnQ dj lo hi q o d) (hN:q.heap[N]?=some (.cells c 34)):AnQ dj lo hi (q.setRow N c') o d :=
 h.ty fun g _ hg=>bH q N g c' (jB hN hg (by decide))
theorem MkM.sw {o:MO} {d:List Value} (h:MkM o d q) (hN:q.heap[N]?=some (.cells c 34)):MkM o d (q.setRow N c') :=
 h.keep fun g _ hg=>bH q N g c' (jB hN hg (by decide))
theorem HoldsI.sw {v:Value} {L:List Int} (h:HoldsI q v L) (hN:q.heap[N]?=some (.cells c 34)):HoldsI (q.setRow N c') v L :=
 h.imp id fun ⟨g,cp,cur,e,q1,q2⟩=>⟨g,cp,cur,e,(bH q N g c' (jB hN q1 (by decide))).trans q1,q2⟩
end
structure K2 (w:World) (A:Nat) (cs ds:Array Value) (o:MO) (bw lo1 hi1:Nat) (cw:List Value) (u:Value) (L:List Int) (q:World):Prop where
 j:K0 w A cs ds q
 m:q.heap[bw]?=some (.cells cw.toArray 34)
 d:AnQ false lo1 hi1 q o cw
 x:HoldsI q u L
structure K4 (w:World) (A:Nat) (cs ds:Array Value) (o:MO) (bw lo1 hi1:Nat) (cw:List Value) (bg:Nat) (cg:List Value) (q:World):Prop where
 j:K0 w A cs ds q
 m:q.heap[bw]?=some (.cells cw.toArray 34)
 d:AnQ false lo1 hi1 q o cw
 g:q.heap[bg]?=some (.cells cg.toArray 34)
 k:MkM o cg q
section
variable {w:World} {A:Nat} {cs ds:Array Value} {o:MO} {bw lo1 hi1:Nat} {cw:List Value} {u:Value} {L:List Int} {bg:Nat} {cg:List Value} {q q':World} {N:Nat} {c c':Array Value}
theorem K2.low (h:K2 w A cs ds o bw lo1 hi1 cw u L q):Below w.heap.size w q:=h.j.low
theorem K2.step (h:K2 w A cs ds o bw lo1 hi1 cw u L q) (hb:Below q.heap.size q q'):K2 w A cs ds o bw lo1 hi1 cw u L q' :=
 ⟨h.j.step hb,(hb.block _ (ge.1 h.m).1).trans h.m,h.d.step hb,h.x.below hb rfl⟩
theorem K2.sw (h:K2 w A cs ds o bw lo1 hi1 cw u L q) (hN:q.heap[N]?=some (.cells c 34)) (hw:w.heap.size≤N∧bw<N):K2 w A cs ds o bw lo1 hi1 cw u L (q.setRow N c') :=
 ⟨h.j.sw hN hw.1,(bH q N bw c' (by omega)).trans h.m,h.d.sw hN,h.x.sw hN⟩
theorem K4.low (h:K4 w A cs ds o bw lo1 hi1 cw bg cg q):Below w.heap.size w q:=h.j.low
theorem K4.step (h:K4 w A cs ds o bw lo1 hi1 cw bg cg q) (hb:Below q.heap.size q q'):K4 w A cs ds o bw lo1 hi1 cw bg cg q' :=
 ⟨h.j.step hb,(hb.block _ (ge.1 h.m).1).trans h.m,h.d.step hb,(hb.block _ (ge.1 h.g).1).trans h.g,h.k.step hb⟩
theorem K4.sw (h:K4 w A cs ds o bw lo1 hi1 cw bg cg q) (hN:q.heap[N]?=some (.cells c 34)) (hw:w.heap.size≤N∧bw<N∧bg<N):K4 w A cs ds o bw lo1 hi1 cw bg cg (q.setRow N c') :=
 ⟨h.j.sw hN hw.1,(bH q N bw c' (by omega)).trans h.m,h.d.sw hN,(bH q N bg c' (by omega)).trans h.g,h.k.sw hN⟩
end
structure Jq (J:World→Prop) (dj:Bool) (base:Nat) (o:MO) (cs:List Value) (q:World) (bb lo hi:Nat):Prop where
 j:J q
 m:q.heap[bb]?=some (.cells cs.toArray 34)
 d:AnQ dj lo hi q o cs
 b1:base≤bb
 b2:base≤lo
 b4:bb<q.heap.size
 b5:hi≤q.heap.size
structure Jp (J:World→Prop) (base:Nat) (q:World):Prop where
 j:J q
 sz:base≤q.heap.size
theorem Jp.step {J:World→Prop} (hJ:∀ q q',J q→Below q.heap.size q q'→J q') {base:Nat} {q q':World} (h:Jp J base q) (hb:Below q.heap.size q q'):Jp J base q':=⟨hJ _ _ h.j hb,zE h.sz hb.size⟩
theorem Jq.mk9 {J:World→Prop} {dj:Bool} {base:Nat} {o:MO} {cs:List Value} {q:World} {bb lo hi:Nat} (hJ:J (q.setRow bb cs.toArray)) (hN:q.heap[bb]?=some (.cells cm 34)) (d:AnQ dj lo hi q o cs) (b1:base≤bb) (b2:base≤lo) (b5:hi≤q.heap.size):Jq J dj base o cs (q.setRow bb cs.toArray) bb lo hi :=
 ⟨hJ,setRow_heap q bb _ cs.toArray _ _ hN,d.sw hN,b1,b2,by rw [io];exact (ge.1 hN).1,by rw [io];exact b5⟩
theorem rb (m1 a1 g1:Int) (p1 c1 d1:Bool) (m2 a2 g2:Int) (p2 c2 d2:Bool) (L:List Int) (st:Bool) {dj:Bool} {lo hi:Nat} {W:World} {cs:List Value} (h:AnQ dj lo hi W (eC m1 a1 g1 p1 c1 d1 m2 a2 g2 p2 c2 d2 L st) cs):(eC m1 a1 g1 p1 c1 d1 m2 a2 g2 p2 c2 d2 L st).a.F1.length≤100000∧(eC m1 a1 g1 p1 c1 d1 m2 a2 g2 p2 c2 d2 L st).a.F2.length≤100000∧(eC m1 a1 g1 p1 c1 d1 m2 a2 g2 p2 c2 d2 L st).b.F1.length≤100000∧(eC m1 a1 g1 p1 c1 d1 m2 a2 g2 p2 c2 d2 L st).b.F2.length≤100000:=by
 obtain ⟨ca,cb,e,⟨_,_,_,_,_,_,_,_,h1,h2⟩,⟨_,_,_,_,_,_,_,_,h3,h4⟩,_⟩:=h;exact ⟨h1,h2,h3,h4⟩
theorem rl (m:Mw):(cT m).now=m.now+1:=by
 unfold cT;dsimp only;show (au aN (au aI m.a.ln.length m).b.ln.length (au aI m.a.ln.length m)).now+1=_
 rw [(fH _ _ (zD _)).2,(fG _ _ (zD _)).2]
theorem ij (m:Mw):∀ i:Nat,(au cT i m).now=m.now+i
 | 0=>by simp [au]
 | i+1=>by
  show (cT (au cT i m)).now=_
  rw [rl,ij m i];omega
theorem rm {base:Nat} {W:World} {B:Nat} {m:Mw} {va vb:Value} (h:MW base B m W va vb) (h0:0≤m.now) (h1:m.now≤100000) :
  Calls prog 25 #[.pointer (some ⟨B,0,none⟩)] W fun e W'=>e=.returned (.tuple #[])∧∃ va' vb',MW base B (au cT 100 m) W' va' vb'∧FW B va vb va' vb' W W':=by
 have H0:=aa h;clear h;go_enter func25,ntmps25
 go_wp2_with fail
 go_loopw [2] (fun p wr=>∃ (i:Nat) (va' vb':Value),i≤100∧p=.int .i64 i∧MW base B (au cT i m) wr va' vb'∧FW B va vb va' vb' W wr) (fun p _=>100 - (intOf p).toNat)
 case atStart=>exact ⟨0,va,vb,by omega,rfl,uh H0,fun _=>Fw.refl _ _ _ _ _⟩
 case round =>
  obtain ⟨i,va',vb',hi,rfl,hM,hf⟩:=hrel;by_cases hlt:i<100
  ·have d1:(i:Int)<100:=by omega
   have hnw:=ij m i;have HST:Hid (au cT (i+1) m=cT (au cT i m)):=aa rfl;have HM:=aa (zA hM hf);clear hM hf H0;generalize au cT i m=mi at *;have hn0:0≤mi.now:=by omega
   have hn1:mi.now≤1000000:=by omega
   clear hnw;go_upto_region 2 with fail
   have hd2:MW base B mi wr.drew va' vb':=by
    obtain ⟨ca,cb,hM⟩:=(uh HM).1;exact ⟨ca,cb,hM.below (zC _ _).drew⟩
   have hS2:wr.drew.cell? ⟨B,62,none⟩=some (.int .i64 mi.now):=by
    obtain ⟨ca,cb,hM⟩:=hd2;exact hM.now.1
   obtain ⟨ad2,cp2,hv2⟩:∃ ad cp,wr.drew.cell? ⟨B,30,none⟩=some (.slice ad mi.a.ln.length cp):=by
    obtain ⟨ca,cb,hM⟩:=hd2;obtain ⟨ad,cp,e⟩:=hM.ha.form;have:=bI hM.sa.wr.row
    rw [show ([] ++ ca:List Value).length=30 from hM.ea.len,e] at this;exact ⟨ad,cp,this⟩
   have CC2:=aa (l5 hv2);have CH2:=aa fun (q:World) (C1 C2:Nat) (hb:Below wr.drew.heap.size wr.drew q) (b1:q.heap[C1]?=some (.cells #[.int .i64 ((mi.a.ln.length:Nat):Int)] 3)) (b2:q.heap[C2]?=some (.cells #[.pointer (some ⟨B,30,none⟩)] 111))=>rj (show MW base B mi q va' vb' by
    obtain ⟨ca,cb,hM⟩:=hd2;exact ⟨ca,cb,hM.below hb⟩) b1 b2
   have hmn2:min mi.a.ln.length mi.a.ln.length=mi.a.ln.length:=Nat.min_self _;rw [hmn2] at CH2;have hnw2:=(fG mi _ (zD _)).2;clear hd2 hmn2;have HN2:Hid (∀ y va' vb',MW base B (au aI mi.a.ln.length mi) y va' vb'→y.cell? ⟨B,62,none⟩=some (.int .i64 mi.now)):=aa fun y va' vb' ⟨_,_,hM⟩=>by rw [← hnw2];exact hM.now.1
   generalize hu2:au aI mi.a.ln.length mi=u2 at CH2 hnw2 HN2;have HU2:=aa (zA hu2 hnw2);clear hu2 hnw2;generalize hln2:mi.a.ln.length=n2 at CC2 CH2 hv2;clear hln2;refine wp_region_held_drew (S:=fun z=>z.cell? ⟨B,62,none⟩=some (.int .i64 mi.now)) (by kernel_rfl) hS2 (fun hHeld=>?_);refine tq 0 1 2 3 ?_;refine tq 4 5 6 8 ?_;refine tt 9 10 ?_;refine t2 11 ?_;refine r3 7 fun K hK=>?_
   go_simp;refine (uh CC2).mono ?_;rintro e q2 ⟨C1,C2,rfl,b1,b2,hb,_,_⟩;have HQ2:=aa (uh CH2 q2 C1 C2 hb b1 b2);have hSq:q2.cell? ⟨B,62,none⟩=some (.int .i64 mi.now):=(hb.cell (p:=⟨B,62,none⟩) (World.block_lt_of_cell? _ _ hS2)).trans hS2;have HB2:=aa hb;clear CC2 CH2 b1 b2 hb hv2;refine ro hK hSq fun _=>?_
   clear hK K;refine r3 12 fun K hK=>?_
   go_simp;refine (uh HQ2).mono ?_;rintro e W2 ⟨rfl,va2,vb2,hm2,hf2⟩;have hSz:=uh HN2 _ _ _ hm2;have HM2:=aa (zA hm2 ((uh HM).2.trans ((FW.of_below ((zC wr.heap.size wr).drew.trans (uh HB2))).trans hf2)));clear hm2 hf2 HQ2 HB2 HM hS2 hSq HN2 hHeld;refine ro hK hSz fun _=>?_
   clear hK K hSz;refine dn ?_ _;go_upto_region 3 with fail
   have hd3:MW base B u2 W2.drew va2 vb2:=by
    obtain ⟨ca,cb,hM⟩:=(uh HM2).1;exact ⟨ca,cb,hM.below (zC _ _).drew⟩
   have hS3:W2.drew.cell? ⟨B,62,none⟩=some (.int .i64 u2.now):=by
    obtain ⟨ca,cb,hM⟩:=hd3;exact hM.now.1
   obtain ⟨ad3,cp3,hv3⟩:∃ ad cp,W2.drew.cell? ⟨B,61,none⟩=some (.slice ad u2.b.ln.length cp):=by
    obtain ⟨ca,cb,hM⟩:=hd3;obtain ⟨ad,cp,e⟩:=hM.hb.form;have:=bI hM.sb.wr.row
    rw [hM.lenB,e] at this;exact ⟨ad,cp,this⟩
   have CC3:=aa (l5 hv3);have CH3:=aa fun (q:World) (C1 C2:Nat) (hb:Below W2.drew.heap.size W2.drew q) (b1:q.heap[C1]?=some (.cells #[.int .i64 ((u2.b.ln.length:Nat):Int)] 3)) (b2:q.heap[C2]?=some (.cells #[.pointer (some ⟨B,61,none⟩)] 111))=>rk (show MW base B u2 q va2 vb2 by
    obtain ⟨ca,cb,hM⟩:=hd3;exact ⟨ca,cb,hM.below hb⟩) b1 b2
   have hmn3:min u2.b.ln.length u2.b.ln.length=u2.b.ln.length:=Nat.min_self _;rw [hmn3] at CH3;have hnw3:=(fH u2 _ (zD _)).2;clear hd3 hmn3;have HN3:Hid (∀ y va' vb',MW base B (au aN u2.b.ln.length u2) y va' vb'→y.cell? ⟨B,62,none⟩=some (.int .i64 u2.now)):=aa fun y va' vb' ⟨_,_,hM⟩=>by rw [← hnw3];exact hM.now.1
   generalize hu3:au aN u2.b.ln.length u2=u3 at CH3 hnw3 HN3;have HU3:=aa (zA hu3 hnw3);clear hu3 hnw3;generalize hln3:u2.b.ln.length=n3 at CC3 CH3 hv3;clear hln3;refine wp_region_held_drew (S:=fun z=>z.cell? ⟨B,62,none⟩=some (.int .i64 u2.now)) (by kernel_rfl) hS3 (fun hHeld=>?_);refine tq 0 1 2 3 ?_;refine tq 4 5 6 8 ?_;refine tt 9 10 ?_;refine t2 11 ?_;refine r3 7 fun K hK=>?_
   go_simp;refine (uh CC3).mono ?_;rintro e q3 ⟨C1,C2,rfl,b1,b2,hb,_,_⟩;have HQ3:=aa (uh CH3 q3 C1 C2 hb b1 b2);have hSq:q3.cell? ⟨B,62,none⟩=some (.int .i64 u2.now):=(hb.cell (p:=⟨B,62,none⟩) (World.block_lt_of_cell? _ _ hS3)).trans hS3;have HB3:=aa hb;clear CC3 CH3 b1 b2 hb hv3;refine ro hK hSq fun _=>?_
   clear hK K;refine r3 12 fun K hK=>?_
   go_simp;refine (uh HQ3).mono ?_;rintro e W3 ⟨rfl,va3,vb3,hm3,hf3⟩;have hSz:=uh HN3 _ _ _ hm3;have HM3:=aa (zA hm3 ((uh HM2).2.trans ((FW.of_below ((zC W2.heap.size W2).drew.trans (uh HB3))).trans hf3)));clear hm3 hf3 HQ3 HB3 HM2 hS3 hSq HN3 hHeld;refine ro hK hSz fun _=>?_
   clear hK K hSz;refine dn ?_ _;have hg3:cT mi=ng u3:=by
    rw [← (uh HU3).1,← (uh HU2).1];rfl
   rw [hg3] at HST;have CG:=aa (tL (uh HM3).1 (by rw [(uh HU3).2,(uh HU2).2];exact hn0) (by rw [(uh HU3).2,(uh HU2).2];exact hn1));clear hg3 HU2 HU3;go_wp2_with fail
   refine (uh CG).mono ?_;rintro e W4 ⟨rfl,va4,vb4,hm4,hf4⟩;have HM4:=aa (zA hm4 ((uh HM3).2.trans hf4));clear hm4 hf4 HM3 CG;go_wp2_with fail
   go_roundw
   case rel=>exact ⟨i+1,va4,vb4,by omega,by go_num,by rw [uh HST];exact (uh HM4).1,(uh HM4).2⟩
   case measure=>simp [intOf];omega
  ·have e:i=100:=by omega
   subst e;have HM:=aa (zA hM hf);clear hM hf H0;go_wp2_with fail
   refine zI ?_;exact ⟨rfl,va',vb',uh HM⟩
theorem bT {P:Program} {ops:Array Oper} {S:World→Prop} {o:Oper} {a:Act} (hw:Region.wanted o (yielded ops a.tmps)=true) (t:TypeId) (parts:Array (Nat × Operand)) (ho:o.op=.build t parts) (cells:Array Value) (h:P.built t (parts.map fun (i,x)=>(i,a.eval x)).toList=some cells):YieldsIf P ops S o (.agg cells) a :=
 .inl ⟨hw,fun w _=>by
  unfold execOp;simp only [ho,Sem.run_bind,run_build w t _ cells h,Result.andThen_ok,Sem.run_pure]⟩
theorem xX {base:Nat} {W:World} {B:Nat} {m:Mw} {va vb:Value} (h:MW base B m W va vb) (t:ByteArray) (now:Int) :
  Calls prog 39 #[.pointer (some ⟨B,0,none⟩),.string t,.int .i64 now] W fun e W'=>e=.returned (.tuple #[])∧∃ va' vb',MW base B ⟨oe m.a t now,m.b,m.now⟩ W' va' vb'∧FW B va vb va' vb' W W':=by
 obtain ⟨ca,cb,hM⟩:=h;refine (xS hM.sa (by decide) hM.lo t now).mono ?_;rintro e W' ⟨rfl,ca',v',hs,hf,hn⟩;exact ⟨rfl,v',vb,⟨ca',cb,hM.setA hs hf hn⟩,fun _=>Fw.a _ hf⟩
theorem xY {base:Nat} {W:World} {B:Nat} {m:Mw} {va vb:Value} (h:MW base B m W va vb) (t:ByteArray) (now:Int) :
  Calls prog 39 #[.pointer (some ⟨B,31,none⟩),.string t,.int .i64 now] W fun e W'=>e=.returned (.tuple #[])∧∃ va' vb',MW base B ⟨m.a,oe m.b t now,m.now⟩ W' va' vb'∧FW B va vb va' vb' W W':=by
 obtain ⟨ca,cb,hM⟩:=h;rw [← hM.lenA];refine (xS hM.sb (by decide) hM.lo t now).mono ?_;rintro e W' ⟨rfl,cb',v',hs,hf,hn⟩;exact ⟨rfl,va,v',⟨ca,cb',hM.setB hs hf hn⟩,fun _=>Fw.b _ hf⟩
def mS (sa sb:Sd):Nat→Mw
 | 0=>⟨sa,sb,0⟩
 | 1=>⟨eo sa,sb,0⟩
 | _=>⟨eo sa,eo sb,0⟩
theorem vv {W y:World} (tb:EvT W∧NxT W∧SpT W∧Et W) (hb:Below W.heap.size W y) (e1 e2:En) :
  Mt W.heap.size (y.alloc (.cells ((aA e1 (.slice none 0 0) (.slice none 0 0)).toList ++ [Value.slice none 0 0] ++ (aA e2 (.slice none 0 0) (.slice none 0 0)).toList ++ [Value.slice none 0 0] ++ [Value.int .i64 0]).toArray 66)) y.heap.size ⟨⟨e1,[],[],[]⟩,⟨e2,[],[],[]⟩,0⟩ (aA e1 (.slice none 0 0) (.slice none 0 0)).toList (.slice none 0 0) (aA e2 (.slice none 0 0) (.slice none 0 0)).toList (.slice none 0 0):=by
 have hn:∀ z:World,z.ownsRow W.heap.size 105 2 (.slice none 0 0) 0 (aj []):=fun z=>World.ownsRow_nil _ _ _ _
 have ha:Ap (.slice none 0 0) (.slice none 0 0):=fun g hg=>(by cases hg)
 have hx:∀ (e:En) (g:Nat),¬ kK (aA e (.slice none 0 0) (.slice none 0 0)).toList g:=fun e g h=>by
  rcases h with ⟨v,e1,hv⟩ | ⟨v,e1,hv⟩
  ·have e':some (Value.slice none 0 0)=some v:=e1;cases e';cases hv
  ·have e':some (Value.slice none 0 0)=some v:=e1;cases e';cases hv
 exact ⟨zF _ _,⟨none,none,0,0,rfl,hn _,hn _,ha,Nat.zero_le _,Nat.zero_le _⟩,⟨none,none,0,0,rfl,hn _,hn _,ha,Nat.zero_le _,Nat.zero_le _⟩,fun g hg=>absurd hg (hx _ g),Or.inl ⟨rfl,rfl⟩,Or.inl ⟨rfl,rfl⟩,Nat.zero_le _,Nat.zero_le _,fun g hg=>(by cases hg),⟨W,rfl,tb,hb.alloc hb.size _⟩,hb.size⟩
theorem xZ (m1 a1 g1:Int) (p1 c1 d1:Bool) (m2 a2 g2:Int) (p2 c2 d2:Bool) (W:World) (tb:EvT W∧NxT W∧SpT W∧Et W) :
  Calls prog 23 #[.agg #[.int .i64 m1,.int .i64 a1,.int .i64 g1,.bool p1,.bool c1,.bool d1],.agg #[.int .i64 m2,.int .i64 a2,.int .i64 g2,.bool p2,.bool c2,.bool d2]] W fun e W'=>∃ B va vb,e=.returned (.pointer (some ⟨B,0,none⟩))∧MW W.heap.size B ⟨eo (qU m1 a1 g1 p1 c1 d1),eo (qU m2 a2 g2 p2 c2 d2),0⟩ W' va vb∧Below W.heap.size W W':=by
 have C1:=aa fun W=>jC m1 a1 g1 p1 c1 d1 W
 have C2:=aa fun W=>jC m2 a2 g2 p2 c2 d2 W
 have HMT:=aa fun (y:World) (hb:Below W.heap.size W y)=>vv tb hb (eP m1 a1 g1 p1 c1 d1) (eP m2 a2 g2 p2 c2 d2)
 unfold qU;generalize eP m1 a1 g1 p1 c1 d1=e1 at *;generalize eP m2 a2 g2 p2 c2 d2=e2 at *;obtain ⟨h1,h2,hb0,hz0⟩:((W.alloc (.cells #[.int .i64 m1,.int .i64 a1,.int .i64 g1,.bool p1,.bool c1,.bool d1] 24)).alloc (.cells #[.int .i64 m2,.int .i64 a2,.int .i64 g2,.bool p2,.bool c2,.bool d2] 24)).heap[W.heap.size]?=some (.cells #[.int .i64 m1,.int .i64 a1,.int .i64 g1,.bool p1,.bool c1,.bool d1] 24)∧((W.alloc (.cells #[.int .i64 m1,.int .i64 a1,.int .i64 g1,.bool p1,.bool c1,.bool d1] 24)).alloc (.cells #[.int .i64 m2,.int .i64 a2,.int .i64 g2,.bool p2,.bool c2,.bool d2] 24)).heap[W.heap.size+1]?=some (.cells #[.int .i64 m2,.int .i64 a2,.int .i64 g2,.bool p2,.bool c2,.bool d2] 24)∧Below W.heap.size W ((W.alloc (.cells #[.int .i64 m1,.int .i64 a1,.int .i64 g1,.bool p1,.bool c1,.bool d1] 24)).alloc (.cells #[.int .i64 m2,.int .i64 a2,.int .i64 g2,.bool p2,.bool c2,.bool d2] 24))∧True:=by
  refine ⟨(zG _ _ _ (by simp)).trans (zF W _),?_,((zC _ _).alloc (zD _) _).alloc (by simp) _,trivial⟩;have:=zF (W.alloc (.cells #[.int .i64 m1,.int .i64 a1,.int .i64 g1,.bool p1,.bool c1,.bool d1] 24)) (.cells #[.int .i64 m2,.int .i64 a2,.int .i64 g2,.bool p2,.bool c2,.bool d2] 24)
  rwa [World.size_alloc] at this
 have H0:=aa (zA h1 (zA h2 hb0));clear h1 h2 hb0 hz0 tb;go_enter func23,ntmps23
 go_upto_region 1 with fail
 generalize (W.alloc (.cells #[.int .i64 m1,.int .i64 a1,.int .i64 g1,.bool p1,.bool c1,.bool d1] 24)).alloc (.cells #[.int .i64 m2,.int .i64 a2,.int .i64 g2,.bool p2,.bool c2,.bool d2] 24)=V at H0 ⊢;have HR:Hid (∀ y,Below V.heap.size V y→y.cell? ⟨W.heap.size,0,none⟩=some (.int .i64 m1)∧y.cell? ⟨W.heap.size,1,none⟩=some (.int .i64 a1)∧y.cell? ⟨W.heap.size,2,none⟩=some (.int .i64 g1)∧y.cell? ⟨W.heap.size,3,none⟩=some (.bool p1)∧y.cell? ⟨W.heap.size,4,none⟩=some (.bool c1)∧y.cell? ⟨W.heap.size,5,none⟩=some (.bool d1)∧y.cell? ⟨W.heap.size+1,0,none⟩=some (.int .i64 m2)∧y.cell? ⟨W.heap.size+1,1,none⟩=some (.int .i64 a2)∧y.cell? ⟨W.heap.size+1,2,none⟩=some (.int .i64 g2)∧y.cell? ⟨W.heap.size+1,3,none⟩=some (.bool p2)∧y.cell? ⟨W.heap.size+1,4,none⟩=some (.bool c2)∧y.cell? ⟨W.heap.size+1,5,none⟩=some (.bool d2)):=aa fun y hy=>by
  have k1:=(hy.block _ (ge.1 (uh H0).1).1).trans (uh H0).1;have k2:=(hy.block _ (ge.1 (uh H0).2.1).1).trans (uh H0).2.1;exact ⟨by rw [cr k1];rfl,by rw [cr k1];rfl,by rw [cr k1];rfl,by rw [cr k1];rfl,by rw [cr k1];rfl,by rw [cr k1];rfl,by rw [cr k2];rfl,by rw [cr k2];rfl,by rw [cr k2];rfl,by rw [cr k2];rfl,by rw [cr k2];rfl,by rw [cr k2];rfl⟩
 have hS0:=uh HR V.drew (zC _ _).drew;refine wp_region_held_drew (S:=fun y=>y.cell? ⟨W.heap.size,0,none⟩=some (.int .i64 m1)∧y.cell? ⟨W.heap.size,1,none⟩=some (.int .i64 a1)∧y.cell? ⟨W.heap.size,2,none⟩=some (.int .i64 g1)∧y.cell? ⟨W.heap.size,3,none⟩=some (.bool p1)∧y.cell? ⟨W.heap.size,4,none⟩=some (.bool c1)∧y.cell? ⟨W.heap.size,5,none⟩=some (.bool d1)∧y.cell? ⟨W.heap.size+1,0,none⟩=some (.int .i64 m2)∧y.cell? ⟨W.heap.size+1,1,none⟩=some (.int .i64 a2)∧y.cell? ⟨W.heap.size+1,2,none⟩=some (.int .i64 g2)∧y.cell? ⟨W.heap.size+1,3,none⟩=some (.bool p2)∧y.cell? ⟨W.heap.size+1,4,none⟩=some (.bool c2)∧y.cell? ⟨W.heap.size+1,5,none⟩=some (.bool d2)) (by kernel_rfl) hS0 (fun hHeld=>?_);refine tt 0 3 ?_;refine r3 1 fun K hK=>?_
 go_simp;refine (uh C1 V.drew).mono ?_;rintro e y1 ⟨rfl,hy1⟩;have HY1:=aa ((zC V.heap.size V).drew.trans hy1);clear hy1;refine ro hK (uh HR y1 (uh HY1)) fun hS1=>?_
 clear hK K;refine t4 2 (.agg ((aA e1 (.slice none 0 0) (.slice none 0 0)).toList ++ [Value.slice none 0 0]).toArray) rfl (bT (by rfl) _ _ rfl _ (by kernel_rfl)) ?_;try simp only [Act.put,sA,sZ,sS,gA,gZ,gS]
 refine r3 4 fun K hK=>?_
 go_simp;refine (uh C2 y1).mono ?_;rintro e y2 ⟨rfl,hy2⟩;have HY2:=aa ((uh HY1).trans (hy2.mono (uh HY1).size));clear hy2;refine ro hK (uh HR y2 (uh HY2)) fun hS2=>?_
 clear hK K;refine t4 5 (.agg ((aA e2 (.slice none 0 0) (.slice none 0 0)).toList ++ [Value.slice none 0 0]).toArray) rfl (bT (by rfl) _ _ rfl _ (by kernel_rfl)) ?_;try simp only [Act.put,sA,sZ,sS,gA,gZ,gS]
 refine t4 6 (.agg ((aA e1 (.slice none 0 0) (.slice none 0 0)).toList ++ [Value.slice none 0 0] ++ (aA e2 (.slice none 0 0) (.slice none 0 0)).toList ++ [Value.slice none 0 0] ++ [Value.int .i64 0]).toArray) rfl (bT (by rfl) _ _ rfl _ (by kernel_rfl)) ?_;try simp only [Act.put,sA,sZ,sS,gA,gZ,gS]
 have HB2:=aa ((uh H0).2.2.trans ((uh HY2).mono (uh H0).2.2.size));have HM:=aa (uh HMT y2 (uh HB2));have hlA:((aA e1 (.slice none 0 0) (.slice none 0 0)).toList ++ [Value.slice none 0 0] ++ (aA e2 (.slice none 0 0) (.slice none 0 0)).toList ++ [Value.slice none 0 0] ++ [Value.int .i64 0]).toArray.size=63:=by kernel_rfl
 generalize ((aA e1 (.slice none 0 0) (.slice none 0 0)).toList ++ [Value.slice none 0 0] ++ (aA e2 (.slice none 0 0) (.slice none 0 0)).toList ++ [Value.slice none 0 0] ++ [Value.int .i64 0]).toArray=BIG at HM hlA ⊢;generalize ((aA e1 (.slice none 0 0) (.slice none 0 0)).toList ++ [Value.slice none 0 0]).toArray=A1 at *;generalize ((aA e2 (.slice none 0 0) (.slice none 0 0)).toList ++ [Value.slice none 0 0]).toArray=A2 at *;refine r3 7 fun K hK=>?_
 go_simp;refine ro hK (uh HR _ ((uh HY2).trans (((zC y2.heap.size y2).alloc (zD _) _).mono (uh HY2).size))) fun _=>?_
 clear hK K;refine t2 8 ?_;refine dn ?_ _;have HB3:Hid (Below W.heap.size W (y2.alloc (.cells BIG 66))):=aa ((uh HB2).alloc (uh HB2).size _);clear HB2 HR HMT H0 HY1 HY2 C1 C2 hS0 hS1 hS2 hHeld hlA;have HM2:Hid (MW W.heap.size y2.heap.size (mS ⟨e1,[],[],[]⟩ ⟨e2,[],[],[]⟩ 0) (y2.alloc (.cells BIG 66)) (.slice none 0 0) (.slice none 0 0)):=aa ⟨_,_,uh HM⟩;clear HM;generalize hsa:(⟨e1,[],[],[]⟩:Sd)=sa at *;generalize hsb:(⟨e2,[],[],[]⟩:Sd)=sb at *;generalize y2.alloc (.cells BIG 66)=z0 at *;generalize y2.heap.size=B at *;generalize hbase:W.heap.size=base at *;go_upto_region 2 with fail
 have HM3:Hid (MW base B (mS sa sb 0) (z0.alloc (.cells #[.pointer (some ⟨B,0,none⟩),.pointer (some ⟨B,31,none⟩)] 81)).drew (.slice none 0 0) (.slice none 0 0)∧Below base W (z0.alloc (.cells #[.pointer (some ⟨B,0,none⟩),.pointer (some ⟨B,31,none⟩)] 81)).drew∧(z0.alloc (.cells #[.pointer (some ⟨B,0,none⟩),.pointer (some ⟨B,31,none⟩)] 81)).drew.heap[z0.heap.size]?=some (.cells #[.pointer (some ⟨B,0,none⟩),.pointer (some ⟨B,31,none⟩)] 81)):=aa (by
  obtain ⟨ca,cb,hM⟩:=uh HM2;have hb:Below z0.heap.size z0 (z0.alloc (.cells #[.pointer (some ⟨B,0,none⟩),.pointer (some ⟨B,31,none⟩)] 81)).drew:=((zC _ _).alloc (zD _) _).drew;exact ⟨⟨ca,cb,hM.below hb⟩,(uh HB3).trans (hb.mono (by have:=(uh HB3).size;omega)),zF z0 _⟩)
 refine wp_region_held_drew (S:=fun _=>True) (by kernel_rfl) trivial (fun hHeld=>?_);refine tq 0 1 2 3 ?_;refine tt 4 5 ?_;refine t2 8 ?_;refine r3 6 fun K hK=>?_
 go_simp;refine ro hK trivial fun _=>?_
 clear hK K;refine t2 7 ?_;refine dn ?_ _;clear HM2 HB3;generalize (z0.alloc (.cells #[.pointer (some ⟨B,0,none⟩),.pointer (some ⟨B,31,none⟩)] 81)).drew=z1 at HM3 ⊢;generalize z0.heap.size=N at HM3 ⊢;go_wp2_with fail
 go_loopw [24] (fun p wr=>∃ (i:Nat) (va' vb':Value),i≤2∧p=.int .i64 i∧MW base B (mS sa sb i) wr va' vb'∧FW B (.slice none 0 0) (.slice none 0 0) va' vb' z1 wr) (fun p _=>2 - (intOf p).toNat)
 case atStart=>exact ⟨0,_,_,by omega,rfl,(uh HM3).1,fun _=>Fw.refl _ _ _ _ _⟩
 case round =>
  obtain ⟨i,va',vb',hi,rfl,hM,hf⟩:=hrel;have hNN:wr.heap[N]?=some (.cells #[.pointer (some ⟨B,0,none⟩),.pointer (some ⟨B,31,none⟩)] 81):=by
   obtain ⟨_,_,hM3⟩:=(uh HM3).1;exact hM3.keepT hf N _ _ (by decide) (by decide) (uh HM3).2.2
  have hi3:i=0∨i=1∨i=2:=by omega
  rcases hi3 with rfl | rfl | rfl
  ·
   have cx:wr.cell? ⟨N,0,none⟩=some (.pointer (some ⟨B,0,none⟩)):=by
    rw [cr hNN];rfl
   have cn:wr.cell? ⟨B,62,none⟩=some (.int .i64 0):=by
    obtain ⟨_,_,hM⟩:=hM;exact hM.now.1
   have CD:=aa (xX hM ⟨#[79,112,101,110]⟩ 0);have HFW:=aa hf;clear hM hf hNN;go_wp2_with fail
   refine (uh CD).mono ?_;rintro e W5 ⟨rfl,va5,vb5,hm5,hf5⟩;have cn5:W5.cell? ⟨B,62,none⟩=some (.int .i64 0):=by
    obtain ⟨_,_,hM⟩:=hm5;exact hM.now.1
   have CD5:=aa (xX hm5 ⟨#[85,112]⟩ 0);have HF5:=aa ((uh HFW).trans hf5);clear hm5 hf5 CD HFW cx cn;go_wp2_with fail
   refine (uh CD5).mono ?_;rintro e W6 ⟨rfl,va6,vb6,hm6,hf6⟩;have HF6:=aa (zA hm6 ((uh HF5).trans hf6));clear hm6 hf6 CD5 HF5 cn5;go_wp2_with fail
   go_roundw
   case rel=>exact ⟨0+1,va6,vb6,by omega,by go_num,(uh HF6).1,(uh HF6).2⟩
   case measure=>simp [intOf]
  ·
   have cx:wr.cell? ⟨N,1,none⟩=some (.pointer (some ⟨B,31,none⟩)):=by
    rw [cr hNN];rfl
   have cn:wr.cell? ⟨B,62,none⟩=some (.int .i64 0):=by
    obtain ⟨_,_,hM⟩:=hM;exact hM.now.1
   have CD:=aa (xY hM ⟨#[79,112,101,110]⟩ 0);have HFW:=aa hf;clear hM hf hNN;go_wp2_with fail
   refine (uh CD).mono ?_;rintro e W5 ⟨rfl,va5,vb5,hm5,hf5⟩;have cn5:W5.cell? ⟨B,62,none⟩=some (.int .i64 0):=by
    obtain ⟨_,_,hM⟩:=hm5;exact hM.now.1
   have CD5:=aa (xY hm5 ⟨#[85,112]⟩ 0);have HF5:=aa ((uh HFW).trans hf5);clear hm5 hf5 CD HFW cx cn;go_wp2_with fail
   refine (uh CD5).mono ?_;rintro e W6 ⟨rfl,va6,vb6,hm6,hf6⟩;have HF6:=aa (zA hm6 ((uh HF5).trans hf6));clear hm6 hf6 CD5 HF5 cn5;go_wp2_with fail
   go_roundw
   case rel=>exact ⟨1+1,va6,vb6,by omega,by go_num,(uh HF6).1,(uh HF6).2⟩
   case measure=>simp [intOf]
  ·have HM9:=aa (zA hM hf);clear hM hf hNN;go_wp2_with fail
   go_ret
   refine ⟨B,va',vb',rfl,?_,?_⟩
   ·rw [hsa,hsb,hbase];exact (uh HM9).1
   ·rw [hbase];obtain ⟨_,_,hM3⟩:=(uh HM3).1;have f:=(uh HM9).2 z1.heap.size;have hl:=hM3.lo.le;exact (uh HM3).2.1.trans ⟨f.os,f.tape,f.output,f.size,fun k hk=>f.same k (by omega) (by have:=hM3.bB;omega) (by omega) (fun e=>by cases e) (fun e=>by cases e)⟩
end Go.Proofs.YtjdgiimfpkideaaGreatDoor
