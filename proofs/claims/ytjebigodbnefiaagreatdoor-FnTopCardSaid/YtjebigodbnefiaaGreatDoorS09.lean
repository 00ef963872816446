/- AskI AskL EndNw WkD Judge Verd VerdOf WkI HxI HxR -/
import Derived.Test.YtjebigodbnefiaaGreatDoorS08
import Derived.Test.YtjebigodbnefiaaGreatDoorS06
import Derived.Test.YtjebigodbnefiaaGreatDoorCln
set_option maxHeartbeats 4000000
set_option maxRecDepth 100000
namespace Go.Proofs.YtjebigodbnefiaaGreatDoor
open Go.RowKit Go.Proofs.Tryz
theorem dy {w:World} {base base':Nat} {e:TypeId} {size:Nat} {v:Value} {n:Nat} {xs:List Value} (h:w.ownsRow base e size v n xs) (hb:base'≤base):w.ownsRow base' e size v n xs :=
 ⟨h.1,h.2.imp id fun ⟨g,cap,cur,h1,h2,h3⟩=>⟨g,cap,cur,h1,zE hb h2,h3⟩⟩
theorem sz (m a g:Int) (p c d:Bool) (w:World) (h:aK m a g=false):Calls prog 8 #[cN m a g p c d] w fun e w'=>e=.returned (.slice none 0 0)∧Below w.heap.size w w':=by
 have C:=aa fun v=>dm m a g p c d v
 rw [h] at C;go_enter func8,ntmps8
 go_wp2_with fail
 refine (uh C _).mono ?_;rintro e w1 ⟨rfl,hb1⟩;go_wp2
 go_ret
 exact ⟨rfl,((zC _ _).alloc (zD _) _).trans (hb1.mono (by simp))⟩
theorem mM (m a g:Nat) (p c d:Bool) (w:World) (h:aK m a g=true) :
  Calls prog 8 #[cN m a g p c d] w fun e w'=>∃ ad cp,e=.returned (.slice ad (dO m a g p c d 6).length cp)∧w'.ownsRow w.heap.size 27 2 (.slice ad (dO m a g p c d 6).length cp) (dO m a g p c d 6).length (aj (dO m a g p c d 6))∧Below w.heap.size w w':=by
 have C:=aa fun v=>dm m a g p c d v
 rw [h] at C;clear h;go_enter func8,ntmps8
 go_wp2_with fail
 refine (uh C _).mono ?_;rintro e w1 ⟨rfl,hb1⟩;have hr1:=(hb1.block w.heap.size (by simp)).trans (heap_alloc_last w (.cells #[.int .i64 m,.int .i64 a,.int .i64 g,.bool p,.bool c,.bool d] 35));have hB1:=((zC w.heap.size w).alloc (zD _) (.cells #[.int .i64 m,.int .i64 a,.int .i64 g,.bool p,.bool c,.bool d] 35)).trans (hb1.mono (by simp));clear hb1 C;go_wp2_with fail
 refine (dF _).mono ?_;rintro e w2 ⟨rfl,hm2,hb2⟩;have hr2:=(hb2.block w.heap.size (ge.1 hr1).1).trans hr1;have hB2:=hB1.trans (hb2.mono hB1.size);have hc1:w.heap.size<w2.heap.size:=(ge.1 hr2).1;have hc2:w1.heap.size<w2.heap.size:=(ge.1 hm2).1;generalize w1.heap.size=M at *;have HR2:=aa hr2;have HM2:=aa hm2;have HB2:=aa hB2;clear hr1 hr2 hm2 hB1 hB2 hb2;go_wp2_with fail
 go_loopw [4,15] (fun x y wr=>∃ (i:Nat) (ad:Option Addr) (cp:Nat),i≤6∧y=.int .i64 i∧x=.slice ad (dO m a g p c d i).length cp∧wr.ownsRow w2.heap.size 27 2 (.slice ad (dO m a g p c d i).length cp) (dO m a g p c d i).length (aj (dO m a g p c d i))∧Below w2.heap.size w2 wr) (fun _ y _=>6 - (intOf y).toNat)
 case atStart=>exact ⟨0,none,0,by omega,rfl,rfl,⟨rfl,Or.inl ⟨rfl,rfl⟩⟩,zC _ _⟩
 case round =>
  obtain ⟨i,ad,cp,hi,rfl,rfl,ho,hb⟩:=hrel;by_cases hlt:i<6
  ·have d1:(i:Int)<6:=by omega
   obtain ⟨k,s,f,f2,f3,f4,f5,n,j,b,t,hR⟩:=sf m a g p c d i hlt;have hix:=hR.ix;have hcf:=hR.cf;have hlk:=rV wr M cI 6 j k _ ((hb.block M hc2).trans (uh HM2)) hR.fd;have hcr:=(hb.block w.heap.size hc1).trans (uh HR2);obtain ⟨c0,c1,c2,c3,c4,c5⟩:=aJ hcr;have hbs:=hb.size;have HR:=aa hR;have HO:=aa ho;have HB:=aa hb;have hln:=dp m a g p c d i;clear hR ho hb c0 c1 c2 c3 c4 c5;go_upto_region 9 with fail
   refine aI (fun q=>q.heap[wr.heap.size]?=some (.cells #[.int .i64 s,cY f,cY f2,cY f3,cY f4,cY f5] 59)∧q.heap[w.heap.size]?=some (.cells #[.int .i64 m,.int .i64 a,.int .i64 g,.bool p,.bool c,.bool d] 35)∧Below wr.heap.size wr q)
    ⟨zF wr _,(zG _ _ _ (by omega)).trans hcr,(zC _ _).alloc (zD _) _⟩ ?_
   rintro q ⟨hrq,hcq,hbq⟩;obtain ⟨c0,c1,c2,c3,c4,c5⟩:=aJ hcq;obtain ⟨r0,r1,r2,r3,r4,r5⟩:=aJ hrq;have HQ:=aa (zA hrq hbq);clear hcr hcq hrq hbq;go_wp2_with fail
   refine ((uh HR).ask _).mono ?_;rintro e w3 ⟨rfl,hb3⟩;have hR3:=(hb3.block wr.heap.size (ge.1 (uh HQ).1).1).trans (uh HQ).1;have hbw:Below wr.heap.size wr w3:=(uh HQ).2.trans (hb3.mono (uh HQ).2.size);have HO3:=aa (aY (uh HO) fun q _ hq=>hbw.block q hq);have HB3:=aa ((uh HB).trans (hbw.mono hbs));clear hb3 HO HB r0 r1 r2 r3 r4 r5 HQ;obtain ⟨r0,r1,r2,r3,r4,r5⟩:=aJ hR3;have hbs3:=zE hbs hbw.size;clear hR3 hbw r1 r2 r3 r4 r5 c0 c1 c2 c3 c4 c5 hix hlk hcf;have hls:=(uh HR).lst;have HLS:=aa hls;clear hls;cases b
   ·go_wp2_with fail
    go_roundw
    case rel =>
     refine ⟨i+1,ad,cp,by omega,by go_num,?_,?_,uh HB3⟩
     ·rw [uh HLS,dG,List.append_nil]
     ·rw [uh HLS,dG,List.append_nil];exact uh HO3
    case measure=>simp [intOf];omega
   ·go_wp2_with fail
    refine ((uh HR).num _).mono ?_;rintro e w4 ⟨rfl,hb4⟩;have HO4:=aa (aY (uh HO3) fun q _ hq=>hb4.block q hq);have HB4:=aa ((uh HB3).trans (hb4.mono hbs3));have hbs4:=zE hbs3 hb4.size;clear hb4 HO3 HB3 r0;go_wp2_with (first | (at_builtin;refine cD rfl _ _ rfl w2.heap.size (.slice ad (dO m a g p c d i).length cp) (dO m a g p c d i) (dO m a g p c d i).length rfl rfl (uh HO4) k t rfl (by omega) hbs4 ?_;rintro v6 w6 ho6 hg6;obtain ⟨a6,c6,rfl⟩:=af ho6))
    have hb6:Below w2.heap.size w2 w6:=((uh HB4).alloc hbs4 _).grown hg6 (by simp;omega) (fun q hq=>(World.ownsRow.lt (uh HO4) q hq).1);go_roundw
    case rel =>
     have hl1:(dO m a g p c d i).length+1=(dO m a g p c d (i+1)).length:=by rw [uh HLS,bD,List.length_append];rfl
     refine ⟨i+1,a6,c6,by omega,by go_num,?_,?_,hb6⟩
     ·rw [← hl1]
     ·rw [← hl1,uh HLS,bD];exact ho6
    case measure=>simp [intOf];omega
  ·have e:i=6:=by omega
   subst e;have d1:¬ (((6:Nat):Int)<6):=by omega
   have hB2:=uh HB2;have ho6:=dy ho hB2.size;have hb6:=hB2.trans (hb.mono hB2.size);clear HR2 HM2 HB2;go_wp2
   go_ret
   exact ⟨ad,cp,rfl,ho6,hb6⟩
def ag:En:=⟨0,0,0,false,false,false,0,0,0,false,false,false,0,0,0,0,0,false,0,0,false,false,false,0,0,false,false,false⟩
def sE (m a g:Int) (p c d:Bool):En:=⟨m,a,g,p,c,d,m,a,g,p,c,d,0,0,-1,0,0,false,0,0,false,false,false,0,0,false,false,false⟩
def eP (m a g:Int) (p c d:Bool):En:=if aK m a g=true then sE m a g p c d else ag
def g9 (e:En):En:={ e with id:=(e.id+1) % 256 }
def kq (now:Int) (e:En):En:={ e with tr:=max 0 (e.tr - 1),du:=now+3 }
def gD (e:En):En:={ e with up:=false,i1:=0,i2:=0,i3:=false,i4:=false,i5:=false,o1:=0,o2:=0,o3:=false,o4:=false,o5:=false }
def sF (L1 L2:Ln) (e:En):En:={ e with up:=true,i1:=L1.m,i2:=L1.a,i3:=L1.p,i4:=L1.c,i5:=L1.d,o1:=L2.m,o2:=L2.a,o3:=L2.p,o4:=L2.c,o5:=L2.d }
def fP (e:En):List Op.Opt:=dO e.m2.toNat e.a2.toNat e.g2.toNat e.p2 e.c2 e.d2 6
def gE (s:St) (cd id:Int) (dt:ByteArray):St:={ s with sn:=s.sn ++ [⟨cd,id,dt⟩] }
abbrev mO:ByteArray:=⟨#[105,114,99]⟩
abbrev pT:ByteArray:=⟨#[122,114,99]⟩
abbrev mP:ByteArray:=⟨#[115,99,114]⟩
abbrev mQ:ByteArray:=⟨#[115,116,114]⟩
abbrev bP:ByteArray:=⟨#[116,108,115]⟩
abbrev bQ:ByteArray:=⟨#[116,108,102]⟩
abbrev bL:ByteArray:=⟨#[116,108,100]⟩
abbrev dz:ByteArray:=⟨#[116,108,117]⟩
def pU (s:St):St:={ s with e:={ s.e with tr:=5 } }
def pV (s:St):St:={ s with e:={ s.e with tr:=0 } }
def lG (c:Cx) (s:St):St:={ s with e:=kq c.now (g9 s.e),F1:=fP s.e,sn:=s.sn ++ [⟨1,(s.e.id+1) % 256,co (Op.bytes (fP s.e))⟩] }
def lH (c:Cx) (s:St):St:={ s with e:=kq c.now (g9 s.e),sn:=s.sn ++ [⟨5,(s.e.id+1) % 256,⟨#[]⟩⟩] }
def say (t:ByteArray) (s:St):St:={ s with tl:=s.tl ++ [t] }
def pW (s:St):St:=say bL { s with e:=gD s.e }
def pX (s:St):St:=say dz { s with e:=sF (aQ s.F1) (aQ s.F2) s.e }
abbrev pY:ByteArray:=⟨#[115,99,97]⟩
abbrev pZ:ByteArray:=⟨#[115,99,110]⟩
abbrev sB:ByteArray:=⟨#[115,116,97]⟩
abbrev p6:ByteArray:=⟨#[115,99,106]⟩
abbrev p7:ByteArray:=⟨#[115,101,114]⟩
def p_ (c:Cx) (s:St):St:={ s with e:={ s.e with fl:=0 },F2:=c.hd,sn:=s.sn ++ [⟨2,c.ci,co (Op.bytes c.ao)⟩] }
def fy (c:Cx) (s:St):St:={ s with e:={ s.e with fl:=if c.ac=3 then min 3 (s.e.fl+1) else s.e.fl },sn:=s.sn ++ [⟨c.ac,c.ci,co (Op.bytes c.ao)⟩] }
def qc (c:Cx) (s:St):St:={ s with sn:=s.sn ++ [⟨6,c.ci,⟨#[]⟩⟩] }
def qd (t:ByteArray) (s:St):St:={ s with e:=g9 s.e,sn:=s.sn ++ [⟨7,(s.e.id+1) % 256,t⟩] }
def fj (c:Cx) (s:St):St:=if c.cc=9∧4≤c.cd.size then { s with sn:=s.sn ++ [⟨10,c.ci,cK s.e.g2.toNat ++ c.cd.extract 4 c.cd.size⟩] } else s
def jm (c:Cx):ByteArray:=d8 (rE ⟨c.cc,c.ci,c.cd⟩)
def bv (c:Cx) (t:ByteArray) (s:St):St :=
 if t=mO then pU s else if t=pT then pV s else if t=mP then lG c s else if t=mQ then lH c s else if t=pY then p_ c s else if t=pZ then fy c s
 else if t=sB then qc c s else if t=p6 then qd (jm c) s else if t=p7 then fj c s else if t=dz then pX s else if t=bL then pW s else say t s
def dH (t:ByteArray):Bool:=decide (t.toList=[105,114,99]) || decide (t.toList=[122,114,99])
def fm (c:Cx) (A:List ByteArray) (st:Int) (e:En):En :=
 { e with st:=st,du:=if gj st=true then (if (decide (e.du<0) || A.any dH)=true then c.now+3 else e.du) else -1 }
structure EO where
 e:En
 F1:List Op.Opt
 F2:List Op.Opt
 sn:List Op.Pk
 tl:List ByteArray
 cd:Int
def bA (cd:Int):EO:=⟨ag,[],[],[],[],cd⟩
def bj (c:Cx) (s:St) (t:ByteArray):EO :=
 if (bO s.e.st t).2.2=0 then
  ⟨fm c (bO s.e.st t).2.1 (bO s.e.st t).1 ((bO s.e.st t).2.1.foldl (fun s a=>bv c a s) s).e,((bO s.e.st t).2.1.foldl (fun s a=>bv c a s) s).F1,((bO s.e.st t).2.1.foldl (fun s a=>bv c a s) s).F2,((bO s.e.st t).2.1.foldl (fun s a=>bv c a s) s).sn,((bO s.e.st t).2.1.foldl (fun s a=>bv c a s) s).tl,0⟩
 else bA (bO s.e.st t).2.2
def EvA (w0:World) (o:EO) (r:Ending) (q:World):Prop :=
 ∃ v1 v2 vs vt,r=.returned (.agg (aC o.e v1 v2 vs vt o.cd))∧q.ownsRow w0.heap.size 27 2 v1 o.F1.length (aj o.F1)∧q.ownsRow w0.heap.size 27 2 v2 o.F2.length (aj o.F2)∧q.ownsRow w0.heap.size 32 3 vs o.sn.length (ae o.sn)∧q.ownsRow w0.heap.size 9 1 vt o.tl.length (a_ o.tl)∧Ap v1 v2∧Below w0.heap.size w0 q
structure Fit (n:Nat) (c:Cx) (s:St):Prop where
 cf:aK s.e.m1 s.e.a1 s.e.g1=true
 ask:aK s.e.m2 s.e.a2 s.e.g2=true
 id:0≤s.e.id∧s.e.id≤255
 tr:0≤s.e.tr∧s.e.tr≤5
 fl:0≤s.e.fl∧s.e.fl≤3
 now:0≤c.now∧c.now≤1000000000
 f1:cC s.F1=true
 f2:cC s.F2=true
 sn:s.sn.length≤n
 tl:s.tl.length≤n
 hd:cC c.hd=true
 ao:cC c.ao=true
 cd:c.cd.size≤250
 du:-1≤s.e.du
theorem bz {F:List Op.Opt} (h:cC F=true):Op.right F=true:=by unfold cC at h;rw [Bool.and_eq_true] at h;exact h.1
theorem jn (e:En):0≤(g9 e).id∧(g9 e).id≤255:=by unfold g9;dsimp only;omega
theorem lI {m a g:Nat} {p c d:Bool} {o:Op.Opt} (h:o ∈ dO m a g p c d 6):Op.ok o=true∧o.data.size≤4:=by
 unfold dO at h;obtain ⟨x,hx,ho⟩:=List.mem_flatten.1 h;have hx':=List.mem_of_mem_take hx;have key:∀ (b:Bool) (k:Int) (t:ByteArray),(1≤k∧k≤255∧t.size≤4)→o ∈ c_ b k t→Op.ok o=true∧o.data.size≤4:=by
  intro b k t hk hm;cases b
  ·simp [c_] at hm
  ·simp [c_] at hm;subst hm;exact ⟨decide_eq_true ⟨hk.1,hk.2.1,by show t.size≤20;omega⟩,hk.2.2⟩
 simp only [eZ,List.mem_cons,List.not_mem_nil,or_false] at hx';rcases hx' with rfl | rfl | rfl | rfl | rfl | rfl
 ·exact key _ _ _ ⟨by decide,by decide,by show 2≤4;decide⟩ ho
 ·exact key _ _ _ ⟨by decide,by decide,by show 4≤4;decide⟩ ho
 ·exact key _ _ _ ⟨by decide,by decide,by show 4≤4;decide⟩ ho
 ·exact key _ _ _ ⟨by decide,by decide,by show 0≤4;decide⟩ ho
 ·exact key _ _ _ ⟨by decide,by decide,by show 0≤4;decide⟩ ho
 ·exact key _ _ _ ⟨by decide,by decide,by show 1≤4;decide⟩ ho
theorem oH (F:List Op.Opt) (h:∀ o ∈ F,o.data.size≤4):(Op.bytes F).length≤6*F.length:=by
 induction F with
 | nil=>simp [Op.bytes]
 | cons o F ih =>
  have h1:=ih fun x hx=>h x (by simp [hx])
  have h2:=h o (by simp);have e:Op.bytes (o :: F)=Op.one o ++ Op.bytes F:=rfl;have e1:(Op.one o).length=2+o.data.size:=by unfold Op.one;rw [List.length_append];show 2+o.data.data.toList.length=_;rfl
  rw [e,List.length_append,e1,List.length_cons];omega
theorem jo (e:En):cC (fP e)=true:=by
 have h1:(fP e).length≤6:=dp _ _ _ _ _ _ _;have h2:=oH (fP e) fun o ho=>(lI ho).2
 unfold cC Op.right;rw [Bool.and_eq_true,Bool.and_eq_true];exact ⟨⟨decide_eq_true (by omega),List.all_eq_true.2 fun o ho=>(lI ho).1⟩,decide_eq_true (by omega)⟩
theorem g_ {m a g:Int} (h:aK m a g=true):((m.toNat:Nat):Int)=m∧((a.toNat:Nat):Int)=a∧((g.toNat:Nat):Int)=g:=by
 simp only [aK,al,Bool.and_eq_true,decide_eq_true_eq] at h;omega
theorem oI (e:En):(fP e).length≤6:=dp _ _ _ _ _ _ _
theorem Fit.irc {n:Nat} {c:Cx} {s:St} (h:Fit n c s):Fit (n+1) c (pU s):=⟨h.cf,h.ask,h.id,⟨show (0:Int)≤5 by decide,show (5:Int)≤5 by decide⟩,h.fl,h.now,h.f1,h.f2,Nat.le_succ_of_le h.sn,Nat.le_succ_of_le h.tl,h.hd,h.ao,h.cd,h.du⟩
theorem Fit.zrc {n:Nat} {c:Cx} {s:St} (h:Fit n c s):Fit (n+1) c (pV s):=⟨h.cf,h.ask,h.id,⟨show (0:Int)≤0 by decide,show (0:Int)≤5 by decide⟩,h.fl,h.now,h.f1,h.f2,Nat.le_succ_of_le h.sn,Nat.le_succ_of_le h.tl,h.hd,h.ao,h.cd,h.du⟩
theorem nK {now:Int} {e:En} (h:0≤e.tr∧e.tr≤5):0≤(kq now e).tr∧(kq now e).tr≤5:=by unfold kq;dsimp only;omega
theorem Fit.scr {n:Nat} {c:Cx} {s:St} (h:Fit n c s):Fit (n+1) c (lG c s) :=
 ⟨h.cf,h.ask,jn _,nK h.tr,h.fl,h.now,jo _,h.f2,by have:=h.sn;simp [lG];omega,Nat.le_succ_of_le h.tl,h.hd,h.ao,h.cd,by have:=h.now;show -1≤c.now+3;omega⟩
theorem Fit.str {n:Nat} {c:Cx} {s:St} (h:Fit n c s):Fit (n+1) c (lH c s) :=
 ⟨h.cf,h.ask,jn _,nK h.tr,h.fl,h.now,h.f1,h.f2,by have:=h.sn;simp [lH];omega,Nat.le_succ_of_le h.tl,h.hd,h.ao,h.cd,by have:=h.now;show -1≤c.now+3;omega⟩
theorem Fit.say {n:Nat} {c:Cx} {s:St} (h:Fit n c s) (t:ByteArray):Fit (n+1) c (say t s) :=
 ⟨h.cf,h.ask,h.id,h.tr,h.fl,h.now,h.f1,h.f2,Nat.le_succ_of_le h.sn,by have:=h.tl;simp [Go.Proofs.YtjebigodbnefiaaGreatDoor.say];omega,h.hd,h.ao,h.cd,h.du⟩
theorem Fit.tld {n:Nat} {c:Cx} {s:St} (h:Fit n c s):Fit (n+1) c (pW s) :=
 Fit.say (s:={ s with e:=gD s.e }) ⟨h.cf,h.ask,h.id,h.tr,h.fl,h.now,h.f1,h.f2,h.sn,h.tl,h.hd,h.ao,h.cd,h.du⟩ _
theorem Fit.tlu {n:Nat} {c:Cx} {s:St} (h:Fit n c s):Fit (n+1) c (pX s) :=
 Fit.say (s:={ s with e:=sF (aQ s.F1) (aQ s.F2) s.e }) ⟨h.cf,h.ask,h.id,h.tr,h.fl,h.now,h.f1,h.f2,h.sn,h.tl,h.hd,h.ao,h.cd,h.du⟩ _
theorem Fit.put {n:Nat} {c:Cx} {s:St} (h:Fit n c s) (p:Op.Pk):Fit (n+1) c { s with sn:=s.sn ++ [p] } :=
 ⟨h.cf,h.ask,h.id,h.tr,h.fl,h.now,h.f1,h.f2,by have:=h.sn;simp;omega,Nat.le_succ_of_le h.tl,h.hd,h.ao,h.cd,h.du⟩
theorem Fit.up {n:Nat} {c:Cx} {s:St} (h:Fit n c s):Fit (n+1) c s :=
 ⟨h.cf,h.ask,h.id,h.tr,h.fl,h.now,h.f1,h.f2,Nat.le_succ_of_le h.sn,Nat.le_succ_of_le h.tl,h.hd,h.ao,h.cd,h.du⟩
theorem Fit.act {n:Nat} {c:Cx} {s:St} (h:Fit n c s) (t:ByteArray):Fit (n+1) c (bv c t s):=by
 unfold bv;split
 ·exact h.irc
 split
 ·exact h.zrc
 split
 ·exact h.scr
 split
 ·exact h.str
 split
 ·exact Fit.put (s:={ s with e:={ s.e with fl:=0 },F2:=c.hd }) ⟨h.cf,h.ask,h.id,h.tr,⟨show (0:Int)≤0 by decide,show (0:Int)≤3 by decide⟩,h.now,h.f1,h.hd,h.sn,h.tl,h.hd,h.ao,h.cd,h.du⟩ _
 split
 ·refine Fit.put (s:={ s with e:={ s.e with fl:=if c.ac=3 then min 3 (s.e.fl+1) else s.e.fl } }) ⟨h.cf,h.ask,h.id,h.tr,?_,h.now,h.f1,h.f2,h.sn,h.tl,h.hd,h.ao,h.cd,h.du⟩ _;have:=h.fl
  dsimp only;split<;>omega
 split
 ·exact h.put _
 split
 ·exact Fit.put (s:={ s with e:=g9 s.e }) ⟨h.cf,h.ask,jn _,h.tr,h.fl,h.now,h.f1,h.f2,h.sn,h.tl,h.hd,h.ao,h.cd,h.du⟩ _
 split
 ·unfold fj;split
  ·exact h.put _
  ·exact h.up
 split
 ·exact h.tlu
 split
 ·exact h.tld
 ·exact h.say _
theorem Fit.fold {c:Cx} {s:St} (h:Fit 0 c s) (A:List ByteArray) (i:Nat):Fit i c ((A.take i).foldl (fun s a=>bv c a s) s):=by
 induction i with
 | zero=>exact h
 | succ i ih =>
  by_cases hi:i<A.length
  ·rw [List.take_succ_eq_append_getElem hi,List.foldl_append];exact ih.act _
  ·have e:A.take (i+1)=A.take i:=by rw [List.take_of_length_le (by omega),List.take_of_length_le (by omega)]
   rw [e];exact ih.up
def gc (b:Bool) (x:Int):Int:=if b then 2 else x
theorem ib (b:Bool) (x:Int) (w:World):Calls prog 45 #[.bool b,.int .i64 x] w fun e w'=>e=.returned (.int .i64 (gc b x))∧w'=w:=by
 cases b
 ·go_enter func45,ntmps45
  go_wp2
  go_ret
  exact ⟨rfl,rfl⟩
 ·go_enter func45,ntmps45
  go_wp2
  go_ret
  exact ⟨rfl,rfl⟩
def fv (g:Nat):Nat:=max 1 ((g+77) % 4294967296)
theorem tF (g:Nat) (h:g<4294967296):bits .and .i64 ((g:Int)+77) 4294967295=(((g+77) % 4294967296:Nat):Int):=by
 show IntKind.i64.wrap ((BitVec.ofInt 64 ((g:Int)+77) &&& BitVec.ofInt 64 4294967295).toNat:Int)=_
 rw [show (g:Int)+77=((g+77:Nat):Int) by omega,BitVec.toNat_and,ofInt_u64 (g+77) (by omega),show (BitVec.ofInt 64 4294967295).toNat=2 ^ 32 - 1 by decide,Nat.and_two_pow_sub_one_eq_mod,IntKind.wrap_i64];omega
theorem mI (g:Nat) (w:World) (h:g<4294967296):Calls prog 56 #[.int .i64 g] w fun e w'=>e=.returned (.int .i64 (fv g:Nat))∧w'=w:=by
 have ha:=tF g h;have HM:Hid (((fv g:Nat):Int)=max 1 (((g+77) % 4294967296:Nat):Int)):=aa (by unfold fv;omega);generalize (g+77) % 4294967296=r at *;rw [uh HM];clear HM;go_enter func56,ntmps56
 go_wp2
 all_goals
  go_ret
  exact ⟨j8 (by omega),rfl⟩
theorem uE (m a g:Int) (p c d:Bool) (n:Int) (w:World):Calls prog 44 #[cN m a g p c d,.int .i64 n] w fun e w'=>e=.returned (.tuple #[.int .i64 (gc (al 64 300 n) 3),.int .i64 m])∧Below w.heap.size w w':=by
 have C1:=aa fun v=>iY n v
 generalize al 64 300 n=ok at *;have C2:=aa fun v=>ib ok 3 v
 go_enter func44,ntmps44
 go_wp2_with fail
 go_quiet ((first
  | (go_at_call 26;exact Calls.quiet_of_same (uh C1 _))
  | (go_at_call 45;exact Calls.quiet_of_same (uh C2 _))))
 go_wp2
 go_ret2
 exact ⟨rfl,aH ((zC _ _).alloc (zD _) _) _⟩
theorem uF (m a g:Nat) (p c d:Bool) (n:Nat) (w:World) (ha:a<4294967296) (hn:n<4294967296):Calls prog 50 #[cN m a g p c d,.int .i64 n] w fun e w'=>e=.returned (.tuple #[.int .i64 (gc (((n ||| a:Nat):Int) == (n:Int)) 3),.int .i64 (n ||| a:Nat)])∧Below w.heap.size w w':=by
 have ho:=iZ n a hn ha;have C2:=aa fun v=>ib (((n ||| a:Nat):Int) == (n:Int)) 3 v
 generalize n ||| a=x at *
 go_enter func50,ntmps50
 go_wp2_with fail
 go_quiet ((first
  | (go_at_call 45;exact Calls.quiet_of_same (uh C2 _))))
 go_wp2
 go_ret2
 exact ⟨rfl,aH ((zC _ _).alloc (zD _) _) _⟩
theorem uG (m a g:Nat) (p c d:Bool) (n:Nat) (w:World) (hg:g<4294967296):Calls prog 55 #[cN m a g p c d,.int .i64 n] w fun e w'=>e=.returned (.tuple #[.int .i64 (gc ((n:Int) != 0 && (n:Int) != (g:Int)) 3),.int .i64 (fv g:Nat)])∧Below w.heap.size w w':=by
 have C1:=aa fun v=>mI g v hg
 generalize fv g=x at *;cases hq:((n:Int) != 0)
 ·have C2:=aa fun v=>ib false 3 v
  rw [Bool.false_and];go_enter func55,ntmps55
  go_wp2_with fail
  go_quiet ((first
   | (go_at_call 56;exact Calls.quiet_of_same (uh C1 _))
   | (go_at_call 45;exact Calls.quiet_of_same (uh C2 _))))
  go_wp2
  go_ret2
  exact ⟨rfl,aH ((zC _ _).alloc (zD _) _) _⟩
 ·have C2:=aa fun v=>ib ((n:Int) != (g:Int)) 3 v
  rw [Bool.true_and];go_enter func55,ntmps55
  go_wp2_with fail
  go_quiet ((first
   | (go_at_call 56;exact Calls.quiet_of_same (uh C1 _))
   | (go_at_call 45;exact Calls.quiet_of_same (uh C2 _))))
  go_wp2
  go_ret2
  exact ⟨rfl,aH ((zC _ _).alloc (zD _) _) _⟩
theorem uH (m a g:Int) (p c d:Bool) (n:Int) (w:World):Calls prog 61 #[cN m a g p c d,.int .i64 n] w fun e w'=>e=.returned (.tuple #[.int .i64 (gc p 4),.int .i64 0])∧Below w.heap.size w w':=by
 have C2:=aa fun v=>ib p 4 v
 go_enter func61,ntmps61
 go_wp2_with (first | (go_at_call 45;refine (uh C2 _).mono ?_;rintro e w1 ⟨rfl,rfl⟩))
 go_ret2
 exact ⟨rfl,(zC _ _).alloc (zD _) _⟩
theorem uI (m a g:Int) (p c d:Bool) (n:Int) (w:World):Calls prog 66 #[cN m a g p c d,.int .i64 n] w fun e w'=>e=.returned (.tuple #[.int .i64 (gc c 4),.int .i64 0])∧Below w.heap.size w w':=by
 have C2:=aa fun v=>ib c 4 v
 go_enter func66,ntmps66
 go_wp2_with (first | (go_at_call 45;refine (uh C2 _).mono ?_;rintro e w1 ⟨rfl,rfl⟩))
 go_ret2
 exact ⟨rfl,(zC _ _).alloc (zD _) _⟩
theorem uJ (m a g:Int) (p c d:Bool) (n:Int) (w:World):Calls prog 71 #[cN m a g p c d,.int .i64 n] w fun e w'=>e=.returned (.tuple #[.int .i64 (gc (n == 2 || (n == 4 && d)) 3),.int .i64 2])∧Below w.heap.size w w':=by
 have C2:=aa fun b v=>ib b 3 v
 cases hq:(n == 2)
 ·cases hr:(n == 4)
  ·rw [Bool.false_and,Bool.false_or];go_enter func71,ntmps71
   go_wp2_with (first | (go_at_call 45;refine (uh C2 _ _).mono ?_;rintro e w1 ⟨rfl,rfl⟩))
   go_ret2
   exact ⟨rfl,(zC _ _).alloc (zD _) _⟩
  ·rw [Bool.true_and,Bool.false_or];go_enter func71,ntmps71
   go_wp2_with (first | (go_at_call 45;refine (uh C2 _ _).mono ?_;rintro e w1 ⟨rfl,rfl⟩))
   go_ret2
   exact ⟨rfl,(zC _ _).alloc (zD _) _⟩
 ·rw [Bool.true_or];go_enter func71,ntmps71
  go_wp2_with (first | (go_at_call 45;refine (uh C2 _ _).mono ?_;rintro e w1 ⟨rfl,rfl⟩))
  go_ret2
  exact ⟨rfl,(zC _ _).alloc (zD _) _⟩
theorem pM (t:ByteArray) (w:World) (ht:t.size≤20):Calls prog 190 #[.string t] w fun e w'=>e=.returned (.string t)∧Below w.heap.size w w':=by
 have C:=aa (Any.stringslite_Clone Tryz.laysCln t w (by omega));go_enter func190,ntmps190
 go_wp2_with fail
 refine (uh C).mono ?_;rintro e w1 ⟨rfl,hb⟩;go_wp2
 go_ret
 exact ⟨rfl,hb⟩
theorem iB (k:Int) (t:ByteArray) (w:World) (ht:t.size≤20):Calls prog 175 #[.agg #[.int .i64 k,.string t]] w fun e w'=>e=.returned (.agg #[.int .i64 k,.string t])∧Below w.heap.size w w':=by
 obtain ⟨hs,q0,q1,hb0⟩:=br w (.cells #[.int .i64 k,.string t] 27) (.cells #[.int .i64 0,.string ⟨#[]⟩] 27);have HQ:=aa (zA hs (zA q0 (zA q1 hb0)));have C:=aa fun v=>pM t v ht
 clear hs q0 q1 hb0;go_enter func175,ntmps175
 go_wp2_with fail
 refine aI (fun q=>q.heap.size=w.heap.size+1+1∧q.heap[w.heap.size]?=some (.cells #[.int .i64 k,.string t] 27)∧q.heap[w.heap.size+1]?=some (.cells #[.int .i64 0,.string ⟨#[]⟩] 27)∧Below w.heap.size w q) (uh HQ) ?_;rintro q ⟨hs,h0,h1,hb⟩;obtain ⟨c0,c1,_,_⟩:=cy h0;have HH:=aa (zA hs (zA h0 (zA h1 hb)));clear hs h0 h1 hb HQ
 go_region_with (first
  | (go_at_call 190;refine (uh C _).mono ?_;rintro e w3 ⟨rfl,hb3⟩
     have hz:q.heap.size=w.heap.size+1+1:=(uh HH).1;have hr3:=(hb3.block w.heap.size (by show w.heap.size<q.heap.size;omega)).trans (uh HH).2.1;have ho3:=(hb3.block (w.heap.size+1) (by show w.heap.size+1<q.heap.size;omega)).trans (uh HH).2.2.1;obtain ⟨k0,k1,_,_⟩:=cy hr3;obtain ⟨o0,o1,p0,p1⟩:=cy ho3;have hbb:Below w.heap.size w w3:=(uh HH).2.2.2.trans ((show Below q.heap.size q w3 from ⟨hb3.os,hb3.tape,hb3.output,hb3.size,hb3.block⟩).mono (by omega));have HX:=aa (zA ho3 hbb);clear hr3 ho3 hb3 hbb hz))
 all_goals
  go_wp2
  refine bodyPost_ret (v:=.agg #[.int .i64 k,.string t]) (by simp [results,results175,asAddr,jO (aM (uh HX).1 (.int .i64 k) (.string t))]) rfl ⟨rfl,?_⟩;exact ((uh HX).2.setCell (p:=⟨w.heap.size+1,0,none⟩) (Nat.le_succ _) _).setCell (p:=⟨w.heap.size+1,1,none⟩) (Nat.le_succ _) _
structure JudR (m a g:Nat) (p c d:Bool) (k:Int) (s f f2 f3 f4 f5 j:Nat) (cd:Nat→Int) (bt:Nat→Nat) (tx:Nat→ByteArray):Prop where
 fd:Instr.findNow (.int .i64) (.int .i64 k) cI.toList 0=some (some (j,aZ s f f2 f3 f4 f5))
 cf:∀ args W,(callFunc f2 args).run prog W=.ok (.enter f2 args) W
 jd:∀ (n:Nat) v,n<4294967296→Calls prog f2 #[cN m a g p c d,.int .i64 n] v fun e w'=>e=.returned (.tuple #[.int .i64 (cd n),.int .i64 (bt n:Nat)])∧Below v.heap.size v w'
 nb:∀ (n:Nat) v,Calls prog 18 #[.int .i64 (bt n:Nat),.int .i64 s] v fun e w'=>e=.returned (.string (tx n))∧Below v.heap.size v w'
theorem sg (w:World) (a b c d:Obj):((((w.alloc a).alloc b).alloc c).alloc d).heap.size=w.heap.size+1+1+1+1∧((((w.alloc a).alloc b).alloc c).alloc d).heap[w.heap.size]?=some a∧((((w.alloc a).alloc b).alloc c).alloc d).heap[w.heap.size+1]?=some b ∧
  ((((w.alloc a).alloc b).alloc c).alloc d).heap[w.heap.size+1+1]?=some c∧((((w.alloc a).alloc b).alloc c).alloc d).heap[w.heap.size+1+1+1]?=some d∧Below w.heap.size w ((((w.alloc a).alloc b).alloc c).alloc d):=by
 have s1:(w.alloc a).heap.size=w.heap.size+1:=by simp
 have s2:((w.alloc a).alloc b).heap.size=w.heap.size+1+1:=by simp
 have s3:(((w.alloc a).alloc b).alloc c).heap.size=w.heap.size+1+1+1:=by simp
 have e1:=zF w a;have e2:=zF (w.alloc a) b;have e3:=zF ((w.alloc a).alloc b) c;have e4:=zF (((w.alloc a).alloc b).alloc c) d;rw [s1] at e2;rw [s2] at e3;rw [s3] at e4;refine ⟨by simp,?_,?_,?_,e4,((((zC _ _).alloc (zD _) _).alloc (by omega) _).alloc (by omega) _).alloc (by omega) _⟩
 ·rw [zG _ _ _ (by omega),zG _ _ _ (by omega),zG _ _ _ (by omega)];exact e1
 ·rw [zG _ _ _ (by omega),zG _ _ _ (by omega)];exact e2
 ·rw [zG _ _ _ (by omega)];exact e3
structure VdS (w:World) (R C O V:Array Value) (q:World):Prop where
 r:q.heap[w.heap.size]?=some (.cells R 59)
 c:q.heap[w.heap.size+1]?=some (.cells C 35)
 o:q.heap[w.heap.size+1+1]?=some (.cells O 27)
 v:q.heap[w.heap.size+1+1+1]?=some (.cells V 331)
 b:Below w.heap.size w q
theorem VdS.lt {w:World} {R C O V:Array Value} {q:World} (h:VdS w R C O V q):w.heap.size+1+1+1<q.heap.size:=(ge.1 h.v).1
theorem VdS.step {w:World} {R C O V:Array Value} {q q':World} (h:VdS w R C O V q) (hb:Below q.heap.size q q'):VdS w R C O V q':=by
 have hl:=h.lt;exact ⟨(hb.block _ (by omega)).trans h.r,(hb.block _ (by omega)).trans h.c,(hb.block _ (by omega)).trans h.o,(hb.block _ (by omega)).trans h.v,h.b.trans (hb.mono h.b.size)⟩
theorem VdS.drew {w:World} {R C O V:Array Value} {q:World} (h:VdS w R C O V q):VdS w R C O V q.drew:=⟨h.r,h.c,h.o,h.v,h.b.drew⟩
theorem wv:(prog.info? 331).map (·.size)=some 3:=by kernel_rfl
theorem nG {W:World} {E:Nat} {x0 x1 x2:Value} (h:W.heap[E]?=some (.cells #[x0,x1,x2] 331)):(loadVar 331 ⟨E,0,none⟩).run prog W=.ok (.agg #[x0,x1,x2]) W :=
 run_loadVar_row (P:=prog) _ _ 331 331 #[x0,x1,x2] (0,0) _ h underlying331 rfl wv
theorem nH {W:World} {E:Nat} {z0 z1 z2:Value} {T:TypeId} (h:W.heap[E]?=some (.cells #[z0,z1,z2] T)) (x0 x1 x2:Value) :
  (((W.setCell ⟨E,0,none⟩ x0).setCell ⟨E,1,none⟩ x1).setCell ⟨E,2,none⟩ x2).heap[E]?=some (.cells #[x0,x1,x2] T) :=
 zH _ _ 2 _ _ x2 (zH _ _ 1 _ _ x1 (zH _ _ 0 _ _ x0 h))
theorem jj {w:World} {B:Nat} {x0 x1 x2:Value} {T:TypeId} (h:w.heap[B]?=some (.cells #[x0,x1,x2] T)) :
  w.cell? ⟨B,0,none⟩=some x0∧w.cell? ⟨B,1,none⟩=some x1∧w.cell? ⟨B,2,none⟩=some x2∧w.frozen? ⟨B,0,none⟩=false∧w.frozen? ⟨B,1,none⟩=false∧w.frozen? ⟨B,2,none⟩=false :=
 ⟨by rw [cr h];rfl,by rw [cr h];rfl,by rw [cr h];rfl,aX h _,aX h _,aX h _⟩
theorem uK (m a g:Nat) (p c d:Bool) (k:Int) (t:ByteArray) (s f f2 f3 f4 f5 j:Nat) (cd:Nat→Int) (bt:Nat→Nat) (tx:Nat→ByteArray) (w:World) (hJ:JudR m a g p c d k s f f2 f3 f4 f5 j cd bt tx) (ht:t.size≤4) :
  Calls prog 226 #[aZ s f f2 f3 f4 f5,cN m a g p c d,.agg #[.int .i64 k,.string t]] w fun e w' =>
   e=.returned (.agg #[.int .i64 (cd (ax t.data.toList)),.int .i64 k,.string (if cd (ax t.data.toList) == 3 then tx (ax t.data.toList) else t)])∧Below w.heap.size w w':=by
 have HN:=aa fun v=>i7 k t v ht
 have hn:=eM t.data.toList (by rw [bC];exact ht);generalize ax t.data.toList=n at *;have HJ:=aa fun v=>hJ.jd n v hn
 have HB:=aa fun v=>hJ.nb n v
 have HC:=aa fun v=>iB k t v (by omega)
 have hcf:=hJ.cf;clear hJ hn;generalize cd n=x at *;generalize bt n=y at *;generalize tx n=z at *;obtain ⟨hzz,q0,q1,q2,q3,hb0⟩:=sg w (.cells #[.int .i64 s,cY f,cY f2,cY f3,cY f4,cY f5] 59) (.cells #[.int .i64 m,.int .i64 a,.int .i64 g,.bool p,.bool c,.bool d] 35) (.cells #[.int .i64 k,.string t] 27) (.cells #[.int .i64 0,.int .i64 0,.string ⟨#[]⟩] 331);have HQ:=aa (VdS.mk q0 q1 q2 q3 hb0);clear q0 q1 q2 q3 hb0 hzz;go_enter func226,ntmps226
 go_wp2_with fail
 refine aI _ (uh HQ) ?_;clear HQ;rintro q hq;obtain ⟨r0,r1,r2,r3,r4,r5⟩:=aJ hq.r;obtain ⟨c0,c1,c2,c3,c4,c5⟩:=aJ hq.c;obtain ⟨o0,o1,_,_⟩:=cy hq.o;have HH:=aa hq;clear hq;go_cut [7,8] (fun u v wx=>u=.int .i64 x∧v=.int .i64 y∧VdS w #[.int .i64 s,cY f,cY f2,cY f3,cY f4,cY f5] #[.int .i64 m,.int .i64 a,.int .i64 g,.bool p,.bool c,.bool d] #[.int .i64 k,.string t] #[.int .i64 0,.int .i64 0,.string ⟨#[]⟩] wx)
 case first =>
  go_region_held3 (fun z=>z.cell? ⟨w.heap.size,2,none⟩=some (cY f2)∧z.cell? ⟨w.heap.size+1,0,none⟩=some (.int .i64 m)∧z.cell? ⟨w.heap.size+1,1,none⟩=some (.int .i64 a)∧z.cell? ⟨w.heap.size+1,2,none⟩=some (.int .i64 g)∧z.cell? ⟨w.heap.size+1,3,none⟩=some (.bool p)∧z.cell? ⟨w.heap.size+1,4,none⟩=some (.bool c)∧z.cell? ⟨w.heap.size+1,5,none⟩=some (.bool d)∧z.cell? ⟨w.heap.size+1+1,0,none⟩=some (.int .i64 k)∧z.cell? ⟨w.heap.size+1+1,1,none⟩=some (.string t))
   (first | (exact uh K3) | (exact uh K4) | go_keep)
   (first
   | (go_at_call 189;refine (uh HN _).mono ?_;rintro e w3 ⟨rfl,hb3⟩
      have h3:=(uh HH).drew.step hb3;obtain ⟨_,_,r2,_,_,_⟩:=aJ h3.r;obtain ⟨c0,c1,c2,c3,c4,c5⟩:=aJ h3.c;obtain ⟨o0,o1,_,_⟩:=cy h3.o;have K3:=aa (zA r2 (zA c0 (zA c1 (zA c2 (zA c3 (zA c4 (zA c5 (zA o0 o1))))))));have H3:=aa h3;clear h3 hb3 r2 c0 c1 c2 c3 c4 c5 o0 o1)
   | (refine (uh HJ _).mono ?_;rintro e w4 ⟨rfl,hb4⟩
      have h4:=(uh H3).step hb4;obtain ⟨_,_,r2,_,_,_⟩:=aJ h4.r;obtain ⟨c0,c1,c2,c3,c4,c5⟩:=aJ h4.c;obtain ⟨o0,o1,_,_⟩:=cy h4.o;have K4:=aa (zA r2 (zA c0 (zA c1 (zA c2 (zA c3 (zA c4 (zA c5 (zA o0 o1))))))));have H4:=aa h4;clear h4 hb4 r2 c0 c1 c2 c3 c4 c5 o0 o1))
  all_goals
   go_wp2_with fail
   go_meet;exact ⟨rfl,rfl,uh H4⟩
 case rest =>
  obtain ⟨hu,hv,hq⟩:=hcut;subst hu hv;clear HH HN HJ hcf r0 r1 r2 r3 r4 r5 c0 c1 c2 c3 c4 c5 o0 o1;obtain ⟨r0,_,_,_,_,_⟩:=aJ hq.r;obtain ⟨o0,o1,_,_⟩:=cy hq.o;obtain ⟨v0,v1,v2,_,_,_⟩:=jj hq.v;have HH:=aa hq;clear hq;cases hx:(x == (3:Int))
  ·clear HB;go_wp2_with fail
   refine (uh HC _).mono ?_;rintro e w3 ⟨rfl,hb3⟩;have h3:=(uh HH).step hb3;obtain ⟨v0,v1,v2,f0,f1,f2⟩:=jj h3.v;have H3:=aa h3;clear h3 hb3;go_wp2
   refine bodyPost_ret (v:=.agg #[.int .i64 x,.int .i64 k,.string t]) (by simp [results,results226,asAddr,nG (nH (uh H3).v (.int .i64 x) (.int .i64 k) (.string t))]) rfl ⟨by first | rfl | (rw [hx];rfl),?_⟩;exact (((uh H3).b.setCell (p:=⟨w.heap.size+1+1+1,0,none⟩) (by simp;omega) _).setCell (p:=⟨w.heap.size+1+1+1,1,none⟩) (by simp;omega) _).setCell (p:=⟨w.heap.size+1+1+1,2,none⟩) (by simp;omega) _
  ·clear HC;have hne1:¬ (w.heap.size=w.heap.size+1+1+1):=by omega
   have hne2:¬ (w.heap.size+1+1+1=w.heap.size):=by omega
   go_upto_region 3 with fail
   go_region_held3 (fun z=>z.cell? ⟨w.heap.size,0,none⟩=some (.int .i64 s)∧z.cell? ⟨w.heap.size+1+1,0,none⟩=some (.int .i64 k))
    (first | (exact uh K3) | go_keep)
    (first
    | (go_at_call 18;refine (uh HB _).mono ?_;rintro e w3 ⟨rfl,hb3⟩
       have h3:=(uh HH).drew.step hb3;obtain ⟨r0,_,_,_,_,_⟩:=aJ h3.r;obtain ⟨o0,_,_,_⟩:=cy h3.o;obtain ⟨v0,v1,v2,f0,f1,f2⟩:=jj h3.v;have K3:=aa (zA r0 o0);have H3:=aa h3;clear h3 hb3))
   all_goals
    go_wp2
    refine bodyPost_ret (v:=.agg #[.int .i64 x,.int .i64 k,.string z]) (by simp [results,results226,asAddr,nG (nH (uh H3).v (.int .i64 x) (.int .i64 k) (.string z))]) rfl ⟨by first | rfl | (rw [hx];rfl),?_⟩;exact (((uh H3).b.setCell (p:=⟨w.heap.size+1+1+1,0,none⟩) (by simp;omega) _).setCell (p:=⟨w.heap.size+1+1+1,1,none⟩) (by simp;omega) _).setCell (p:=⟨w.heap.size+1+1+1,2,none⟩) (by simp;omega) _
theorem ttI:Tt 182:=⟨by decide,by decide,by decide⟩
section
variable {w0 w1:World} {B:Nat} {c:Cx} {s:St} {v1 v2 vs vt:Value} {q:World}
theorem nL (h:Lay 182 w0 w1 B c s v1 v2 vs vt q) (hid:0≤s.e.id∧s.e.id≤255) :
  Calls prog 279 #[.pointer (some ⟨B,0,none⟩)] q fun r q'=>r=.returned (.int .i64 ((s.e.id+1) % 256))∧Lay 182 w0 w1 B c { s with e:=g9 s.e } v1 v2 vs vt q':=by
 have c15:=h.cell (i:=15) rfl;have f15:=h.frz 15;obtain ⟨h1,h2⟩:=hid;have h':=h.setRaw 15 (.int .i64 ((s.e.id+1) % 256)) (g9 s.e) rfl;have d15:=h'.cell (i:=15) rfl;dsimp only [g9] at d15;have hm:(s.e.id+1).tmod 256=(s.e.id+1) % 256:=Int.tmod_eq_emod_of_nonneg (by omega);have HL:=aa h';clear h h';go_enter func279,ntmps279
 go_wp2
 go_ret
 exact ⟨rfl,uh HL⟩
theorem wE (h:Lay 182 w0 w1 B c s v1 v2 vs vt q) (htr:0≤s.e.tr∧s.e.tr≤5) (hn:0≤c.now∧c.now≤1000000000) :
  Calls prog 280 #[.pointer (some ⟨B,0,none⟩)] q fun r q'=>r=.returned (.tuple #[])∧Lay 182 w0 w1 B c { s with e:=kq c.now s.e } v1 v2 vs vt q':=by
 have c13:=h.cell (i:=13) rfl;have f13:=h.frz 13;obtain ⟨h1,h2⟩:=htr;obtain ⟨h3,h4⟩:=hn;have h':=h.setRaw 13 (.int .i64 (max 0 (s.e.tr - 1))) { s.e with tr:=max 0 (s.e.tr - 1) } rfl;have c14:=h'.cell (i:=14) rfl;have f14:=h'.frz 14;have c30:=h'.cell (i:=30) rfl;have h'':=h'.setRaw 14 (.int .i64 (c.now+3)) (kq c.now s.e) rfl;have HL:=aa h'';clear h h' h'';dsimp only at c14 c30;go_enter func280,ntmps280
 go_wp2
 exact Great.bodyPost_end0 rfl rfl ⟨rfl,uh HL⟩
theorem gF (h:Lay 182 w0 w1 B c s v1 v2 vs vt q) (hS:s.sn.length≤1000) (cd id:Int) (dt:ByteArray) :
  Calls prog 278 #[.pointer (some ⟨B,0,none⟩),.int .i64 cd,.int .i64 id,.string dt] q fun r q'=>r=.returned (.tuple #[])∧∃ vs',Lay 182 w0 w1 B c (gE s cd id dt) v1 v2 vs' vt q':=by
 have c0:=h.cell (i:=37) rfl;obtain ⟨ad,cp,rfl⟩:=af h.os;obtain ⟨n,hn⟩:∃ n,s.sn.length=n:=⟨_,rfl⟩;have ho:=h.os;rw [hn] at c0 ho hS h;have HO:=aa ho;have HL:=aa h;clear h ho;go_enter func278,ntmps278
 go_wp2_with (first
  | (at_builtin;refine jL rfl _ _ rfl w1.heap.size (.slice ad n cp) s.sn n hn rfl (uh HO) cd id dt rfl hS (uh HL).nr.size ?_;rintro v6 w6 ho6 hg6;obtain ⟨a6,c6,rfl⟩:=af ho6
     have e6:=(hg6.block B (Nat.lt_of_lt_of_le (uh HL).lt (by simp)) (fun e=>(aq (uh HL).os (uh HL).row (uh HL).tt.2.1) e.symm)).trans ((zG _ _ _ (uh HL).lt).trans (uh HL).row);have k6:w6.cell? ⟨B,37,none⟩=some (.slice ad n cp):=by rw [cr e6];rfl
     have f6:w6.frozen? ⟨B,37,none⟩=false:=aX e6 37;clear e6))
 refine Great.bodyPost_end0 rfl rfl ⟨rfl,_,(uh HL).put _ hg6 _ _ ?_⟩;rw [List.length_append,hn];exact ho6
theorem wF (h:Lay 182 w0 w1 B c s v1 v2 vs vt q) :
  Calls prog 259 #[.pointer (some ⟨B,0,none⟩)] q fun r q'=>r=.returned (.tuple #[])∧Lay 182 w0 w1 B c { s with e:=gD s.e } v1 v2 vs vt q':=by
 have c19:=h.cell (i:=19) rfl;have f19:=h.frz 19;have h19:=h.setRaw 19 (.bool false) { s.e with up:=false } rfl;have c20:=h19.cell (i:=20) rfl;have f20:=h19.frz 20;have h20:=h19.setRaw 20 (.int .i64 0) { s.e with up:=false,i1:=0 } rfl;have c21:=h20.cell (i:=21) rfl;have f21:=h20.frz 21;have h21:=h20.setRaw 21 (.int .i64 0) { s.e with up:=false,i1:=0,i2:=0 } rfl;have c22:=h21.cell (i:=22) rfl;have f22:=h21.frz 22;have h22:=h21.setRaw 22 (.bool false) { s.e with up:=false,i1:=0,i2:=0,i3:=false } rfl;have c23:=h22.cell (i:=23) rfl;have f23:=h22.frz 23;have h23:=h22.setRaw 23 (.bool false) { s.e with up:=false,i1:=0,i2:=0,i3:=false,i4:=false } rfl;have c24:=h23.cell (i:=24) rfl;have f24:=h23.frz 24;have h24:=h23.setRaw 24 (.bool false) { s.e with up:=false,i1:=0,i2:=0,i3:=false,i4:=false,i5:=false } rfl;have c25:=h24.cell (i:=25) rfl;have f25:=h24.frz 25;have h25:=h24.setRaw 25 (.int .i64 0) { s.e with up:=false,i1:=0,i2:=0,i3:=false,i4:=false,i5:=false,o1:=0 } rfl;have c26:=h25.cell (i:=26) rfl;have f26:=h25.frz 26;have h26:=h25.setRaw 26 (.int .i64 0) { s.e with up:=false,i1:=0,i2:=0,i3:=false,i4:=false,i5:=false,o1:=0,o2:=0 } rfl;have c27:=h26.cell (i:=27) rfl;have f27:=h26.frz 27;have h27:=h26.setRaw 27 (.bool false) { s.e with up:=false,i1:=0,i2:=0,i3:=false,i4:=false,i5:=false,o1:=0,o2:=0,o3:=false } rfl;have c28:=h27.cell (i:=28) rfl;have f28:=h27.frz 28;have h28:=h27.setRaw 28 (.bool false) { s.e with up:=false,i1:=0,i2:=0,i3:=false,i4:=false,i5:=false,o1:=0,o2:=0,o3:=false,o4:=false } rfl;have c29:=h28.cell (i:=29) rfl;have f29:=h28.frz 29;have h29:=h28.setRaw 29 (.bool false) (gD s.e) rfl;have HL:=aa h29;clear h h19 h20 h21 h22 h23 h24 h25 h26 h27 h28 h29;dsimp only at c20 c21 c22 c23 c24 c25 c26 c27 c28 c29;go_enter func259,ntmps259
 go_wp2
 exact Great.bodyPost_end0 rfl rfl ⟨rfl,uh HL⟩
theorem uS (h:Lay 182 w0 w1 B c s v1 v2 vs vt q) (n:Int) :
  Calls prog 274 #[.agg #[.int .i64 n],.pointer (some ⟨B,0,none⟩)] q fun r q'=>r=.returned (.tuple #[])∧Lay 182 w0 w1 B c { s with e:={ s.e with tr:=n } } v1 v2 vs vt q':=by
 have hb:Below q.heap.size q (q.alloc (.cells #[.int .i64 n] 216)):=(zC _ _).alloc (zD _) _;have h0:=h.step hb;have c13:=h0.cell (i:=13) rfl;have f13:=h0.frz 13;have HL:=aa (h0.setRaw 13 (.int .i64 n) { s.e with tr:=n } rfl);clear h h0 hb;go_enter func274,ntmps274
 go_wp2
 exact Great.bodyPost_end0 rfl rfl ⟨rfl,uh HL⟩
theorem wG {n:Nat} (h:Lay 182 w0 w1 B c s v1 v2 vs vt q) (hf:Fit n c s) (hn:n≤1000) :
  Calls prog 281 #[.agg #[],.pointer (some ⟨B,0,none⟩)] q fun r q'=>r=.returned (.tuple #[])∧∃ vs',Lay 182 w0 w1 B c (lH c s) v1 v2 vs' vt q':=by
 have hb:Below q.heap.size q (q.alloc (.cells #[] 243)):=(zC _ _).alloc (zD _) _;have HL:=aa (h.step hb);have HF:=aa hf;clear h hb hf;go_enter func281,ntmps281
 go_wp2_with fail
 refine (nL (uh HL) (uh HF).id).mono ?_;rintro r q1 ⟨rfl,h1⟩;have HL1:=aa h1;clear h1;go_wp2_with fail
 refine (gF (uh HL1) (zE (uh HF).sn hn) 5 _ _).mono ?_;rintro r q2 ⟨rfl,vs2,h2⟩;have HL2:=aa h2;clear h2;go_wp2_with fail
 refine (wE (uh HL2) (uh HF).tr (uh HF).now).mono ?_;rintro r q3 ⟨rfl,h3⟩;go_wp2
 exact Great.bodyPost_end0 rfl rfl ⟨rfl,_,h3⟩
theorem wH {n:Nat} (h:Lay 182 w0 w1 B c s v1 v2 vs vt q) (hf:Fit n c s) (hn:n≤1000) :
  Calls prog 277 #[.agg #[],.pointer (some ⟨B,0,none⟩)] q fun r q'=>r=.returned (.tuple #[])∧∃ v1' vs',Lay 182 w0 w1 B c (lG c s) v1' v2 vs' vt q':=by
 have HF:=aa hf;obtain ⟨e1,e2,e3⟩:=g_ hf.ask;have CA:=aa fun W=>mM s.e.m2.toNat s.e.a2.toNat s.e.g2.toNat s.e.p2 s.e.c2 s.e.d2 W (by rw [e1,e2,e3];exact hf.ask)
 rw [e1,e2,e3] at CA;clear e1 e2 e3;have hb:Below q.heap.size q (q.alloc (.cells #[] 242)):=(zC _ _).alloc (zD _) _;have h0:=h.step hb;have c6:=h0.cell (i:=6) rfl;have c7:=h0.cell (i:=7) rfl;have c8:=h0.cell (i:=8) rfl;have c9:=h0.cell (i:=9) rfl;have c10:=h0.cell (i:=10) rfl;have c11:=h0.cell (i:=11) rfl;have HL:=aa h0;clear h h0 hb hf;go_enter func277,ntmps277
 go_wp2_with fail
 refine (uh CA _).mono ?_;rintro r q1 ⟨ad,cp,rfl,ho,hb⟩;have h1:=(uh HL).step hb;have c17:=h1.cell (i:=17) rfl;have f17:=h1.frz 17;have HL1:=aa ((uh HL).new1 hb _ (fP s.e) ho);clear h1 ho hb HL CA c6 c7 c8 c9 c10 c11;go_upto_region 2 with fail
 refine aI (fun z=>Lay 182 w0 w1 B c { s with F1:=fP s.e } (.slice ad (fP s.e).length cp) v2 vs vt z) ?_ ?_
 ·exact uh HL1
 clear HL1 c17 f17;rintro z hz;have c17:=hz.cell (i:=17) rfl;have HZ:=aa (hz.step (zC _ _).drew);clear hz;refine wp_region_held_drew (S:=fun z=>z.cell? ⟨B,17,none⟩=some (.slice ad (fP s.e).length cp)) (by kernel_rfl) ?_ (fun hHeld=>?_)
 ·exact c17
 refine tq 0 1 2 3 ?_;refine tq 5 6 7 8 ?_;refine t2 9 ?_;refine r3 4 fun K hK=>?_
 go_simp;refine (nL (uh HZ) (uh HF).id).mono ?_;rintro r z1 ⟨rfl,h1⟩;have HZ1:=aa h1;clear h1;go_wp2_with fail
 refine ro hK ?_ fun _=>?_
 ·exact (uh HZ1).cell (i:=17) rfl
 clear hK K;refine r3 10 fun K hK=>?_
 go_simp;refine (cP _ (fP s.e) _ (by have:=oI s.e;unfold maxLen;omega) (HoldsO.own (uh HZ1).o1)).mono ?_;rintro r z2 ⟨rfl,hb2⟩;have HZ2:=aa ((uh HZ1).step hb2);clear hb2;go_wp2_with fail
 refine ro hK ?_ fun _=>?_
 ·exact (uh HZ2).cell (i:=17) rfl
 clear hK K;refine r3 11 fun K hK=>?_
 go_simp;refine (gF (uh HZ2) (zE (uh HF).sn hn) 1 _ _).mono ?_;rintro r z3 ⟨rfl,vs3,h3⟩;have HP:=aa h3;clear h3;go_wp2_with fail
 refine ro hK ?_ fun _=>?_
 ·exact (uh HP).cell (i:=17) rfl
 clear hK K;refine dn ?_ _;go_wp2_with fail
 refine (wE (uh HP) (uh HF).tr (uh HF).now).mono ?_;rintro r q9 ⟨rfl,h9⟩;go_wp2
 have e9:rD (fP s.e)=co (Op.bytes (fP s.e)):=fI (bz (jo s.e));rw [e9] at h9;exact Great.bodyPost_end0 rfl rfl ⟨rfl,_,_,h9⟩
end
theorem Ay (c:UInt8):bits .and .u8 (c.toNat:Int) 15=((c.toNat % 16:Nat):Int):=by
 rw [← Nat.and_two_pow_sub_one_eq_mod c.toNat 4];exact u8_and_nat c.toNat 15 c.toNat_lt (by decide)
theorem sK (t:ByteArray) (W:World):∃ cap cs m W',(convert 9 22 (.string t)).run prog W=.ok (.slice (some ⟨W.heap.size,0,none⟩) t.size cap) W'∧t.size≤cap∧W'.heap[W.heap.size]?=some (.cells cs 5 (m,m+1))∧(∀ i (h:i<t.size),cs[i]?=some (.int .u8 t[i].toNat))∧Below W.heap.size W W'∧W.heap.size<W'.heap.size:=by
 have h:=run_bytes_of_string (P:=prog) W 9 22 5 t underlying9 underlying22 underlying5;have hg:=grownCap_ge W t.size 0 5;refine ⟨_,_,_,_,h,by omega,zF W.drew _,?_,(zC _ _).drew.alloc (zD _) _,by simp⟩;intro i hi;simp [bytesRow,Array.getElem?_append,hi];rfl
theorem mo {w:World} {base:Nat} {e:TypeId} {size:Nat} {v:Value} {n B m:Nat} {xs:List Value} {cs:Array Value} (h:w.ownsRow base e size v n xs) (hB:w.heap[B]?=some (.cells cs e (m,m+1))):v.ownBlock≠some B:=by
 intro hv;rcases h.2 with ⟨rfl,_⟩ | ⟨g,cap,cur,rfl,_,h3,_⟩
 ·cases hv
 ·cases hv;rw [h3] at hB;injection hB with hB;injection hB with _ _ hB;cases hB
theorem uy {w w':World} {base:Nat} {e:TypeId} {size:Nat} {v:Value} {n:Nat} {xs:List Value} (h:w.ownsRow base e size v n xs) (hb:Below w.heap.size w w'):w'.ownsRow base e size v n xs :=
 ⟨h.1,h.2.imp id fun ⟨g,cap,cur,p1,p2,p3,p4⟩=>⟨g,cap,cur,p1,p2,(hb.block g (ge.1 p3).1).trans p3,p4⟩⟩
theorem kI {ops:Array Oper} {o:Oper} {a:Act} {K:Act→World→Prop} {Q:Exit→Act→World→Prop} {E:Prop} {wr:World} (w:World) (hgd:o.guard=none) (s x:Operand)
  (ho:o.op=.call { callee:=.builtin .append,args:=#[s,x],argTypes:=#[22,22] }) (base:Nat) (v:Value) (L news:List UInt8) (A:Nat) (hs:a.eval s=v) (m:Nat) (hm:news.length=m) (hx:a.eval x=.slice (some ⟨A,0,none⟩) m m)
  (hown:wr.ownsRow base 5 1 v L.length (bh L)) (hb:Below wr.heap.size wr w) (hA:∃ cs fr,w.heap[A]?=some (.cells cs 5 fr)∧cs.toList=bh news) (hL:L.length+news.length≤10000000) (hbase:base≤wr.heap.size)
  (h:∀ v' w',w'.ownsRow base 5 1 v' (L ++ news).length (bh (L ++ news))→Below base wr w'→(∀ B,B<wr.heap.size→v.ownBlock≠some B→w'.heap[B]?=wr.heap[B]?)→K (a.put o.dst v') w') :
  if Region.wanted o (yielded ops a.tmps)=true then Oper.wp prog o a w K Q else E:=by
 have hw:Region.wanted o (yielded ops a.tmps)=true:=by simp [Region.wanted,hgd]
 rw [if_pos hw];obtain ⟨i,hi,hz,hsz,hby⟩:=mn;obtain ⟨cs,fr,hA,hcs⟩:=hA;subst hm;have hlow:w.ownsRow base 5 1 v L.length (bh L):=uy hown hb;obtain ⟨v',w',hr,h2,h3,_⟩:=run_append_own (P:=prog) w base 22 o.type 5 i _ 1 1 underlying22 hi hz hsz hby rfl (by decide) v L.length (bh L) hlow ⟨A,0,none⟩ news.length news.length (bh news) (by rw [oX,Nat.mul_one]) (fun j u hu=>by
   rw [Addr.add_lit,Nat.zero_add,cr hA,← hu,← hcs,Array.getElem?_toList]) (fun u hu=>by
   simp only [bh,mp,List.map_map,List.mem_map] at hu;obtain ⟨x,_,rfl⟩:=hu;rfl) (by unfold maxLen;omega) (by omega) (zE hbase hb.size)
 unfold Oper.wp execOp;simp only [ho,resolve,invoke,builtin,Sem.run_bind,Sem.run_pure,Result.andThen_ok,List.map_toArray,List.map_cons,List.map_nil,hs,hx,hr];exact h v' w' (by rw [List.length_append,fo];exact h2) ((hb.mono hbase).grown h3 (zE hbase hb.size) (fun q hq=>(World.ownsRow.lt hlow q hq).1)) (fun B hB hv=>(h3.block B (Nat.lt_of_lt_of_le hB hb.size) (fun e=>hv e.symm)).trans (hb.block B hB))
theorem Az (t:ByteArray) (w:World) (ht:t.size≤4000) :
  Calls prog 6 #[.string t] w fun e w'=>e=.returned (.string (co (eB t.data.toList)))∧Below w.heap.size w w':=by
 have d0:¬ ((4000:Int)<(t.size:Int)):=by omega
 go_enter func6,ntmps6
 go_wp2_with (first
  | (at_make;refine nh rfl _ _ rfl w.heap.size _ (2*t.size) rfl rfl (by go_num) (by omega) (by simp) ?_;rintro v0 w2 ho2 hb2;obtain ⟨cap,cs,m,W1,hcv,hcap,hbl,hcs,hb1,hlt1⟩:=sK t w2;have HO2:=aa ho2;have HB2:=aa hb2;clear ho2 hb2))
 have HL:=aa hbl;have HC:=aa hcs;have HB1:=aa hb1;clear hbl hcs hb1 hcv;have hs2:=(uh HB2).size;go_loopw [3,16] (fun v i wr=>∃ (k:Nat),k≤t.size∧i=.int .i64 k∧wr.ownsRow w.heap.size 5 1 v (eB (t.data.toList.take k)).length (bh (eB (t.data.toList.take k)))∧Below w.heap.size w wr∧wr.heap[w2.heap.size]?=some (.cells cs 5 (m,m+1))) (fun _ i _=>t.size - (intOf i).toNat)
 case atStart=>exact ⟨0,Nat.zero_le _,rfl,uy (uh HO2) (uh HB1),(uh HB2).trans ((uh HB1).mono hs2),uh HL⟩
 case round =>
  obtain ⟨k,hk,rfl,hown,hb1,hly⟩:=hrel;by_cases hlt:k<t.size
  ·have hn:=gw (t.data.toList.take k);rw [List.length_take] at hn;have HS:Hid (eB (t.data.toList.take (k+1))=eB (t.data.toList.take k) ++ ux t[k]):=by
    refine aa ?_;rw [fg t k hlt,sJ]
   have hn2:(eB (t.data.toList.take k)).length≤200000:=by omega
   have hcell:wr.cell? ⟨w2.heap.size,k,none⟩=some (.int .u8 t[k].toNat):=by rw [cr hly];exact uh HC k hlt
   generalize eB (t.data.toList.take k)=L at *;have hsz:=hb1.size;have HO:=aa hown;have HY:=aa (zA (mo hown hly) hly);clear hown hn hly;generalize hc:t[k]=c at *;have hi1:∀ W,(Instr.index 9 (.string ⟨#[48,49,50,51,52,53,54,55,56,57,97,98,99,100,101,102]⟩) (.int .u8 ((c.toNat:Int) / 16))).run prog W=.ok (.int .u8 ((dg (c.toNat / 16)).toNat:Int)) W:=by
    intro W;rw [show (c.toNat:Int) / 16=((c.toNat / 16:Nat):Int) by omega];exact nt _ (by have:=c.toNat_lt;omega) W
   have hi2:∀ W,(Instr.index 9 (.string ⟨#[48,49,50,51,52,53,54,55,56,57,97,98,99,100,101,102]⟩) (.int .u8 (bits .and .u8 (c.toNat:Int) 15))).run prog W=.ok (.int .u8 ((dg (c.toNat % 16)).toNat:Int)) W:=by
    intro W;rw [Ay c];exact nt _ (by omega) W
   unfold ux at HS;generalize dg (c.toNat / 16)=d1 at *;generalize dg (c.toNat % 16)=d2 at *;go_wp2_with fail
   go_region_held3 (fun _=>True) (trivial) (first
     | (refine kI _ (by rfl) _ _ (by rfl) w.heap.size u3 L [d1,d2] wr.heap.size (by rfl) 2 (by rfl) (by rfl) (uh HO) (by first | exact ((zC _ _).alloc (zD _) _).drew | exact ((zC _ _).drew.alloc (zD _) _)) ⟨_,_,zF wr _,rfl⟩ (by simp;omega) hsz ?_;rintro v' w3 ho2 hb2 hg2;have HO3:=aa ho2;have HG3:=aa (zA hb2 hg2);clear ho2 hb2 hg2))
   all_goals
    go_wp2_with fail
    go_roundw
    case rel =>
     refine ⟨k+1,by omega,by go_num,?_,hb1.trans (uh HG3).1,?_⟩
     ·rw [uh HS];exact uh HO3
     ·rw [(uh HG3).2 _ (ge.1 (uh HY).2).1 (uh HY).1];exact (uh HY).2
    case measure=>simp [intOf];omega
  ·have hlt':¬ ((k:Int)<(t.size:Int)):=by omega
   have hcv:=eK hown;rw [List.take_of_length_le (by simp;omega)] at hcv;go_wp2
   go_ret
   exact ⟨rfl,hb1⟩
theorem qa (t:ByteArray) (w:World) (ht:t.size≤maxLen) :
  Calls prog 6 #[.string t] w fun e w'=>e=.returned (.string (bb t))∧Below w.heap.size w w':=by
 unfold maxLen at ht;by_cases h4:t.size≤4000
 ·rw [show bb t=_ from if_pos h4];exact Az t w h4
 ·rw [show bb t=_ from if_neg h4];have d0:(4000:Int)<(t.size:Int):=by omega
  go_enter func6,ntmps6
  go_wp2
  go_ret
  exact ⟨rfl,zC _ _⟩
end Go.Proofs.YtjebigodbnefiaaGreatDoor
namespace Go.Proofs.YtjebigodbnefiaaGreatDoor
open Go.RowKit Go.Proofs.Tryz
def dv (c:UInt8):Nat:=if 48≤c.toNat∧c.toNat≤57 then c.toNat - 48 else if 97≤c.toNat∧c.toNat≤102 then c.toNat - 87 else 16
theorem AB (c:UInt8):dv c≤16:=by unfold dv;split<;>(try split)<;>omega
def sL (t:ByteArray) (k:Nat):Prop:=∀ i,i<2*k→∀ h:i<t.size,dv (t[i]'h)<16
def ff (t:ByteArray) (i:Nat):Nat:=if h:i<t.size then dv (t[i]'h) else 0
def nz (t:ByteArray) (k:Nat):List UInt8:=(List.range k).map fun i=>UInt8.ofNat (16*ff t (2*i)+ff t (2*i+1))
open Classical in
noncomputable def bB (t:ByteArray):ByteArray:=if t.size≤8000∧t.size % 2=0∧sL t (t.size / 2) then co (nz t (t.size / 2)) else ⟨#[]⟩
theorem uz (t:ByteArray) (k:Nat):nz t (k+1)=nz t k ++ [UInt8.ofNat (16*ff t (2*k)+ff t (2*k+1))]:=by
 unfold nz;rw [List.range_succ,List.map_append];rfl
theorem fU (t:ByteArray) (k:Nat):(nz t k).length=k:=by simp [nz]
theorem ri (t:ByteArray) (i:Nat):ff t i≤16:=by
 unfold ff;split
 ·exact AB _
 ·omega
theorem sW {t:ByteArray} {k:Nat} (h:sL t k) (h1:ff t (2*k)<16) (h2:ff t (2*k+1)<16):sL t (k+1):=by
 intro i hi hs;by_cases e0:i<2*k
 ·exact h i e0 hs
 by_cases e1:i=2*k
 ·subst e1;unfold ff at h1;rw [dif_pos hs] at h1;exact h1
 ·have e2:i=2*k+1:=by omega
  subst e2;unfold ff at h2;rw [dif_pos hs] at h2;exact h2
theorem uA {t:ByteArray} {i:Nat} (hi:i<t.size) (h:ff t i=16):bB t=⟨#[]⟩:=by
 refine if_neg fun hh=>?_
 have:=hh.2.2 i (by omega) hi
 unfold ff at h;rw [dif_pos hi] at h;omega
theorem uQ (c:UInt8):Lib.indexByte yR.data.toList c=if dv c<16 then ((dv c:Nat):Int) else -1:=by
 have:∀ n,n<256→Lib.indexByte yR.data.toList (UInt8.ofNat n)=if dv (UInt8.ofNat n)<16 then ((dv (UInt8.ofNat n):Nat):Int) else -1:=by decide +kernel
 have h:=this c.toNat c.toNat_lt;rw [UInt8.ofNat_toNat] at h;exact h
theorem uR (s:ByteArray) (c:UInt8) (W:World):(callFunc 118 #[.string s,.int .u8 (c.toNat:Int)]).run prog W=.ok (.value (.int .i64 (Lib.indexByte s.data.toList c))) W:=by
 rw [run_callFunc_indexByte func118 (by kernel_rfl) (by kernel_rfl) (by kernel_rfl) (by kernel_rfl),Lib.run_indexByteString];simp
theorem xT (s:ByteArray) (c:UInt8) (w:World):Calls prog 102 #[.string s,.int .u8 c.toNat] w fun e w'=>e=.returned (.int .i64 (Lib.indexByte s.data.toList c))∧w'=w:=by
 have hC:=uR s c;generalize Lib.indexByte s.data.toList c=z at *;go_enter func102,ntmps102
 go_wp2
 go_ret
 exact ⟨rfl,rfl⟩
theorem uT (s:ByteArray) (c:UInt8) (w:World):Calls prog 110 #[.string s,.int .u8 c.toNat] w fun e w'=>e=.returned (.int .i64 (Lib.indexByte s.data.toList c))∧w'=w:=by
 have C:=xT s c w;generalize Lib.indexByte s.data.toList c=z at *;go_enter func110,ntmps110
 go_wp2_with fail
 refine C.mono ?_;rintro e w1 ⟨rfl,rfl⟩;go_wp2
 go_ret
 exact ⟨rfl,rfl⟩
theorem lE {t:ByteArray} {k:Nat} (hk:2*k=t.size) (h8:t.size≤8000) (h:sL t k):bB t=co (nz t k):=by
 have e:t.size / 2=k:=by omega
 unfold bB;rw [e];exact if_pos ⟨h8,by omega,h⟩
theorem mr {t:ByteArray} {i:Nat} (h:i<t.size):dv (t[i]'h)=ff t i:=by
 unfold ff;rw [dif_pos h]
theorem xU (h l:Nat) (hh:h<16) (hl:l<16):((UInt8.ofNat (16*h+l)).toNat:Int)=16*(h:Int)+(l:Int):=by
 rw [UInt8.toNat_ofNat',Nat.mod_eq_of_lt (by omega)];omega
end Go.Proofs.YtjebigodbnefiaaGreatDoor
