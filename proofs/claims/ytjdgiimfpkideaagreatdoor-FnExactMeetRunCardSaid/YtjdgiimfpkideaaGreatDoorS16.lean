/- LaidEb WkD WkI ReadOpt -/
import Derived.Test.YtjdgiimfpkideaaGreatDoorS15
import Derived.Test.YtjdgiimfpkideaaGreatDoorS08
import Derived.Test.YtjdgiimfpkideaaGreatDoorS12
set_option maxHeartbeats 4000000
set_option maxRecDepth 100000
namespace Go.Proofs.YtjdgiimfpkideaaGreatDoor
open Go.Proofs.Tryz
open Go.ChangeShapes Go.WideShapes Go.ChangeAt Go.RowKit
theorem o9:laidOutB prog=true:=by kernel_rfl
theorem nxG : prog.globalNamed "loop.example/g00351/impl.nextStates" = some 1 := by kernel_rfl
theorem o_:(prog.globals[1]?).map (·.type)=some 168:=by kernel_rfl
theorem jH:prog.cellsOf 167=10:=by kernel_rfl
theorem ou:prog.cellsOf 2=1:=by kernel_rfl
theorem tW:(Rows.laid_loop_example_g00351_impl_nextStates:DataW Unit)=.agg (iy.map fun l=>Lib.tabData .i64 l):=by kernel_rfl
theorem tX:(iy.all fun l=>decide (l.length=10))=true:=by kernel_rfl
theorem tY {W : World} (h : Lib.VarReads prog W "loop.example/g00351/impl.nextStates" Rows.laid_loop_example_g00351_impl_nextStates) : NxT W := by
 rw [tW] at h;obtain ⟨g,t,cs,fuel,p,hg,hty,hvar,hd⟩:=h;obtain rfl:=Option.some.inj (nxG.symm.trans hg);obtain rfl:=Option.some.inj (o_.symm.trans hty);intro i s hi hs;obtain ⟨fuel',d,q,hdi,he⟩:=Lib.array_elem underlying168 hd i hi;rw [List.getElem?_map] at hdi;obtain ⟨r,hr,rfl⟩:=Option.map_eq_some_iff.1 hdi;have hrl:r.length=10:=of_decide_eq_true (List.all_eq_true.1 tX r (List.mem_of_getElem? hr));rw [jH] at he;have hcs:=Lib.cells_of_tab underlying167 underlying2 ou jH he;rw [World.var?_cell hg hvar (i*10+s),← Array.getElem?_toList];have e0:=congrArg (·[s]?) hcs;simp only [List.getElem?_take,List.getElem?_drop,hs,if_true,List.getElem?_map] at e0;rw [e0];unfold iN;rw [show iy.getD i []=r by rw [List.getD_eq_getElem?_getD,hr];rfl,List.getD_eq_getElem?_getD,List.getElem?_eq_getElem (by omega)];rfl
theorem spG : prog.globalNamed "strings.asciiSpace" = some 2 := by kernel_rfl
theorem pb:(prog.globals[2]?).map (·.type)=some 195:=by kernel_rfl
theorem ov:prog.cellsOf 195=256:=by kernel_rfl
theorem pe:prog.cellsOf 5=1:=by kernel_rfl
theorem tZ:(Rows.laid_strings_asciiSpace:DataW Unit)=Lib.tabData .u8 Lib.asciiSpaceTab:=by kernel_rfl
theorem t_ {W : World} (h : Lib.VarReads prog W "strings.asciiSpace" Rows.laid_strings_asciiSpace) : SpT W := by
 rw [tZ] at h;obtain ⟨g,t,cs,fuel,p,hg,hty,hvar,hd⟩:=h;obtain rfl:=Option.some.inj (spG.symm.trans hg);obtain rfl:=Option.some.inj (pb.symm.trans hty);intro c hc;have hcs:=Lib.cells_of_tab underlying195 underlying5 pe ov hd;rw [World.var?_cell hg hvar c,← Array.getElem?_toList,hcs,List.getElem?_map];have hl:c<Lib.asciiSpaceTab.length:=by rw [Lib.asciiSpaceTab_length];exact hc
 have:=Lib.asciiSpaceTab_at c hc
 rw [List.getD_eq_getElem?_getD,List.getElem?_eq_getElem hl,Option.getD_some] at this;rw [List.getElem?_eq_getElem hl,Option.map_some,this]
end Go.Proofs.YtjdgiimfpkideaaGreatDoor
namespace Go.Proofs.YtjdgiimfpkideaaGreatDoor
open Go.RowKit Go.Proofs.Tryz
def fi (e:En):En:={ e with id:=(e.id+1) % 256 }
def kq (now:Int) (e:En):En:={ e with tr:=max 0 (e.tr - 1),du:=now+3 }
def gD (e:En):En:={ e with up:=false,i1:=0,i2:=0,i3:=false,i4:=false,i5:=false,o1:=0,o2:=0,o3:=false,o4:=false,o5:=false }
def sF (L1 L2:Ln) (e:En):En:={ e with up:=true,i1:=L1.m,i2:=L1.a,i3:=L1.p,i4:=L1.c,i5:=L1.d,o1:=L2.m,o2:=L2.a,o3:=L2.p,o4:=L2.c,o5:=L2.d }
def dv (e:En):List Op.Opt:=bp e.m2.toNat e.a2.toNat e.g2.toNat e.p2 e.c2 e.d2 6
def gE (s:St) (cd id:Int) (dt:ByteArray):St:={ s with sn:=s.sn ++ [⟨cd,id,dt⟩] }
abbrev mO:ByteArray:=⟨#[105,114,99]⟩
abbrev pT:ByteArray:=⟨#[122,114,99]⟩
abbrev mP:ByteArray:=⟨#[115,99,114]⟩
abbrev mQ:ByteArray:=⟨#[115,116,114]⟩
abbrev bP:ByteArray:=⟨#[116,108,115]⟩
abbrev bQ:ByteArray:=⟨#[116,108,102]⟩
abbrev bL:ByteArray:=⟨#[116,108,100]⟩
abbrev dz:ByteArray:=⟨#[116,108,117]⟩
def pU (s:St):St:={ s with e:={ s.e with tr:=5 } }
def pV (s:St):St:={ s with e:={ s.e with tr:=0 } }
def lG (c:Cx) (s:St):St:={ s with e:=kq c.now (fi s.e),F1:=dv s.e,sn:=s.sn ++ [⟨1,(s.e.id+1) % 256,co (Op.bytes (dv s.e))⟩] }
def lH (c:Cx) (s:St):St:={ s with e:=kq c.now (fi s.e),sn:=s.sn ++ [⟨5,(s.e.id+1) % 256,⟨#[]⟩⟩] }
def say (t:ByteArray) (s:St):St:={ s with tl:=s.tl ++ [t] }
def pW (s:St):St:=say bL { s with e:=gD s.e }
def pX (s:St):St:=say dz { s with e:=sF (bc s.F1) (bc s.F2) s.e }
abbrev pY:ByteArray:=⟨#[115,99,97]⟩
abbrev pZ:ByteArray:=⟨#[115,99,110]⟩
abbrev p5:ByteArray:=⟨#[115,116,97]⟩
abbrev p6:ByteArray:=⟨#[115,99,106]⟩
abbrev p7:ByteArray:=⟨#[115,101,114]⟩
def p_ (c:Cx) (s:St):St:={ s with e:={ s.e with fl:=0 },F2:=c.hd,sn:=s.sn ++ [⟨2,c.ci,co (Op.bytes c.ao)⟩] }
def fy (c:Cx) (s:St):St:={ s with e:={ s.e with fl:=if c.ac=3 then min 3 (s.e.fl+1) else s.e.fl },sn:=s.sn ++ [⟨c.ac,c.ci,co (Op.bytes c.ao)⟩] }
def qc (c:Cx) (s:St):St:={ s with sn:=s.sn ++ [⟨6,c.ci,⟨#[]⟩⟩] }
def qd (t:ByteArray) (s:St):St:={ s with e:=fi s.e,sn:=s.sn ++ [⟨7,(s.e.id+1) % 256,t⟩] }
def fj (c:Cx) (s:St):St:=if c.cc=9∧4≤c.cd.size then { s with sn:=s.sn ++ [⟨10,c.ci,cK s.e.g2.toNat ++ c.cd.extract 4 c.cd.size⟩] } else s
def jm (c:Cx):ByteArray:=d8 (rE ⟨c.cc,c.ci,c.cd⟩)
def bv (c:Cx) (t:ByteArray) (s:St):St :=
 if t=mO then pU s else if t=pT then pV s else if t=mP then lG c s else if t=mQ then lH c s else if t=pY then p_ c s else if t=pZ then fy c s
 else if t=p5 then qc c s else if t=p6 then qd (jm c) s else if t=p7 then fj c s else if t=dz then pX s else if t=bL then pW s else say t s
def dH (t:ByteArray):Bool:=decide (t.toList=[105,114,99]) || decide (t.toList=[122,114,99])
def fm (c:Cx) (A:List ByteArray) (st:Int) (e:En):En :=
 { e with st:=st,du:=if gj st=true then (if (decide (e.du<0) || A.any dH)=true then c.now+3 else e.du) else -1 }
structure EO where
 e:En
 F1:List Op.Opt
 F2:List Op.Opt
 sn:List Op.Pk
 tl:List ByteArray
 cd:Int
def bA (cd:Int):EO:=⟨ag,[],[],[],[],cd⟩
def bj (c:Cx) (s:St) (t:ByteArray):EO :=
 if (bO s.e.st t).2.2=0 then
  ⟨fm c (bO s.e.st t).2.1 (bO s.e.st t).1 ((bO s.e.st t).2.1.foldl (fun s a=>bv c a s) s).e,((bO s.e.st t).2.1.foldl (fun s a=>bv c a s) s).F1,((bO s.e.st t).2.1.foldl (fun s a=>bv c a s) s).F2,((bO s.e.st t).2.1.foldl (fun s a=>bv c a s) s).sn,((bO s.e.st t).2.1.foldl (fun s a=>bv c a s) s).tl,0⟩
 else bA (bO s.e.st t).2.2
def EvA (w0:World) (o:EO) (r:Ending) (q:World):Prop :=
 ∃ v1 v2 vs vt,r=.returned (.agg (aC o.e v1 v2 vs vt o.cd))∧q.ownsRow w0.heap.size 105 2 v1 o.F1.length (aj o.F1)∧q.ownsRow w0.heap.size 105 2 v2 o.F2.length (aj o.F2)∧q.ownsRow w0.heap.size 85 3 vs o.sn.length (ae o.sn)∧q.ownsRow w0.heap.size 9 1 vt o.tl.length (a_ o.tl)∧Ap v1 v2∧Below w0.heap.size w0 q
structure Fit (n:Nat) (c:Cx) (s:St):Prop where
 cf:aK s.e.m1 s.e.a1 s.e.g1=true
 ask:aK s.e.m2 s.e.a2 s.e.g2=true
 id:0≤s.e.id∧s.e.id≤255
 tr:0≤s.e.tr∧s.e.tr≤5
 fl:0≤s.e.fl∧s.e.fl≤3
 now:0≤c.now∧c.now≤1000000000
 f1:cC s.F1=true
 f2:cC s.F2=true
 sn:s.sn.length≤n
 tl:s.tl.length≤n
 hd:cC c.hd=true
 ao:cC c.ao=true
 cd:c.cd.size≤250
 du:-1≤s.e.du
theorem aT {F:List Op.Opt} (h:cC F=true):Op.right F=true:=by unfold cC at h;rw [Bool.and_eq_true] at h;exact h.1
theorem jn (e:En):0≤(fi e).id∧(fi e).id≤255:=by unfold fi;dsimp only;omega
theorem lI {m a g:Nat} {p c d:Bool} {o:Op.Opt} (h:o ∈ bp m a g p c d 6):Op.ok o=true∧o.data.size≤4:=by
 unfold bp at h;obtain ⟨x,hx,ho⟩:=List.mem_flatten.1 h;have hx':=List.mem_of_mem_take hx;have key:∀ (b:Bool) (k:Int) (t:ByteArray),(1≤k∧k≤255∧t.size≤4)→o ∈ c_ b k t→Op.ok o=true∧o.data.size≤4:=by
  intro b k t hk hm;cases b
  ·simp [c_] at hm
  ·simp [c_] at hm;subst hm;exact ⟨decide_eq_true ⟨hk.1,hk.2.1,by show t.size≤20;omega⟩,hk.2.2⟩
 simp only [eZ,List.mem_cons,List.not_mem_nil,or_false] at hx';rcases hx' with rfl | rfl | rfl | rfl | rfl | rfl
 ·exact key _ _ _ ⟨by decide,by decide,by show 2≤4;decide⟩ ho
 ·exact key _ _ _ ⟨by decide,by decide,by show 4≤4;decide⟩ ho
 ·exact key _ _ _ ⟨by decide,by decide,by show 4≤4;decide⟩ ho
 ·exact key _ _ _ ⟨by decide,by decide,by show 0≤4;decide⟩ ho
 ·exact key _ _ _ ⟨by decide,by decide,by show 0≤4;decide⟩ ho
 ·exact key _ _ _ ⟨by decide,by decide,by show 1≤4;decide⟩ ho
theorem oH (F:List Op.Opt) (h:∀ o ∈ F,o.data.size≤4):(Op.bytes F).length≤6*F.length:=by
 induction F with
 | nil=>simp [Op.bytes]
 | cons o F ih =>
  have h1:=ih fun x hx=>h x (by simp [hx])
  have h2:=h o (by simp);have e:Op.bytes (o :: F)=Op.one o ++ Op.bytes F:=rfl;have e1:(Op.one o).length=2+o.data.size:=by unfold Op.one;rw [List.length_append];show 2+o.data.data.toList.length=_;rfl
  rw [e,List.length_append,e1,List.length_cons];omega
theorem jo (e:En):cC (dv e)=true:=by
 have h1:(dv e).length≤6:=dp _ _ _ _ _ _ _;have h2:=oH (dv e) fun o ho=>(lI ho).2
 unfold cC Op.right;rw [Bool.and_eq_true,Bool.and_eq_true];exact ⟨⟨decide_eq_true (by omega),List.all_eq_true.2 fun o ho=>(lI ho).1⟩,decide_eq_true (by omega)⟩
theorem g_ {m a g:Int} (h:aK m a g=true):((m.toNat:Nat):Int)=m∧((a.toNat:Nat):Int)=a∧((g.toNat:Nat):Int)=g:=by
 simp only [aK,al,Bool.and_eq_true,decide_eq_true_eq] at h;omega
theorem oI (e:En):(dv e).length≤6:=dp _ _ _ _ _ _ _
theorem Fit.irc {n:Nat} {c:Cx} {s:St} (h:Fit n c s):Fit (n+1) c (pU s):=⟨h.cf,h.ask,h.id,⟨show (0:Int)≤5 by decide,show (5:Int)≤5 by decide⟩,h.fl,h.now,h.f1,h.f2,Nat.le_succ_of_le h.sn,Nat.le_succ_of_le h.tl,h.hd,h.ao,h.cd,h.du⟩
theorem Fit.zrc {n:Nat} {c:Cx} {s:St} (h:Fit n c s):Fit (n+1) c (pV s):=⟨h.cf,h.ask,h.id,⟨show (0:Int)≤0 by decide,show (0:Int)≤5 by decide⟩,h.fl,h.now,h.f1,h.f2,Nat.le_succ_of_le h.sn,Nat.le_succ_of_le h.tl,h.hd,h.ao,h.cd,h.du⟩
theorem nK {now:Int} {e:En} (h:0≤e.tr∧e.tr≤5):0≤(kq now e).tr∧(kq now e).tr≤5:=by unfold kq;dsimp only;omega
theorem Fit.scr {n:Nat} {c:Cx} {s:St} (h:Fit n c s):Fit (n+1) c (lG c s) :=
 ⟨h.cf,h.ask,jn _,nK h.tr,h.fl,h.now,jo _,h.f2,by have:=h.sn;simp [lG];omega,Nat.le_succ_of_le h.tl,h.hd,h.ao,h.cd,by have:=h.now;show -1≤c.now+3;omega⟩
theorem Fit.str {n:Nat} {c:Cx} {s:St} (h:Fit n c s):Fit (n+1) c (lH c s) :=
 ⟨h.cf,h.ask,jn _,nK h.tr,h.fl,h.now,h.f1,h.f2,by have:=h.sn;simp [lH];omega,Nat.le_succ_of_le h.tl,h.hd,h.ao,h.cd,by have:=h.now;show -1≤c.now+3;omega⟩
theorem Fit.say {n:Nat} {c:Cx} {s:St} (h:Fit n c s) (t:ByteArray):Fit (n+1) c (say t s) :=
 ⟨h.cf,h.ask,h.id,h.tr,h.fl,h.now,h.f1,h.f2,Nat.le_succ_of_le h.sn,by have:=h.tl;simp [Go.Proofs.YtjdgiimfpkideaaGreatDoor.say];omega,h.hd,h.ao,h.cd,h.du⟩
theorem Fit.tld {n:Nat} {c:Cx} {s:St} (h:Fit n c s):Fit (n+1) c (pW s) :=
 Fit.say (s:={ s with e:=gD s.e }) ⟨h.cf,h.ask,h.id,h.tr,h.fl,h.now,h.f1,h.f2,h.sn,h.tl,h.hd,h.ao,h.cd,h.du⟩ _
theorem Fit.tlu {n:Nat} {c:Cx} {s:St} (h:Fit n c s):Fit (n+1) c (pX s) :=
 Fit.say (s:={ s with e:=sF (bc s.F1) (bc s.F2) s.e }) ⟨h.cf,h.ask,h.id,h.tr,h.fl,h.now,h.f1,h.f2,h.sn,h.tl,h.hd,h.ao,h.cd,h.du⟩ _
theorem Fit.put {n:Nat} {c:Cx} {s:St} (h:Fit n c s) (p:Op.Pk):Fit (n+1) c { s with sn:=s.sn ++ [p] } :=
 ⟨h.cf,h.ask,h.id,h.tr,h.fl,h.now,h.f1,h.f2,by have:=h.sn;simp;omega,Nat.le_succ_of_le h.tl,h.hd,h.ao,h.cd,h.du⟩
theorem Fit.up {n:Nat} {c:Cx} {s:St} (h:Fit n c s):Fit (n+1) c s :=
 ⟨h.cf,h.ask,h.id,h.tr,h.fl,h.now,h.f1,h.f2,Nat.le_succ_of_le h.sn,Nat.le_succ_of_le h.tl,h.hd,h.ao,h.cd,h.du⟩
theorem Fit.act {n:Nat} {c:Cx} {s:St} (h:Fit n c s) (t:ByteArray):Fit (n+1) c (bv c t s):=by
 unfold bv;split
 ·exact h.irc
 split
 ·exact h.zrc
 split
 ·exact h.scr
 split
 ·exact h.str
 split
 ·exact Fit.put (s:={ s with e:={ s.e with fl:=0 },F2:=c.hd }) ⟨h.cf,h.ask,h.id,h.tr,⟨show (0:Int)≤0 by decide,show (0:Int)≤3 by decide⟩,h.now,h.f1,h.hd,h.sn,h.tl,h.hd,h.ao,h.cd,h.du⟩ _
 split
 ·refine Fit.put (s:={ s with e:={ s.e with fl:=if c.ac=3 then min 3 (s.e.fl+1) else s.e.fl } }) ⟨h.cf,h.ask,h.id,h.tr,?_,h.now,h.f1,h.f2,h.sn,h.tl,h.hd,h.ao,h.cd,h.du⟩ _;have:=h.fl
  dsimp only;split<;>omega
 split
 ·exact h.put _
 split
 ·exact Fit.put (s:={ s with e:=fi s.e }) ⟨h.cf,h.ask,jn _,h.tr,h.fl,h.now,h.f1,h.f2,h.sn,h.tl,h.hd,h.ao,h.cd,h.du⟩ _
 split
 ·unfold fj;split
  ·exact h.put _
  ·exact h.up
 split
 ·exact h.tlu
 split
 ·exact h.tld
 ·exact h.say _
theorem Fit.fold {c:Cx} {s:St} (h:Fit 0 c s) (A:List ByteArray) (i:Nat):Fit i c ((A.take i).foldl (fun s a=>bv c a s) s):=by
 induction i with
 | zero=>exact h
 | succ i ih =>
  by_cases hi:i<A.length
  ·rw [List.take_succ_eq_append_getElem hi,List.foldl_append];exact ih.act _
  ·have e:A.take (i+1)=A.take i:=by rw [List.take_of_length_le (by omega),List.take_of_length_le (by omega)]
   rw [e];exact ih.up
end Go.Proofs.YtjdgiimfpkideaaGreatDoor
namespace Go.Proofs.YtjdgiimfpkideaaGreatDoor
open Go.RowKit Go.Proofs.Tryz
theorem ttI:Tt 129:=⟨by decide,by decide,by decide⟩
section
variable {w0 w1:World} {B:Nat} {c:Cx} {s:St} {v1 v2 vs vt:Value} {q:World}
theorem nL (h:Lay 129 w0 w1 B c s v1 v2 vs vt q) (hid:0≤s.e.id∧s.e.id≤255) :
    Calls prog 246 #[.pointer (some ⟨B,0,none⟩)] q fun r q'=>r=.returned (.int .i64 ((s.e.id+1) % 256))∧Lay 129 w0 w1 B c { s with e:=fi s.e } v1 v2 vs vt q':=by
  have c15:=h.cell (i:=15) rfl;have f15:=h.frz 15;obtain ⟨h1,h2⟩:=hid;have h':=h.setRaw 15 (.int .i64 ((s.e.id+1) % 256)) (fi s.e) rfl;have d15:=h'.cell (i:=15) rfl;dsimp only [fi] at d15;have hm:(s.e.id+1).tmod 256=(s.e.id+1) % 256:=Int.tmod_eq_emod_of_nonneg (by omega);have HL:=aa h';clear h h';go_enter func246,ntmps246
  go_wp2
  go_ret
  exact ⟨rfl,uh HL⟩
theorem wE (h:Lay 129 w0 w1 B c s v1 v2 vs vt q) (htr:0≤s.e.tr∧s.e.tr≤5) (hn:0≤c.now∧c.now≤1000000000) :
    Calls prog 247 #[.pointer (some ⟨B,0,none⟩)] q fun r q'=>r=.returned (.tuple #[])∧Lay 129 w0 w1 B c { s with e:=kq c.now s.e } v1 v2 vs vt q':=by
  have c13:=h.cell (i:=13) rfl;have f13:=h.frz 13;obtain ⟨h1,h2⟩:=htr;obtain ⟨h3,h4⟩:=hn;have h':=h.setRaw 13 (.int .i64 (max 0 (s.e.tr - 1))) { s.e with tr:=max 0 (s.e.tr - 1) } rfl;have c14:=h'.cell (i:=14) rfl;have f14:=h'.frz 14;have c30:=h'.cell (i:=30) rfl;have h'':=h'.setRaw 14 (.int .i64 (c.now+3)) (kq c.now s.e) rfl;have HL:=aa h'';clear h h' h'';dsimp only at c14 c30;go_enter func247,ntmps247
  go_wp2
  exact Great.bodyPost_end0 rfl rfl ⟨rfl,uh HL⟩
theorem gF (h:Lay 129 w0 w1 B c s v1 v2 vs vt q) (hS:s.sn.length≤1000) (cd id:Int) (dt:ByteArray) :
    Calls prog 245 #[.pointer (some ⟨B,0,none⟩),.int .i64 cd,.int .i64 id,.string dt] q fun r q'=>r=.returned (.tuple #[])∧∃ vs',Lay 129 w0 w1 B c (gE s cd id dt) v1 v2 vs' vt q':=by
  have c0:=h.cell (i:=37) rfl;obtain ⟨ad,cp,rfl⟩:=af h.os;obtain ⟨n,hn⟩:∃ n,s.sn.length=n:=⟨_,rfl⟩;have ho:=h.os;rw [hn] at c0 ho hS h;have HO:=aa ho;have HL:=aa h;clear h ho;go_enter func245,ntmps245
  go_wp2_with (first
    | (at_builtin;refine jL rfl _ _ rfl w1.heap.size (.slice ad n cp) s.sn n hn rfl (uh HO) cd id dt rfl hS (uh HL).nr.size ?_;rintro v6 w6 ho6 hg6;obtain ⟨a6,c6,rfl⟩:=af ho6
       have e6:=(hg6.block B (Nat.lt_of_lt_of_le (uh HL).lt (by simp)) (fun e=>(aq (uh HL).os (uh HL).row (uh HL).tt.2.1) e.symm)).trans ((zG _ _ _ (uh HL).lt).trans (uh HL).row);have k6:w6.cell? ⟨B,37,none⟩=some (.slice ad n cp):=by rw [cr e6];rfl
       have f6:w6.frozen? ⟨B,37,none⟩=false:=aX e6 37;clear e6))
  refine Great.bodyPost_end0 rfl rfl ⟨rfl,_,(uh HL).put _ hg6 _ _ ?_⟩;rw [List.length_append,hn];exact ho6
theorem wF (h:Lay 129 w0 w1 B c s v1 v2 vs vt q) :
    Calls prog 239 #[.pointer (some ⟨B,0,none⟩)] q fun r q'=>r=.returned (.tuple #[])∧Lay 129 w0 w1 B c { s with e:=gD s.e } v1 v2 vs vt q':=by
  have c19:=h.cell (i:=19) rfl;have f19:=h.frz 19;have h19:=h.setRaw 19 (.bool false) { s.e with up:=false } rfl;have c20:=h19.cell (i:=20) rfl;have f20:=h19.frz 20;have h20:=h19.setRaw 20 (.int .i64 0) { s.e with up:=false,i1:=0 } rfl;have c21:=h20.cell (i:=21) rfl;have f21:=h20.frz 21;have h21:=h20.setRaw 21 (.int .i64 0) { s.e with up:=false,i1:=0,i2:=0 } rfl;have c22:=h21.cell (i:=22) rfl;have f22:=h21.frz 22;have h22:=h21.setRaw 22 (.bool false) { s.e with up:=false,i1:=0,i2:=0,i3:=false } rfl;have c23:=h22.cell (i:=23) rfl;have f23:=h22.frz 23;have h23:=h22.setRaw 23 (.bool false) { s.e with up:=false,i1:=0,i2:=0,i3:=false,i4:=false } rfl;have c24:=h23.cell (i:=24) rfl;have f24:=h23.frz 24;have h24:=h23.setRaw 24 (.bool false) { s.e with up:=false,i1:=0,i2:=0,i3:=false,i4:=false,i5:=false } rfl;have c25:=h24.cell (i:=25) rfl;have f25:=h24.frz 25;have h25:=h24.setRaw 25 (.int .i64 0) { s.e with up:=false,i1:=0,i2:=0,i3:=false,i4:=false,i5:=false,o1:=0 } rfl;have c26:=h25.cell (i:=26) rfl;have f26:=h25.frz 26;have h26:=h25.setRaw 26 (.int .i64 0) { s.e with up:=false,i1:=0,i2:=0,i3:=false,i4:=false,i5:=false,o1:=0,o2:=0 } rfl;have c27:=h26.cell (i:=27) rfl;have f27:=h26.frz 27;have h27:=h26.setRaw 27 (.bool false) { s.e with up:=false,i1:=0,i2:=0,i3:=false,i4:=false,i5:=false,o1:=0,o2:=0,o3:=false } rfl;have c28:=h27.cell (i:=28) rfl;have f28:=h27.frz 28;have h28:=h27.setRaw 28 (.bool false) { s.e with up:=false,i1:=0,i2:=0,i3:=false,i4:=false,i5:=false,o1:=0,o2:=0,o3:=false,o4:=false } rfl;have c29:=h28.cell (i:=29) rfl;have f29:=h28.frz 29;have h29:=h28.setRaw 29 (.bool false) (gD s.e) rfl;have HL:=aa h29;clear h h19 h20 h21 h22 h23 h24 h25 h26 h27 h28 h29;dsimp only at c20 c21 c22 c23 c24 c25 c26 c27 c28 c29;go_enter func239,ntmps239
  go_wp2
  exact Great.bodyPost_end0 rfl rfl ⟨rfl,uh HL⟩
theorem uS (h:Lay 129 w0 w1 B c s v1 v2 vs vt q) (n:Int) :
    Calls prog 240 #[.agg #[.int .i64 n],.pointer (some ⟨B,0,none⟩)] q fun r q'=>r=.returned (.tuple #[])∧Lay 129 w0 w1 B c { s with e:={ s.e with tr:=n } } v1 v2 vs vt q':=by
  have hb:Below q.heap.size q (q.alloc (.cells #[.int .i64 n] 159)):=(zC _ _).alloc (zD _) _;have h0:=h.step hb;have c13:=h0.cell (i:=13) rfl;have f13:=h0.frz 13;have HL:=aa (h0.setRaw 13 (.int .i64 n) { s.e with tr:=n } rfl);clear h h0 hb;go_enter func240,ntmps240
  go_wp2
  exact Great.bodyPost_end0 rfl rfl ⟨rfl,uh HL⟩
theorem wG {n:Nat} (h:Lay 129 w0 w1 B c s v1 v2 vs vt q) (hf:Fit n c s) (hn:n≤1000) :
    Calls prog 248 #[.agg #[],.pointer (some ⟨B,0,none⟩)] q fun r q'=>r=.returned (.tuple #[])∧∃ vs',Lay 129 w0 w1 B c (lH c s) v1 v2 vs' vt q':=by
  have hb:Below q.heap.size q (q.alloc (.cells #[] 173)):=(zC _ _).alloc (zD _) _;have HL:=aa (h.step hb);have HF:=aa hf;clear h hb hf;go_enter func248,ntmps248
  go_wp2_with fail
  refine (nL (uh HL) (uh HF).id).mono ?_;rintro r q1 ⟨rfl,h1⟩;have HL1:=aa h1;clear h1;go_wp2_with fail
  refine (gF (uh HL1) (zE (uh HF).sn hn) 5 _ _).mono ?_;rintro r q2 ⟨rfl,vs2,h2⟩;have HL2:=aa h2;clear h2;go_wp2_with fail
  refine (wE (uh HL2) (uh HF).tr (uh HF).now).mono ?_;rintro r q3 ⟨rfl,h3⟩;go_wp2
  exact Great.bodyPost_end0 rfl rfl ⟨rfl,_,h3⟩
theorem wH {n:Nat} (h:Lay 129 w0 w1 B c s v1 v2 vs vt q) (hf:Fit n c s) (hn:n≤1000) :
    Calls prog 243 #[.agg #[],.pointer (some ⟨B,0,none⟩)] q fun r q'=>r=.returned (.tuple #[])∧∃ v1' vs',Lay 129 w0 w1 B c (lG c s) v1' v2 vs' vt q':=by
  have HF:=aa hf;obtain ⟨e1,e2,e3⟩:=g_ hf.ask;have CA:=aa fun W=>mM s.e.m2.toNat s.e.a2.toNat s.e.g2.toNat s.e.p2 s.e.c2 s.e.d2 W (by rw [e1,e2,e3];exact hf.ask)
  rw [e1,e2,e3] at CA;clear e1 e2 e3;have hb:Below q.heap.size q (q.alloc (.cells #[] 172)):=(zC _ _).alloc (zD _) _;have h0:=h.step hb;have c6:=h0.cell (i:=6) rfl;have c7:=h0.cell (i:=7) rfl;have c8:=h0.cell (i:=8) rfl;have c9:=h0.cell (i:=9) rfl;have c10:=h0.cell (i:=10) rfl;have c11:=h0.cell (i:=11) rfl;have HL:=aa h0;clear h h0 hb hf;go_enter func243,ntmps243
  go_wp2_with fail
  refine (uh CA _).mono ?_;rintro r q1 ⟨ad,cp,rfl,ho,hb⟩;have h1:=(uh HL).step hb;have c17:=h1.cell (i:=17) rfl;have f17:=h1.frz 17;have HL1:=aa ((uh HL).new1 hb _ (dv s.e) ho);clear h1 ho hb HL CA c6 c7 c8 c9 c10 c11;go_upto_region 2 with fail
  refine ab (fun z=>Lay 129 w0 w1 B c { s with F1:=dv s.e } (.slice ad (dv s.e).length cp) v2 vs vt z) ?_ ?_
  · exact uh HL1
  clear HL1 c17 f17;rintro z hz;have c17:=hz.cell (i:=17) rfl;have HZ:=aa (hz.step (zC _ _).drew);clear hz;refine wp_region_held_drew (S:=fun z=>z.cell? ⟨B,17,none⟩=some (.slice ad (dv s.e).length cp)) (by kernel_rfl) ?_ (fun hHeld=>?_)
  · exact c17
  refine tq 0 1 2 3 ?_;refine tq 5 6 7 8 ?_;refine t2 9 ?_;refine r3 4 fun K hK=>?_
  go_simp;refine (nL (uh HZ) (uh HF).id).mono ?_;rintro r z1 ⟨rfl,h1⟩;have HZ1:=aa h1;clear h1;go_wp2_with fail
  refine ro hK ?_ fun _=>?_
  · exact (uh HZ1).cell (i:=17) rfl
  clear hK K;refine r3 10 fun K hK=>?_
  go_simp;refine (cP _ (dv s.e) _ (by have:=oI s.e;unfold maxLen;omega) (HoldsO.own (uh HZ1).o1)).mono ?_;rintro r z2 ⟨rfl,hb2⟩;have HZ2:=aa ((uh HZ1).step hb2);clear hb2;go_wp2_with fail
  refine ro hK ?_ fun _=>?_
  · exact (uh HZ2).cell (i:=17) rfl
  clear hK K;refine r3 11 fun K hK=>?_
  go_simp;refine (gF (uh HZ2) (zE (uh HF).sn hn) 1 _ _).mono ?_;rintro r z3 ⟨rfl,vs3,h3⟩;have HP:=aa h3;clear h3;go_wp2_with fail
  refine ro hK ?_ fun _=>?_
  · exact (uh HP).cell (i:=17) rfl
  clear hK K;refine dn ?_ _;go_wp2_with fail
  refine (wE (uh HP) (uh HF).tr (uh HF).now).mono ?_;rintro r q9 ⟨rfl,h9⟩;go_wp2
  have e9:rD (dv s.e)=co (Op.bytes (dv s.e)):=fI (aT (jo s.e));rw [e9] at h9;exact Great.bodyPost_end0 rfl rfl ⟨rfl,_,_,h9⟩
end
end Go.Proofs.YtjdgiimfpkideaaGreatDoor
namespace Go.Proofs.YtjdgiimfpkideaaGreatDoor
open Go.RowKit Go.Proofs.Tryz
theorem qq {w:World} {base base':Nat} {e:TypeId} {size:Nat} {v:Value} {n:Nat} {xs:List Value} (h:w.ownsRow base e size v n xs) (hb:base'≤base):w.ownsRow base' e size v n xs :=
 ⟨h.1,h.2.imp id fun ⟨g,cap,cur,h1,h2,h3⟩=>⟨g,cap,cur,h1,zE hb h2,h3⟩⟩
structure Ra (w W:World) (M Pb E:Nat) (ks zs:Array Value):Prop where
 hm:W.heap[M]?=some (.map cW 4)
 hp:W.heap[Pb]?=some (.cells ks 248)
 he:W.heap[E]?=some (.cells zs 219)
 below:Below w.heap.size w W
theorem Ra.off {w W W':World} {M Pb E N R:Nat} {ks zs:Array Value} (h:Ra w W M Pb E ks zs) (ho:Off N R W W') (h1:M<N) (h2:Pb<N) (h3:E<N) (n1:M≠R) (n2:Pb≠R) (n3:E≠R) (hw:w.heap.size≤N) (hr:w.heap.size≤R):Ra w W' M Pb E ks zs :=
 ⟨(ho.block M h1 n1).trans h.hm,(ho.block Pb h2 n2).trans h.hp,(ho.block E h3 n3).trans h.he,h.below.trans (ho.below hw hr)⟩
theorem dA {w:World} {Pb:Nat} {ks:Array Value} {T:TypeId} (h:w.heap[Pb]?=some (.cells ks T)) (i:Nat) (x:Value) (hx:ks[i]?=some x):w.cell? ⟨Pb,i,none⟩=some x:=by
 rw [cr h];exact hx
theorem m8 (w:World) (a b c d:Obj):((((w.alloc a).alloc b).alloc c).alloc d).heap.size=w.heap.size+1+1+1+1∧((((w.alloc a).alloc b).alloc c).alloc d).heap[w.heap.size]?=some a∧((((w.alloc a).alloc b).alloc c).alloc d).heap[w.heap.size+1]?=some b ∧
  ((((w.alloc a).alloc b).alloc c).alloc d).heap[w.heap.size+1+1]?=some c∧((((w.alloc a).alloc b).alloc c).alloc d).heap[w.heap.size+1+1+1]?=some d∧Below w.heap.size w ((((w.alloc a).alloc b).alloc c).alloc d):=by
 have s1:(w.alloc a).heap.size=w.heap.size+1:=by simp
 have s2:((w.alloc a).alloc b).heap.size=w.heap.size+1+1:=by simp
 have s3:(((w.alloc a).alloc b).alloc c).heap.size=w.heap.size+1+1+1:=by simp
 have e1:=zF w a;have e2:=zF (w.alloc a) b;have e3:=zF ((w.alloc a).alloc b) c;have e4:=zF (((w.alloc a).alloc b).alloc c) d;rw [s1] at e2;rw [s2] at e3;rw [s3] at e4;refine ⟨by simp,?_,?_,?_,e4,((((zC _ _).alloc (zD _) _).alloc (by omega) _).alloc (by omega) _).alloc (by omega) _⟩
 ·rw [zG _ _ _ (by omega),zG _ _ _ (by omega),zG _ _ _ (by omega)];exact e1
 ·rw [zG _ _ _ (by omega),zG _ _ _ (by omega)];exact e2
 ·rw [zG _ _ _ (by omega)];exact e3
theorem qr {w:World} {B:Nat} {x0 x1 x2 x3:Value} {T:TypeId} (h:w.heap[B]?=some (.cells #[x0,x1,x2,x3] T)) :
  w.cell? ⟨B,0,none⟩=some x0∧w.cell? ⟨B,1,none⟩=some x1∧w.cell? ⟨B,2,none⟩=some x2∧w.cell? ⟨B,3,none⟩=some x3 :=
 ⟨by rw [cr h];rfl,by rw [cr h];rfl,by rw [cr h];rfl,by rw [cr h];rfl⟩
def dc:Array Value:=#[.slice none 0 0,.int .i64 0,.int .i64 0,.int .i64 0,.slice none 0 0,.slice none 0 0,.int .i64 0,.string ⟨#[]⟩]
def lO (W:World) (E:Nat) (x0 x1 x2 x3 x4 x5 x6 x7:Value):World :=
 (((((((W.setCell ⟨E,0,none⟩ x0).setCell ⟨E,1,none⟩ x1).setCell ⟨E,2,none⟩ x2).setCell ⟨E,3,none⟩ x3).setCell ⟨E,4,none⟩ x4).setCell ⟨E,5,none⟩ x5).setCell ⟨E,6,none⟩ x6).setCell ⟨E,7,none⟩ x7
theorem xq:(prog.info? 219).map (·.size)=some 8:=by kernel_rfl
theorem ie {W:World} {E:Nat} {z0 z1 z2 z3 z4 z5 z6 z7:Value} (h:W.heap[E]?=some (.cells #[z0,z1,z2,z3,z4,z5,z6,z7] 219)) (x0 x1 x2 x3 x4 x5 x6 x7:Value) :
  (loadVar 219 ⟨E,0,none⟩).run prog (lO W E x0 x1 x2 x3 x4 x5 x6 x7)=.ok (.agg #[x0,x1,x2,x3,x4,x5,x6,x7]) (lO W E x0 x1 x2 x3 x4 x5 x6 x7):=by
 have h0:(W.setCell ⟨E,0,none⟩ x0).heap[E]?=some (.cells #[x0,z1,z2,z3,z4,z5,z6,z7] 219):=by rw [zH _ _ 0 _ _ _ h];rfl
 have h1:((W.setCell ⟨E,0,none⟩ x0).setCell ⟨E,1,none⟩ x1).heap[E]?=some (.cells #[x0,x1,z2,z3,z4,z5,z6,z7] 219):=by rw [zH _ _ 1 _ _ _ h0];rfl
 have h2:(((W.setCell ⟨E,0,none⟩ x0).setCell ⟨E,1,none⟩ x1).setCell ⟨E,2,none⟩ x2).heap[E]?=some (.cells #[x0,x1,x2,z3,z4,z5,z6,z7] 219):=by rw [zH _ _ 2 _ _ _ h1];rfl
 have h3:((((W.setCell ⟨E,0,none⟩ x0).setCell ⟨E,1,none⟩ x1).setCell ⟨E,2,none⟩ x2).setCell ⟨E,3,none⟩ x3).heap[E]?=some (.cells #[x0,x1,x2,x3,z4,z5,z6,z7] 219):=by rw [zH _ _ 3 _ _ _ h2];rfl
 have h4:(((((W.setCell ⟨E,0,none⟩ x0).setCell ⟨E,1,none⟩ x1).setCell ⟨E,2,none⟩ x2).setCell ⟨E,3,none⟩ x3).setCell ⟨E,4,none⟩ x4).heap[E]?=some (.cells #[x0,x1,x2,x3,x4,z5,z6,z7] 219):=by rw [zH _ _ 4 _ _ _ h3];rfl
 have h5:((((((W.setCell ⟨E,0,none⟩ x0).setCell ⟨E,1,none⟩ x1).setCell ⟨E,2,none⟩ x2).setCell ⟨E,3,none⟩ x3).setCell ⟨E,4,none⟩ x4).setCell ⟨E,5,none⟩ x5).heap[E]?=some (.cells #[x0,x1,x2,x3,x4,x5,z6,z7] 219):=by rw [zH _ _ 5 _ _ _ h4];rfl
 have h6:(((((((W.setCell ⟨E,0,none⟩ x0).setCell ⟨E,1,none⟩ x1).setCell ⟨E,2,none⟩ x2).setCell ⟨E,3,none⟩ x3).setCell ⟨E,4,none⟩ x4).setCell ⟨E,5,none⟩ x5).setCell ⟨E,6,none⟩ x6).heap[E]?=some (.cells #[x0,x1,x2,x3,x4,x5,x6,z7] 219):=by rw [zH _ _ 6 _ _ _ h5];rfl
 have h7:((((((((W.setCell ⟨E,0,none⟩ x0).setCell ⟨E,1,none⟩ x1).setCell ⟨E,2,none⟩ x2).setCell ⟨E,3,none⟩ x3).setCell ⟨E,4,none⟩ x4).setCell ⟨E,5,none⟩ x5).setCell ⟨E,6,none⟩ x6).setCell ⟨E,7,none⟩ x7).heap[E]?=some (.cells #[x0,x1,x2,x3,x4,x5,x6,x7] 219):=by rw [zH _ _ 7 _ _ _ h6];rfl
 exact run_loadVar_row (P:=prog) _ _ 219 219 #[x0,x1,x2,x3,x4,x5,x6,x7] (0,0) _ h7 underlying219 rfl xq
theorem ju (W:World) (E:Nat) (x0 x1 x2 x3 x4 x5 x6 x7:Value) (g:Nat) (hg:g≠E):(lO W E x0 x1 x2 x3 x4 x5 x6 x7).heap[g]?=W.heap[g]?:=by
 unfold lO;rw [Below.heap_setCell _ _ _ g hg,Below.heap_setCell _ _ _ g hg,Below.heap_setCell _ _ _ g hg,Below.heap_setCell _ _ _ g hg,Below.heap_setCell _ _ _ g hg,Below.heap_setCell _ _ _ g hg,Below.heap_setCell _ _ _ g hg,Below.heap_setCell _ _ _ g hg]
theorem go {n:Nat} {w W:World} {E:Nat} (h:Below n w W) (hE:n≤E) (x0 x1 x2 x3 x4 x5 x6 x7:Value):Below n w (lO W E x0 x1 x2 x3 x4 x5 x6 x7) :=
 (((((((h.setCell (p:=⟨E,0,none⟩) hE _).setCell (p:=⟨E,1,none⟩) hE _).setCell (p:=⟨E,2,none⟩) hE _).setCell (p:=⟨E,3,none⟩) hE _).setCell (p:=⟨E,4,none⟩) hE _).setCell (p:=⟨E,5,none⟩) hE _).setCell (p:=⟨E,6,none⟩) hE _).setCell (p:=⟨E,7,none⟩) hE _
def uY (w w':World) (Pb B:Nat) (k:UInt8) (t:ByteArray) (l:List UInt8) (e:Ending):Prop :=
 ∃ off cap sa sc x,e=.returned (.tuple #[.agg #[.slice (some ⟨Pb,0,none⟩) 3 3,.int .i64 2,.int .i64 20,.int .i64 3,.slice (some ⟨B,off,none⟩) l.length cap,.slice sa 1 sc,.int .i64 x,.string t],.nilIface])∧Rest w' B (.slice (some ⟨B,off,none⟩) l.length cap) l∧w'.ownsRow w.heap.size 2 1 (.slice sa 1 sc) 1 [.int .i64 k.toNat]∧Below w.heap.size w w'
theorem qs (w:World) (Pb B:Nat) (v:Value) (k n:UInt8) (r:List UInt8) (hP:w.heap[Pb]?=some (.cells #[.int .i64 0,.int .i64 1,.int .i64 3] 248)) (hB:B<w.heap.size) (hv:Rest w B v (k :: n :: r)) (hg:oL 2 20 n.toNat r=false) :
  Calls prog 161 #[.agg #[.slice (some ⟨Pb,0,none⟩) 3 3,.int .i64 2,.int .i64 20,.int .i64 3],v] w fun e w'=>uY w w' Pb B k (co (r.take (n.toNat - 2))) (r.drop (n.toNat - 2)) e:=by
 have hPw:Pb<w.heap.size:=(ge.1 hP).1;obtain ⟨off,cap,hvf,hcap,hl⟩:=hv;subst hvf;have HL:=aa hl;have HP:=aa hP;have HC:=aa hcap;clear hl hP hcap;go_enter func161,ntmps161
 go_wp2_with fail
 refine (fC _).mono ?_;rintro e w1 ⟨rfl,hw1⟩
 obtain ⟨hs,q0,q1,q2,q3,hb1⟩:=m8 w (.cells #[.slice (some ⟨Pb,0,none⟩) 3 3,.int .i64 2,.int .i64 20,.int .i64 3] 217) (.cells dc 219)
  (.cells #[.slice (some ⟨Pb,0,none⟩) 3 3,.int .i64 2,.int .i64 20,.int .i64 3,.slice (some ⟨B,off,none⟩) (r.length+1+1) cap,.slice none 0 0,.int .i64 0,.string ⟨#[]⟩] 219) (.map cW 4)
 unfold dc at hs q0 q1 q2 q3 hb1;rw [← hw1] at hs q0 q1 q2 q3 hb1;have hra:Ra w w1 (w.heap.size+1+1+1) Pb (w.heap.size+1) #[.int .i64 0,.int .i64 1,.int .i64 3] dc:=⟨q3,(hb1.block Pb hPw).trans (uh HP),q1,hb1⟩;have hrd:Rdg w1 (w.heap.size+1+1) (w.heap.size+1+1+1+1) B (.slice (some ⟨Pb,0,none⟩) 3 3) 2 20 3 (k :: n :: r) [] 0 ⟨#[]⟩ :=
  ⟨_,_,q2,⟨off,cap,rfl,uh HC,(uh HL).same (hb1.block B hB)⟩,⟨rfl,Or.inl ⟨rfl,rfl⟩⟩⟩
 obtain ⟨c0,c1,c2,c3⟩:=qr q0;have HRA:=aa hra;have HRD:=aa hrd;have l0:=e_ w1 (w.heap.size+1+1+1) cW 4 0 0 (eE 211) hra.hm rfl;have k0:=dA hra.hp 0 _ rfl;clear hra hrd hw1 q0 q1 q2 q3 HL HP HC;go_wp2_with fail
 refine wp_loop_rounds 4 ?_;rw [rounds_succ];go_wp2_with fail
 refine (gn _ _ B _ 2 20 3 (k :: n :: r) [] 0 ⟨#[]⟩ w1 (by omega) (by omega) (by omega) (by omega) (by simp) (uh HRD)).mono ?_;rintro e w2 ⟨hof,⟨hn,_⟩ | ⟨c,r',hc,rfl,hrd⟩⟩
 ·cases hn
 obtain ⟨rfl,rfl⟩:=List.cons.inj hc;have hra:=(uh HRA).off hof (by omega) (by omega) (by omega) (by omega) (by omega) (by omega) (by omega) (by omega);have hs2:=hof.size;have l1:=e_ w2 (w.heap.size+1+1+1) cW 4 1 1 (eE 212) hra.hm rfl;have k1:=dA hra.hp 1 _ rfl;clear HRA HRD hc l0 k0 c0 c1 c2 c3 hb1;have HRA:=aa hra;have HRD:=aa hrd;clear hra hrd hof;go_wp2_with fail
 rw [rounds_succ];go_wp2_with fail
 have C:=aa (lN _ _ B _ 2 20 3 (n :: r) _ 0 ⟨#[]⟩ w2 (by omega) (by omega) (by omega) (by omega) (by omega) (by simp) (uh HRD));rw [show ax (List.take 1 (n :: r))=n.toNat by simp [ax],show List.drop 1 (n :: r)=r from rfl,hg,if_neg (by decide)] at C;refine (uh C).mono ?_;rintro e w3 ⟨rfl,hnr,hrd⟩;have hra:=(uh HRA).off (hnr.off (N:=w.heap.size+1+1+1+1) (by omega)) (by omega) (by omega) (by omega) (by omega) (by omega) (by omega) (by omega) (by omega);have hs3:=hnr.size;have l3:=e_ w3 (w.heap.size+1+1+1) cW 4 3 3 (eE 214) hra.hm rfl;have k2:=dA hra.hp 2 _ rfl;clear HRA HRD C l1 k1;have HRA:=aa hra;have HRD:=aa hrd;clear hra hrd hnr;go_wp2_with fail
 rw [rounds_succ];go_wp2_with fail
 obtain ⟨g1,g2,g3⟩:2≤n.toNat∧n.toNat≤22∧n.toNat - 2≤r.length:=by
  have:=of_decide_eq_false hg
  omega
 have hrd:=uh HRD;rw [show ((n.toNat:Nat):Int) - 2=((n.toNat - 2:Nat):Int) by omega] at hrd;refine (sN _ _ B _ 2 20 3 r _ (n.toNat - 2) ⟨#[]⟩ w3 (by omega) (by omega) (by omega) g3 hrd).mono ?_;rintro e w4 ⟨rfl,hnr,hrd2⟩;have hra:=(uh HRA).off (hnr.off (N:=w.heap.size+1+1+1+1) (by omega)) (by omega) (by omega) (by omega) (by omega) (by omega) (by omega) (by omega) (by omega);obtain ⟨v',s,hR,hv,ho⟩:=hrd2;obtain ⟨off',cap',hvf,hcap',hl'⟩:=hv;subst hvf;obtain ⟨sa,sc,hsf⟩:=af ho;subst hsf;have hE:=hra.he;unfold dc at hE;have hfin:=hra.below;obtain ⟨c0,c1,c2,c3,c4,c5,c6,c7,_⟩:=j_ hR;obtain ⟨e0,e1,e2,e3,e4,e5,e6,e7,ef⟩:=j_ hE;have f0:=ef 0;have f1:=ef 1;have f2:=ef 2;have f3:=ef 3;have f4:=ef 4;have f5:=ef 5;have f6:=ef 6;have f7:=ef 7;have HL:=aa hl';have HO:=aa ho;have FIN:=aa (ie hE);unfold lO at FIN;clear HRA HRD hrd hnr hra hR hl' ho ef hE l3 k2 hg;go_wp2_with fail
 rw [rounds_succ];go_wp2
 refine bodyPost_ret (v:=.tuple #[.agg #[.slice (some ⟨Pb,0,none⟩) 3 3,.int .i64 2,.int .i64 20,.int .i64 3,.slice (some ⟨B,off',none⟩) (r.drop (n.toNat - 2)).length cap',.slice sa 1 sc,.int .i64 ((n.toNat - 2:Nat):Int),.string (co (r.take (n.toNat - 2)))],.nilIface]) (by simp [results,results161,asAddr,uh FIN]) rfl ?_;have hne:B≠w.heap.size+1:=by omega
 refine ⟨_,_,_,_,_,rfl,⟨off',cap',rfl,hcap',(uh HL).same (ju w4 (w.heap.size+1) _ _ _ _ _ _ _ _ B hne)⟩,?_,go (E:=w.heap.size+1) hfin (Nat.le_succ _) _ _ _ _ _ _ _ _⟩;refine qq (aY (uh HO) fun g hg _=>ju w4 (w.heap.size+1) _ _ _ _ _ _ _ _ g ?_) (by omega);clear FIN;omega
end Go.Proofs.YtjdgiimfpkideaaGreatDoor
