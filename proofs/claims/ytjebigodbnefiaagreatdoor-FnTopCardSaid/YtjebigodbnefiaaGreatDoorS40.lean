/- LaidEb DkG FmD FmE -/
import Derived.Test.YtjebigodbnefiaaGreatDoorS33
import Derived.Test.YtjebigodbnefiaaGreatDoorS39
set_option maxHeartbeats 8000000
set_option maxRecDepth 100000
namespace Go.Proofs.YtjebigodbnefiaaGreatDoor
open Go.Proofs.Tryz
open Go.ChangeShapes Go.WideShapes Go.ChangeAt Go.RowKit
theorem o9:laidOutB prog=true:=by kernel_rfl
theorem nxG : prog.globalNamed "loop.example/g00351/impl.nextStates" = some 9 := by kernel_rfl
theorem o_:(prog.globals[9]?).map (·.type)=some 239:=by kernel_rfl
theorem jH:prog.cellsOf 238=10:=by kernel_rfl
theorem ou:prog.cellsOf 2=1:=by kernel_rfl
theorem tW:(Rows.laid_loop_example_g00351_impl_nextStates:DataW Unit)=.agg (iy.map fun l=>Lib.tabData .i64 l):=by kernel_rfl
theorem tX:(iy.all fun l=>decide (l.length=10))=true:=by kernel_rfl
theorem tY {W : World} (h : Lib.VarReads prog W "loop.example/g00351/impl.nextStates" Rows.laid_loop_example_g00351_impl_nextStates) : NxT W := by
 rw [tW] at h;obtain ⟨g,t,cs,fuel,p,hg,hty,hvar,hd⟩:=h;obtain rfl:=Option.some.inj (nxG.symm.trans hg);obtain rfl:=Option.some.inj (o_.symm.trans hty);intro i s hi hs;obtain ⟨fuel',d,q,hdi,he⟩:=Lib.array_elem underlying239 hd i hi;rw [List.getElem?_map] at hdi;obtain ⟨r,hr,rfl⟩:=Option.map_eq_some_iff.1 hdi;have hrl:r.length=10:=of_decide_eq_true (List.all_eq_true.1 tX r (List.mem_of_getElem? hr));rw [jH] at he;have hcs:=Lib.cells_of_tab underlying238 underlying2 ou jH he;rw [World.var?_cell hg hvar (i*10+s),← Array.getElem?_toList];have e0:=congrArg (·[s]?) hcs;simp only [List.getElem?_take,List.getElem?_drop,hs,if_true,List.getElem?_map] at e0;rw [e0];unfold iN;rw [show iy.getD i []=r by rw [List.getD_eq_getElem?_getD,hr];rfl,List.getD_eq_getElem?_getD,List.getElem?_eq_getElem (by omega)];rfl
theorem spG : prog.globalNamed "strings.asciiSpace" = some 10 := by kernel_rfl
theorem uc:(prog.globals[10]?).map (·.type)=some 128:=by kernel_rfl
theorem ov:prog.cellsOf 128=256:=by kernel_rfl
theorem pe:prog.cellsOf 5=1:=by kernel_rfl
theorem tZ:(Rows.laid_strings_asciiSpace:DataW Unit)=Lib.tabData .u8 Lib.asciiSpaceTab:=by kernel_rfl
theorem t_ {W : World} (h : Lib.VarReads prog W "strings.asciiSpace" Rows.laid_strings_asciiSpace) : SpT W := by
 rw [tZ] at h;obtain ⟨g,t,cs,fuel,p,hg,hty,hvar,hd⟩:=h;obtain rfl:=Option.some.inj (spG.symm.trans hg);obtain rfl:=Option.some.inj (uc.symm.trans hty);intro c hc;have hcs:=Lib.cells_of_tab underlying128 underlying5 pe ov hd;rw [World.var?_cell hg hvar c,← Array.getElem?_toList,hcs,List.getElem?_map];have hl:c<Lib.asciiSpaceTab.length:=by rw [Lib.asciiSpaceTab_length];exact hc
 have:=Lib.asciiSpaceTab_at c hc
 rw [List.getD_eq_getElem?_getD,List.getElem?_eq_getElem hl,Option.getD_some] at this;rw [List.getElem?_eq_getElem hl,Option.map_some,this]
end Go.Proofs.YtjebigodbnefiaaGreatDoor
namespace Go.Proofs.YtjebigodbnefiaaGreatDoor
open Go.RowKit Go.Proofs.Tryz
section
variable {base:Nat} {W W':World} {D:Nat} {k:Ks} {ca:List Value}
theorem fV (t:ByteArray):(bB t).size≤8000:=by
 unfold bB;by_cases h:t.size≤8000∧t.size % 2=0∧sL t (t.size / 2)
 ·rw [if_pos h];have e:(co (nz t (t.size / 2))).size=(nz t (t.size / 2)).length:=by unfold co;show (nz t (t.size / 2)).toArray.size=_;simp
  rw [e,fU];omega
 ·rw [if_neg h];exact Nat.zero_le _
theorem s_ (t:ByteArray) (x:Int) (b:Bool):(eH t x b).size≤2*t.size+10:=by
 unfold eH;split
 ·have h:=ol x.toNat (t ++ gf t.data.toList b);rw [ByteArray.size_append,ByteArray.size_append];rw [ByteArray.size_append,kV] at h;have hk:de b≤4:=by cases b<;>decide
  show 1+_+1≤_
  omega
 ·exact Nat.zero_le _
theorem qk (h:DkM base W D k ca) (t:ByteArray) (ht:t.size≤8000) :
  Calls prog 83 #[.pointer (some ⟨D,0,none⟩),.string ⟨#[102,114,97,109,101]⟩,.string t] W fun e W'=>e=.returned (.tuple #[.string (fe (bb (eH (bB t) 0 false))),.nilIface])∧Below W.heap.size W W':=by
 have C1:=aa (uV t W (by unfold maxLen;omega));have C2:=aa fun W' (hb:Below W.heap.size W W')=>jl (bB t) 0 false W' (by have:=fV t;unfold maxLen;omega) (h.below hb).tb.get.2.2.2
 have C3:=aa fun W'=>qa (eH (bB t) 0 false) W' (by have:=s_ (bB t) 0 false;have:=fV t;unfold maxLen;omega)
 clear h;generalize bB t=u at *;generalize eH u 0 false=f at *;go_enter func83,ntmps83
 go_wp2_with fail
 refine (uh C1).mono ?_;rintro e w1 ⟨rfl,hb1⟩;have HB1:=aa hb1;clear hb1;go_wp2_with fail
 refine (uh C2 w1 (uh HB1)).mono ?_;rintro e w2 ⟨rfl,hb2⟩;have HB2:=aa ((uh HB1).trans (hb2.mono (uh HB1).size));clear hb2 HB1;go_wp2_with fail
 refine (uh C3 w2).mono ?_;rintro e w3 ⟨rfl,hb3⟩;have HB3:=aa ((uh HB2).trans (hb3.mono (uh HB2).size));clear hb3 HB2;go_wp2_with fail
 refine (rg (bb f) w3).mono ?_;rintro e w4 ⟨rfl,hw4⟩;replace hw4:=hw4.symm;subst hw4;go_wp2_with fail
 go_ret2
 exact ⟨rfl,uh HB3⟩
theorem tc (h:DkM base W D k ca) (t:ByteArray) (hi:-9223372036854775808≤k.s.e.i1∧k.s.e.i1≤9223372036854775807) (ho:-9223372036854775808≤k.s.e.o1∧k.s.e.o1≤9223372036854775807) (si:(bT k.s.e.i1).size≤10000) (so:(bT k.s.e.o1).size≤10000) :
  Calls prog 83 #[.pointer (some ⟨D,0,none⟩),.string ⟨#[108,105,110,101]⟩,.string t] W fun e W'=>e=.returned (.tuple #[.string (fh k),.nilIface])∧Below W.heap.size W W':=by
 have C1:=aa (qh h hi ho si so);clear h hi ho si so;generalize fh k=f at *;go_enter func83,ntmps83
 go_wp2_with fail
 refine (uh C1).mono ?_;rintro e w1 ⟨rfl,hb1⟩;have HB1:=aa hb1;clear hb1;go_wp2_with fail
 go_ret2
 exact ⟨rfl,uh HB1⟩
def td (k:Ks) (o:EO):Ks:=⟨k.d,⟨o.e,o.F1,o.F2,[]⟩,k.now,k.at'⟩
theorem x8 (h:DkM base W D k ca) (t:ByteArray) (h0:(kC k.s.e k.s.F1 k.s.F2 t k.now).cd=0) (hB:EoB (kC k.s.e k.s.F1 k.s.F2 t k.now)) (hst:0≤(kC k.s.e k.s.F1 k.s.F2 t k.now).e.st∧(kC k.s.e k.s.F1 k.s.F2 t k.now).e.st≤100) (hds:(bT (kC k.s.e k.s.F1 k.s.F2 t k.now).e.st).size≤10000) :
  Calls prog 83 #[.pointer (some ⟨D,0,none⟩),.string ⟨#[100,111]⟩,.string t] W fun e W'=>e=.returned (.tuple #[.string (df (cL (kC k.s.e k.s.F1 k.s.F2 t k.now))),.nilIface])∧∃ cb,DkM base W' D (td k (kC k.s.e k.s.F1 k.s.F2 t k.now)) cb∧Od D W W':=by
 have C1:=aa (zu h t);have C2:=aa fun W' cl vs b (hb:Below W.heap.size W W') (hA:AnE b W' (kC k.s.e k.s.F1 k.s.F2 t k.now) cl vs) (hbb:base≤b)=>lR (h.below hb) hA hbb h0 hB hst hds
 have hbs:base≤W.heap.size:=by have:=h.bs;have:=h.lt;omega
 clear h h0 hB hst hds;unfold td;generalize kC k.s.e k.s.F1 k.s.F2 t k.now=oo at *;go_enter func83,ntmps83
 go_wp2_with fail
 refine (uh C1).mono ?_;rintro e w1 ⟨cl,vs,rfl,hA,hf,hb1⟩;have HA:=aa (zA hA hb1);clear hA hf hb1;go_wp2_with fail
 refine (uh C2 w1 cl vs _ (uh HA).2 (uh HA).1 hbs).mono ?_;rintro e w2 ⟨rfl,cb,hk,ho⟩;have HK:=aa (zA hk ((Od.of_below (uh HA).2).trans ho));clear hk ho HA;go_wp2_with fail
 go_ret2
 exact ⟨rfl,cb,uh HK⟩
theorem te (h:DkM base W D k ca) (t:ByteArray) (ht:t.size≤8000) (hp:(Op.pread (bB t).data.toList).code=0) (h0:(eL k (bB t)).cd=0) (hB:EoB (eL k (bB t))) (hst:0≤(eL k (bB t)).e.st∧(eL k (bB t)).e.st≤100) (hds:(bT (eL k (bB t)).e.st).size≤10000) :
  Calls prog 83 #[.pointer (some ⟨D,0,none⟩),.string ⟨#[104,101,97,114]⟩,.string t] W fun e W'=>e=.returned (.tuple #[.string (df (cL (eL k (bB t)))),.nilIface])∧∃ cb,DkM base W' D (td k (eL k (bB t))) cb∧Od D W W':=by
 have C1:=aa (uW h t ht hp (by have:=fV t;omega));have C2:=aa fun W' cl vs b (hb:Below W.heap.size W W') (hA:AnE b W' (eL k (bB t)) cl vs) (hbb:base≤b)=>lR (h.below hb) hA hbb h0 hB hst hds
 have hbs:base≤W.heap.size:=by have:=h.bs;have:=h.lt;omega
 clear h hp h0 hB hst hds;unfold td;generalize eL k (bB t)=oo at *;go_enter func83,ntmps83
 go_wp2_with fail
 refine (uh C1).mono ?_;rintro e w1 ⟨cl,vs,rfl,hA,hf,hb1⟩;have HA:=aa (zA hA hb1);clear hA hf hb1;go_wp2_with fail
 refine (uh C2 w1 cl vs _ (uh HA).2 (uh HA).1 hbs).mono ?_;rintro e w2 ⟨rfl,cb,hk,ho⟩;have HK:=aa (zA hk ((Od.of_below (uh HA).2).trans ho));clear hk ho HA;go_wp2_with fail
 go_ret2
 exact ⟨rfl,cb,uh HK⟩
end
end Go.Proofs.YtjebigodbnefiaaGreatDoor
namespace Go.Proofs.YtjebigodbnefiaaGreatDoor
open Go.RowKit Go.Proofs.Tryz
theorem zN (l:List (Int × Op.Opt)) (m:Int) (h:2≤m):l.foldl (fun m v=>max m v.1) m=max m (l.foldl (fun m v=>max m v.1) 2):=by
 induction l generalizing m with
 | nil=>simp only [List.foldl_nil];omega
 | cons v l ih =>
  simp only [List.foldl_cons];rw [ih (max m v.1) (by omega),ih (max 2 v.1) (by omega)];omega
theorem zO (l r:List (Int × Op.Opt)):mx (l ++ r)=max (mx l) (mx r):=by
 unfold mx;rw [List.foldl_append,zN];exact (oG l 2).1
theorem zP (k:Int) (l r:List (Int × Op.Opt)):fl k (l ++ r)=fl k l ++ fl k r:=by
 unfold fl;rw [List.filter_append,List.map_append]
def tm (y:Ye) (G:Nat) (x:Cf):Bool:=gM y x || gN G x || gt y x
def qO (y:Ye) (x:Cf):Bool:=x.p && !y.p
def qP (y:Ye) (x:Cf):Bool:=x.c && !y.c
def ng (b:Bool) (o:Op.Opt):List Op.Opt:=if b=true then [o] else []
theorem rA {y:Ye} {x:Cf} (h:gM y x=true):((x.a:Int) != 4294967295)=true:=by
 unfold gM at h;exact (Bool.and_eq_true _ _ ▸ h).1
theorem rB {G:Nat} {x:Cf} (h:gN G x=true):((x.g:Int) != 0)=true:=by
 unfold gN at h;exact (Bool.and_eq_true _ _ ▸ h).1
theorem wu (b q:Bool) (k:Int) (hk:k=3∨k=4) (u v:Op.Opt) (h:q=true→b=true):mx (ne b (if q=true then (k,u) else (2,v)))=(if q=true then k else 2) ∧
  fl k (ne b (if q=true then (k,u) else (2,v)))=ng q u∧(∀ j,j≠k→j≠2→fl j (ne b (if q=true then (k,u) else (2,v)))=[])∧(q=false→fl 2 (ne b (if q=true then (k,u) else (2,v)))=ng b v):=by
 cases q
 ·cases b
  ·exact ⟨rfl,rfl,fun _ _ _=>rfl,fun _=>rfl⟩
  ·rcases hk with rfl | rfl
   ·exact ⟨rfl,rfl,fun j _ h2=>by
     show fl j [((2:Int),v)]=[]
     unfold fl;rw [List.filter_cons_of_neg (by simpa using fun e=>h2 e.symm)];rfl,fun _=>rfl⟩
   ·exact ⟨rfl,rfl,fun j _ h2=>by
     show fl j [((2:Int),v)]=[]
     unfold fl;rw [List.filter_cons_of_neg (by simpa using fun e=>h2 e.symm)];rfl,fun _=>rfl⟩
 ·obtain rfl:=h rfl;rcases hk with rfl | rfl
  ·exact ⟨rfl,rfl,fun j h1 _=>by
    show fl j [((3:Int),u)]=[]
    unfold fl;rw [List.filter_cons_of_neg (by simpa using fun e=>h1 e.symm)];rfl,fun hq=>by cases hq⟩
  ·exact ⟨rfl,rfl,fun j h1 _=>by
    show fl j [((4:Int),u)]=[]
    unfold fl;rw [List.filter_cons_of_neg (by simpa using fun e=>h1 e.symm)];rfl,fun hq=>by cases hq⟩
theorem qQ (x y:Bool) (k:Int) (u v:Op.Opt):ne x (if y=true then (2,v) else (k,u))=ne x (if (x && !y)=true then (k,u) else (2,v)):=by
 cases x<;>cases y<;>rfl
theorem tv (y:Ye) (G:Nat) {x:Cf} (h:iv x=true) :
  mx (b_ y.m y.a G y.p y.c y.d (a7 x))=(if qN y x=true then 4 else if tm y G x=true then 3 else 2) ∧
  fl 4 (b_ y.m y.a G y.p y.c y.d (a7 x))=ng (qO y x) ⟨7,⟨#[]⟩⟩ ++ ng (qP y x) ⟨8,⟨#[]⟩⟩ ∧
  fl 3 (b_ y.m y.a G y.p y.c y.d (a7 x))=ng (gM y x) ⟨2,cK (x.a ||| y.a)⟩ ++ (ng (gN G x) ⟨5,cK (fv G)⟩ ++ ng (gt y x) ⟨9,fu 2⟩) ∧
  (qN y x=false→tm y G x=false→fl 2 (b_ y.m y.a G y.p y.c y.d (a7 x))=a7 x):=by
 rw [wk y G h];have p1:mx (ne ((x.m:Int) != 300) ((2:Int),(⟨1,ji x.m⟩:Op.Opt)))=2∧(∀ j,j≠2→fl j (ne ((x.m:Int) != 300) ((2:Int),(⟨1,ji x.m⟩:Op.Opt)))=[])∧fl 2 (ne ((x.m:Int) != 300) ((2:Int),(⟨1,ji x.m⟩:Op.Opt)))=c_ ((x.m:Int) != 300) 1 (ji x.m):=by
  cases ((x.m:Int) != 300)
  ·exact ⟨rfl,fun _ _=>rfl,rfl⟩
  ·exact ⟨rfl,fun j hj=>by
    show fl j [((2:Int),_)]=[]
    unfold fl;rw [List.filter_cons_of_neg (by simpa using fun e=>hj e.symm)];rfl,rfl⟩
 have p2:=wu ((x.a:Int) != 4294967295) (gM y x) 3 (Or.inl rfl) ⟨2,cK (x.a ||| y.a)⟩ ⟨2,cK x.a⟩ rA;have p3:=wu ((x.g:Int) != 0) (gN G x) 3 (Or.inl rfl) ⟨5,cK (fv G)⟩ ⟨5,cK x.g⟩ rB;have q4:=wu x.p (qO y x) 4 (Or.inr rfl) ⟨7,⟨#[]⟩⟩ ⟨7,⟨#[]⟩⟩ (fun h=>(Bool.and_eq_true _ _ ▸ h:x.p=true∧(!y.p)=true).1);have q5:=wu x.c (qP y x) 4 (Or.inr rfl) ⟨8,⟨#[]⟩⟩ ⟨8,⟨#[]⟩⟩ (fun h=>(Bool.and_eq_true _ _ ▸ h:x.c=true∧(!y.c)=true).1);have q6:=wu x.d (gt y x) 3 (Or.inl rfl) ⟨9,fu 2⟩ ⟨9,fu 4⟩ (fun h=>(Bool.and_eq_true _ _ ▸ h:x.d=true∧(!y.d)=true).1);rw [qQ x.p y.p 4,qQ x.c y.c 4,qQ x.d y.d 3];change mx _=_∧_
 simp only [zO,zP];refine ⟨?_,?_,?_,?_⟩
 ·rw [p1.1,p2.1,p3.1];have e4:=q4.1;have e5:=q5.1;have e6:=q6.1;unfold qO at e4;unfold qP at e5;unfold gt at e6;rw [e4,e5,e6];unfold qN tm gt;generalize gM y x=ab;generalize gN G x=gb;generalize (x.p && !y.p)=pb;generalize (x.c && !y.c)=cb;generalize (x.d && !y.d)=db;cases ab<;>cases gb<;>cases pb<;>cases cb<;>cases db<;>rfl
 ·rw [p1.2.1 4 (by decide),p2.2.2.1 4 (by decide) (by decide),p3.2.2.1 4 (by decide) (by decide)];have e4:=q4.2.1;have e5:=q5.2.1;have e6:=q6.2.2.1 4 (by decide) (by decide);unfold qO at e4;unfold qP at e5;unfold gt at e6;rw [e4,e5,e6,List.append_nil];rfl
 ·rw [p1.2.1 3 (by decide),p2.2.1,p3.2.1];have e4:=q4.2.2.1 3 (by decide) (by decide);have e5:=q5.2.2.1 3 (by decide) (by decide);have e6:=q6.2.1;unfold qO at e4;unfold qP at e5;unfold gt at e6;rw [e4,e5,e6];rfl
 ·intro hr hn;unfold qN at hr;unfold tm at hn;simp only [Bool.or_eq_false_iff] at hr hn;have e4:=q4.2.2.2 hr.1;have e5:=q5.2.2.2 hr.2;have e6:=q6.2.2.2 hn.2;unfold qO at e4;unfold qP at e5;unfold gt at e6;rw [p1.2.2,p2.2.2.2 hn.1.1,p3.2.2.2 hn.1.2,e4,e5,e6,gY];rfl
def tD (y:Ye) (G:Nat) (fl:Int) (x:Cf):Int:=if qN y x=true then 4 else if tm y G x=true then (if fl=3 then 4 else 3) else 2
def zQ (y:Ye) (G:Nat) (fl:Int) (x:Cf):Cf :=
 if qN y x=true then { x with p:=x.p && y.p,c:=x.c && y.c }
 else { x with a:=if gM y x=true then (if fl=3 then 4294967295 else x.a ||| y.a) else x.a,g:=if gN G x=true then (if fl=3 then 0 else fv G) else x.g,d:=x.d && y.d }
def dR (e:En):Ye:=⟨e.m1.toNat,e.a1.toNat,e.p1,e.c1,e.d1⟩
theorem AP {a b:Nat} (h1:a<4294967296) (h2:b<4294967296):a ||| b<4294967296:=Nat.or_lt_two_pow (n:=32) h1 h2
theorem ww {G:Nat}:fv G<4294967296:=by unfold fv;omega
theorem iq {m a g:Nat} {p c d:Bool} (h1:64≤m∧m≤300) (h2:a<4294967296) (h3:g<4294967296):iv ⟨m,a,g,p,c,d⟩=true:=by
 simp only [iv,aK,al,Bool.and_eq_true,decide_eq_true_eq];omega
theorem eD {α:Type} (f:α→Op.Opt→α) (b:Bool) (o:Op.Opt) (x:α):(ng b o).foldl f x=if b=true then f x o else x:=by cases b<;>rfl
theorem tE {x:Cf} {n:Nat} (h:iv x=true) (hn:n<4294967296):fN x ⟨2,cK n⟩={ x with a:=n }:=by
 have hb:=j7 h;show an (aD 2 x (ax (cK n).data.toList)) x=_
 rw [eg hn];show (if iv { x with a:=n }=true then { x with a:=n } else x)=_
 rw [if_pos (iq ⟨hb.1,hb.2.1⟩ hn hb.2.2.2)]
theorem l_ {x:Cf} {n:Nat} (h:iv x=true) (hn:n<4294967296):fN x ⟨5,cK n⟩={ x with g:=n }:=by
 have hb:=j7 h;show an (aD 5 x (ax (cK n).data.toList)) x=_
 rw [eg hn];show (if iv { x with g:=n }=true then { x with g:=n } else x)=_
 rw [if_pos (iq ⟨hb.1,hb.2.1⟩ hb.2.2.1 hn)]
theorem g7 {x:Cf} (h:iv x=true):fN x ⟨9,fu 2⟩={ x with d:=false }:=by
 have hb:=j7 h;show an (aD 9 x (ax (fu 2).data.toList)) x=_
 rw [oK];show (if iv { x with d:=x.d && false }=true then { x with d:=x.d && false } else x)=_
 rw [if_pos (iq ⟨hb.1,hb.2.1⟩ hb.2.2.1 hb.2.2.2),Bool.and_false]
theorem wy (e:En) {x:Cf} (h:iv x=true) (he:aK e.m1 e.a1 e.g2=true) :
  (eX e (a7 x)).1=tD (dR e) e.g2.toNat e.fl x ∧
  (tD (dR e) e.g2.toNat e.fl x=2→(eX e (a7 x)).2=a7 x) ∧
  (tD (dR e) e.g2.toNat e.fl x=3→bF x (eX e (a7 x)).2=zQ (dR e) e.g2.toNat e.fl x) ∧
  (tD (dR e) e.g2.toNat e.fl x=4→gI x (eX e (a7 x)).2=zQ (dR e) e.g2.toNat e.fl x):=by
 have hb:=j7 h;have hya:e.a1.toNat<4294967296:=by
  simp only [aK,al,Bool.and_eq_true,decide_eq_true_eq] at he;omega
 have hr:Op.right (a7 x)=true:=bz (jo { ag with m2:=x.m,a2:=x.a,g2:=x.g,p2:=x.p,c2:=x.c,d2:=x.d });obtain ⟨r1,r2,r3,r4⟩:=tv (dR e) e.g2.toNat h;have hrep:ck e.m1 e.a1 e.g2 e.p1 e.c1 e.d1 (a7 x)=(mx (b_ (dR e).m (dR e).a e.g2.toNat (dR e).p (dR e).c (dR e).d (a7 x)),fl (mx (b_ (dR e).m (dR e).a e.g2.toNat (dR e).p (dR e).c (dR e).d (a7 x))) (b_ (dR e).m (dR e).a e.g2.toNat (dR e).p (dR e).c (dR e).d (a7 x))):=if_pos ⟨he,hr⟩;unfold eX;rw [hrep];generalize b_ (dR e).m (dR e).a e.g2.toNat (dR e).p (dR e).c (dR e).d (a7 x)=V at *;have hya':(dR e).a<4294967296:=hya;generalize dR e=y at *;generalize e.g2.toNat=G at *;generalize e.fl=k at *;dsimp only;unfold tD zQ;cases hrb:qN y x
 ·rw [hrb] at r1;rw [if_neg (by decide)] at r1;cases hnb:tm y G x
  ·rw [hnb] at r1;rw [if_neg (by decide)] at r1;rw [r1];exact ⟨rfl,fun _=>r4 hrb hnb,fun h=>by simp at h,fun h=>by simp at h⟩
  ·rw [hnb] at r1;rw [if_pos rfl] at r1;rw [r1,r3];by_cases hk:k=3
   ·rw [if_pos ⟨rfl,hk⟩];simp only [hk,if_true];refine ⟨rfl,fun h=>by simp at h,fun h=>by simp at h,fun _=>?_⟩;have hof:gX (a7 x) (ng (gM y x) ⟨2,cK (x.a ||| y.a)⟩ ++ (ng (gN G x) ⟨5,cK (fv G)⟩ ++ ng (gt y x) ⟨9,fu 2⟩))=ng (gM y x) ⟨2,cK x.a⟩ ++ (ng (gN G x) ⟨5,cK x.g⟩ ++ ng (gt y x) ⟨9,fu 4⟩):=by
     unfold gX;rw [gY];have ha:=@rA y x;have hg:=@rB G x;have hd:gt y x=true→x.d=true:=fun h=>(Bool.and_eq_true _ _ ▸ h:x.d=true∧(!y.d)=true).1
     revert ha hg hd
     generalize gM y x=ab;generalize gN G x=gb;generalize gt y x=db;generalize ((x.a:Int) != 4294967295)=ba;generalize ((x.g:Int) != 0)=bg;generalize ((x.m:Int) != 300)=bm;generalize x.p=bp;generalize x.c=bc;generalize x.d=bd;intro ha hg hd;simp only [List.filter_append];have f1:∀ (b:Bool) (t:ByteArray) (k:Int),k≠2→k≠5→k≠9→(c_ b k t).filter (fun o=>(ng ab (⟨2,cK (x.a ||| y.a)⟩:Op.Opt) ++ (ng gb ⟨5,cK (fv G)⟩ ++ ng db ⟨9,fu 2⟩)).any fun x=>x.kind == o.kind)=[]:=by
      intro b t k k2 k5 k9;cases b
      ·rfl
      ·show List.filter _ [_]=[]
       rw [List.filter_cons_of_neg]
       ·rfl
       ·simp only [List.any_append];cases ab<;>cases gb<;>cases db<;>simp [ng,Ne.symm k2,Ne.symm k5,Ne.symm k9]
     rw [f1 bm _ 1 (by decide) (by decide) (by decide),f1 bp _ 7 (by decide) (by decide) (by decide),f1 bc _ 8 (by decide) (by decide) (by decide)];cases ba
     ·have:ab=false:=by cases ab;rfl;exact absurd (ha rfl) (by decide)
      subst this;cases bg
      ·have:gb=false:=by cases gb;rfl;exact absurd (hg rfl) (by decide)
       subst this;cases bd
       ·have:db=false:=by cases db;rfl;exact absurd (hd rfl) (by decide)
        subst this;rfl
       ·cases db<;>rfl
      ·cases bd
       ·have:db=false:=by cases db;rfl;exact absurd (hd rfl) (by decide)
        subst this;cases gb<;>rfl
       ·cases gb<;>cases db<;>rfl
     ·cases bg
      ·have:gb=false:=by cases gb;rfl;exact absurd (hg rfl) (by decide)
       subst this;cases bd
       ·have:db=false:=by cases db;rfl;exact absurd (hd rfl) (by decide)
        subst this;cases ab<;>rfl
       ·cases ab<;>cases db<;>rfl
      ·cases bd
       ·have:db=false:=by cases db;rfl;exact absurd (hd rfl) (by decide)
        subst this;cases ab<;>cases gb<;>rfl
       ·cases ab<;>cases gb<;>cases db<;>rfl
    rw [hof];unfold gI;rw [List.foldl_append,List.foldl_append,eD,eD,eD];have hd:∀ b,gt y x=b→(x.d && y.d)=if b=true then false else x.d:=by
     intro b hb;subst hb;unfold gt;cases x.d<;>cases y.d<;>rfl
    rw [hd _ rfl,if_neg (show ¬ (false=true) by decide)];cases gM y x<;>cases gN G x<;>cases gt y x<;>rfl
   ·rw [if_neg (fun h=>hk h.2)];simp only [hk,if_false,if_true];refine ⟨rfl,fun h=>by simp at h,fun _=>?_,fun h=>by simp at h⟩;unfold bF;rw [List.foldl_append,List.foldl_append,eD,eD,eD];have hd:∀ b,gt y x=b→(x.d && y.d)=if b=true then false else x.d:=by
     intro b hb;subst hb;unfold gt;cases x.d<;>cases y.d<;>rfl
    rw [hd _ rfl,if_neg (show ¬ (false=true) by decide)];have o1:=AP hb.2.2.1 hya';have o2:=@ww G;have k1:iv { x with a:=x.a ||| y.a }=true:=iq ⟨hb.1,hb.2.1⟩ o1 hb.2.2.2;have k2:iv { x with g:=fv G }=true:=iq ⟨hb.1,hb.2.1⟩ hb.2.2.1 o2;have k3:iv { x with a:=x.a ||| y.a,g:=fv G }=true:=iq ⟨hb.1,hb.2.1⟩ o1 o2;cases gM y x<;>cases gN G x<;>cases gt y x<;>simp only [if_true,if_false,Bool.false_eq_true,tE h o1,l_ h o2,l_ k1 o2,g7 h,g7 k1,g7 k2,g7 k3]
 ·rw [hrb] at r1;rw [if_pos rfl] at r1;rw [r1,r2,if_neg (fun h=>absurd h.1 (by decide))];refine ⟨rfl,fun h=>by simp at h,fun h=>by simp at h,fun _=>?_⟩;unfold gI;rw [List.foldl_append,eD,eD];unfold qO qP;rw [if_pos rfl];obtain ⟨xm,xa,xg,xp,xc,xd⟩:=x;dsimp only;cases xp<;>cases xc<;>cases y.p<;>cases y.c<;>rfl
end Go.Proofs.YtjebigodbnefiaaGreatDoor
namespace Go.Proofs.YtjebigodbnefiaaGreatDoor
open Go.RowKit Go.Proofs.Tryz
structure LeC (c0 x:Cf):Prop where
 ok:iv x=true
 p:x.p=true→c0.p=true
 c:x.c=true→c0.c=true
 d:x.d=true→c0.d=true
 a:x.a &&& c0.a=c0.a
theorem LeC.refl {c0:Cf} (h:iv c0=true):LeC c0 c0:=⟨h,id,id,id,Nat.and_self _⟩
def b2 (b:Bool):Nat:=if b=true then 1 else 0
theorem qR {α:Type} (f:α→Op.Opt→α) (b:Bool) (k:Int) (t:ByteArray) (x:α):(c_ b k t).foldl f x=if b=true then f x ⟨k,t⟩ else x:=by cases b<;>rfl
theorem oQ {x:Cf} (h:iv x=true):aQ (a7 x)=⟨x.m,x.a,x.p,x.c,x.d⟩:=by
 have hb:=j7 h;have hr:Op.right (a7 x)=true:=bz (jo { ag with m2:=x.m,a2:=x.a,g2:=x.g,p2:=x.p,c2:=x.c,d2:=x.d });unfold aQ;rw [if_pos hr];unfold ep;rw [gY];simp only [List.foldl_append,qR];have l1:∀ z:Ln,nw z ⟨1,ji x.m⟩={ z with m:=x.m }:=fun z=>by
  show gT 1 z (ax (ji x.m).data.toList)=_
  rw [ld (by omega)];unfold gT;rw [if_pos rfl,show al 64 300 (x.m:Int)=true by unfold al;rw [decide_eq_true (by omega),decide_eq_true (by omega)];rfl];rfl
 have l2:∀ z:Ln,nw z ⟨2,cK x.a⟩={ z with a:=x.a }:=fun z=>by
  show gT 2 z (ax (cK x.a).data.toList)=_
  rw [eg hb.2.2.1];rfl
 have l5:∀ z:Ln,nw z ⟨5,cK x.g⟩=z:=fun z=>rfl
 have l7:∀ z:Ln,nw z ⟨7,⟨#[]⟩⟩={ z with p:=true }:=fun z=>rfl
 have l8:∀ z:Ln,nw z ⟨8,⟨#[]⟩⟩={ z with c:=true }:=fun z=>rfl
 have l9:∀ z:Ln,nw z ⟨9,fu 4⟩={ z with d:=true }:=fun z=>by
  show gT 9 z (ax (fu 4).data.toList)=_
  rw [qL];unfold gT;simp
 have m1:(if ((x.m:Int) != 300)=true then nw ⟨300,4294967295,false,false,false⟩ ⟨1,ji x.m⟩ else ⟨300,4294967295,false,false,false⟩)=⟨x.m,4294967295,false,false,false⟩:=by
  rw [l1];cases hq:((x.m:Int) != 300)
  ·have:(x.m:Int)=300:=by simpa using hq
   have:x.m=300:=by omega
   rw [this];rfl
  ·rfl
 have m2:(if ((x.a:Int) != 4294967295)=true then nw ⟨x.m,4294967295,false,false,false⟩ ⟨2,cK x.a⟩ else ⟨x.m,4294967295,false,false,false⟩)=⟨x.m,x.a,false,false,false⟩:=by
  rw [l2];cases hq:((x.a:Int) != 4294967295)
  ·have:(x.a:Int)=4294967295:=by simpa using hq
   have:x.a=4294967295:=by omega
   rw [this];rfl
  ·rfl
 rw [m1,m2];simp only [l5,l7,l8,l9,ite_self];cases x.p<;>cases x.c<;>cases x.d<;>rfl
theorem ma {L:List Op.Opt} (h:cC L=true):ar (co (Op.bytes L))=(L,0):=by
 have h2:(Op.bytes L).length≤250:=by
  unfold cC at h;rw [Bool.and_eq_true] at h;exact of_decide_eq_true h.2
 refine fb ?_ ?_
 ·show ¬ 8000<(Op.bytes L).toArray.size
  simp;omega
 ·exact Op.acc_bytes (bz h)
theorem cT (x:Cf):cC (a7 x)=true:=jo { ag with m2:=x.m,a2:=x.a,g2:=x.g,p2:=x.p,c2:=x.c,d2:=x.d }
theorem rF {cd id:Int} {L:List Op.Opt} (hc:0≤cd∧cd≤255) (hi:0≤id∧id≤255) (h:cC L=true):Op.pok ⟨cd,id,co (Op.bytes L)⟩=true:=by
 have h2:(Op.bytes L).length≤250:=by
  unfold cC at h;rw [Bool.and_eq_true] at h;exact of_decide_eq_true h.2
 refine decide_eq_true ⟨hc.1,hc.2,hi.1,hi.2,?_⟩;rw [eJ];exact h2
end Go.Proofs.YtjebigodbnefiaaGreatDoor
