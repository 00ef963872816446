/- WkF RepMath VOn VOn2 AnsOf RepI HrM RepFin EndOm BadPkt -/
import Derived.Test.YtjebigodbnefiaaGreatDoorS09
import Derived.Test.YtjebigodbnefiaaGreatDoorS07
set_option maxHeartbeats 8000000
set_option maxRecDepth 100000
namespace Go.Proofs.YtjebigodbnefiaaGreatDoor
open Go.RowKit Go.Proofs.Tryz
theorem aw:(prog.info? 121).map (·.size)=some 33:=by kernel_rfl
theorem ay {W:World} {E:Nat} {cs:Array Value} (h:W.heap[E]?=some (.cells cs 121)) (hs:cs.size=33:=by rfl):(loadVar 121 ⟨E,0,none⟩).run prog W=.ok (.agg cs) W :=
 run_loadVar_row (P:=prog) _ _ 121 121 cs (0,0) _ h underlying121 rfl (by rw [hs];exact aw)
abbrev bk:Array Value:=#[.int .i64 0,.int .i64 0,.int .i64 0,.bool false,.bool false,.bool false,.int .i64 0,.int .i64 0,.int .i64 0,.bool false,.bool false,.bool false,.int .i64 0,.int .i64 0,.int .i64 0,.int .i64 0,.int .i64 0,.slice none 0 0,.slice none 0 0,.bool false,.int .i64 0,.int .i64 0,.bool false,.bool false,.bool false,.int .i64 0,.int .i64 0,.bool false,.bool false,.bool false,.slice none 0 0,.slice none 0 0,.int .i64 0]
theorem aV (w:World) (g k:Nat) (cs:Array Value) (h:k≠g):(w.setRow g cs).heap[k]?=w.heap[k]?:=by
 unfold World.setRow;simp [Array.getElem?_modify,Ne.symm h]
theorem az {w:World} {base:Nat} {e T:TypeId} {size:Nat} {v:Value} {n:Nat} {xs:List Value} (h:w.ownsRow base e size v n xs) {X:Nat} {old cs:Array Value} (hX:w.heap[X]?=some (.cells old T)) (hT:T≠e):(w.setRow X cs).ownsRow base e size v n xs :=
 ak h fun g hg=>aV w X g cs fun e=>aq h hX hT (e ▸ hg)
theorem bE {w0 q:World} (hb:Below w0.heap.size w0 q) (cd:Int):EvA w0 (bA cd) (.returned (.agg (aC ag (.slice none 0 0) (.slice none 0 0) (.slice none 0 0) (.slice none 0 0) cd))) q :=
 ⟨_,_,_,_,rfl,World.ownsRow_nil _ _ _ _,World.ownsRow_nil _ _ _ _,World.ownsRow_nil _ _ _ _,World.ownsRow_nil _ _ _ _,Ap.none _ _ _,hb⟩
theorem dU {T:TypeId} {w0 w1:World} {B:Nat} {c:Cx} {s:St} {v1 v2 vs vt:Value} {q:World} (h:Lay T w0 w1 B c s v1 v2 vs vt q):q.rangeAt B 0 (aA s.e v1 v2).toList:=by
 intro j u hu;have hj:=(List.getElem?_eq_some_iff.1 hu).1;rw [Nat.zero_add];refine h.cell (i:=j) ?_;show ((aA s.e v1 v2).toList ++ [.int .i64 c.now,.int .i64 c.cc,.int .i64 c.ci,.string c.cd,c.vh,.int .i64 c.ac,c.va,vs,vt])[j]?=some u
 rw [List.getElem?_append_left hj];exact hu
theorem aG (e:En) (a1 a2 a3 a4:Option Addr) (n1 n2 n3 n4 m1 m2 m3 m4:Nat) (cd:Int):(aC e (.slice a1 n1 m1) (.slice a2 n2 m2) (.slice a3 n3 m3) (.slice a4 n4 m4) cd).all (·.oneCell')=true:=by kernel_rfl
theorem jq (A:List ByteArray) (i:Nat) (hi:i<A.length):(A.take (i+1)).any dH=((A.take i).any dH || dH A[i]):=by
 rw [List.take_succ_eq_append_getElem hi,List.any_append,List.any_cons,List.any_nil,Bool.or_false]
theorem sC (c:Cx) (s:St) (A:List ByteArray) (i:Nat) (hi:i<A.length):(A.take (i+1)).foldl (fun s a=>bv c a s) s=bv c A[i] ((A.take i).foldl (fun s a=>bv c a s) s):=by
 rw [List.take_succ_eq_append_getElem hi,List.foldl_append];rfl
theorem ku {w:World} {base:Nat} {v:Value} {L:List ByteArray} (h:w.ownsRow base 9 1 v L.length (a_ L)) (i:Nat) (hi:i<L.length):∃ g cp,v=.slice (some ⟨g,0,none⟩) L.length cp∧g<w.heap.size∧w.cell? ⟨g,i,none⟩=some (.string L[i]):=by
 rcases h.2 with ⟨_,h0⟩ | ⟨g,cap,cur,hv,_,hg,_,_,_,ht⟩
 ·omega
 ·refine ⟨g,cap,hv,(ge.1 hg).1,?_⟩;rw [cr hg,← Array.getElem?_toList];have e:=iK L i L[i] (List.getElem?_eq_getElem hi);rw [← ht,List.getElem?_take,if_pos (by omega)] at e;exact e
def jk (a g:Nat) (p c d:Bool) (k:Int) (n:Nat):Int :=
 if k=1 then gc (al 64 300 n) 3 else if k=2 then gc (((n ||| a:Nat):Int) == (n:Int)) 3 else if k=5 then gc ((n:Int) != 0 && (n:Int) != (g:Int)) 3 else if k=7 then gc p 4 else if k=8 then gc c 4 else gc ((n:Int) == 2 || ((n:Int) == 4 && d)) 3
def nI (m a g:Nat) (k:Int) (n:Nat):ByteArray :=
 if k=1 then ji m else if k=2 then cK (n ||| a) else if k=5 then cK (fv g) else if k=7 then ⟨#[]⟩ else if k=8 then ⟨#[]⟩ else fu 2
def one (m a g:Nat) (p c d:Bool) (o:Op.Opt):Int × Op.Opt :=
 if bN o.kind=some o.data.size then (jk a g p c d o.kind (ax o.data.data.toList),⟨o.kind,if jk a g p c d o.kind (ax o.data.data.toList) == 3 then nI m a g o.kind (ax o.data.data.toList) else o.data⟩) else (4,o)
def cQ (k:Int) (l:List Op.Opt):Bool:=l.any fun x=>x.kind == k
def gB (m a g:Nat) (p c d:Bool) (l:List Op.Opt) (o:Op.Opt):Int × Op.Opt:=if cQ o.kind l=true then (4,o) else one m a g p c d o
def eO (m a g:Nat) (p c d:Bool) (l:List Op.Opt) (i:Nat):Int × Op.Opt:=match l[i]? with
 | some o=>gB m a g p c d (l.take i) o
 | none=>(4,⟨0,⟨#[]⟩⟩)
def dL (m a g:Nat) (p c d:Bool) (l:List Op.Opt) (n:Nat):List (Int × Op.Opt):=(List.range n).map (eO m a g p c d l)
theorem fw (m a g:Nat) (p c d:Bool) (l:List Op.Opt) (n:Nat):dL m a g p c d l (n+1)=dL m a g p c d l n ++ [eO m a g p c d l n]:=by
 unfold dL;rw [List.range_succ,List.map_append];rfl
theorem eq (m a g:Nat) (p c d:Bool) (l:List Op.Opt) (n:Nat):(dL m a g p c d l n).length=n:=by simp [dL]
theorem gC (m a g:Nat) (p c d:Bool) (l:List Op.Opt) (i:Nat) (h:i<l.length):eO m a g p c d l i=gB m a g p c d (l.take i) l[i]:=by
 unfold eO;rw [List.getElem?_eq_getElem h]
def dx (l:List (Int × Op.Opt)):List Value:=l.flatMap fun v=>[.int .i64 v.1,.int .i64 v.2.kind,.string v.2.data]
theorem mJ (l:List (Int × Op.Opt)):(dx l).length=l.length*3:=by
 induction l with
 | nil=>rfl
 | cons f fs ih=>simp [dx] at ih ⊢;omega
theorem jE (l r:List (Int × Op.Opt)):dx (l ++ r)=dx l ++ dx r:=by simp [dx]
theorem mK (l:List (Int × Op.Opt)) (i:Nat) (v:Int × Op.Opt) (h:l[i]?=some v):(dx l)[i*3]?=some (.int .i64 v.1)∧(dx l)[i*3+1]?=some (.int .i64 v.2.kind)∧(dx l)[i*3+2]?=some (.string v.2.data):=by
 induction l generalizing i with
 | nil=>simp at h
 | cons d fs ih =>
  cases i with
  | zero =>
   simp at h;subst h;exact ⟨rfl,rfl,rfl⟩
  | succ i =>
   have:=ih i (by simpa using h)
   have e:dx (d :: fs)=.int .i64 d.1 :: .int .i64 d.2.kind :: .string d.2.data :: dx fs:=rfl;rw [e,show (i+1)*3=i*3+3 by omega];exact this
theorem xN (m a g:Nat) (p c d:Bool) (ha:a<4294967296) (hg:g<4294967296) (k:Int) :
  (∃ s f f2 f3 f4 f5 j bt,bN k=some s∧JudR m a g p c d k s f f2 f3 f4 f5 j (jk a g p c d k) bt (nI m a g k))∨(bN k=none∧Instr.findNow (.int .i64) (.int .i64 k) cI.toList 0=some none):=by
 by_cases h1:k=1
 ·subst h1;exact Or.inl ⟨2,_,_,_,_,_,_,fun _=>m,rfl,⟨rfl,bM (by kernel_rfl),fun n v _=>uE m a g p c d n v,fun n v=>wt m v⟩⟩
 by_cases h2:k=2
 ·subst h2;exact Or.inl ⟨4,_,_,_,_,_,_,fun n=>n ||| a,rfl,⟨rfl,bM (by kernel_rfl),fun n v hn=>uF m a g p c d n v ha hn,fun n v=>pL (n ||| a) v⟩⟩
 by_cases h5:k=5
 ·subst h5;exact Or.inl ⟨4,_,_,_,_,_,_,fun _=>fv g,rfl,⟨rfl,bM (by kernel_rfl),fun n v _=>uG m a g p c d n v hg,fun n v=>pL (fv g) v⟩⟩
 by_cases h7:k=7
 ·subst h7;exact Or.inl ⟨0,_,_,_,_,_,_,fun _=>0,rfl,⟨rfl,bM (by kernel_rfl),fun n v _=>uH m a g p c d n v,fun n v=>se 0 v⟩⟩
 by_cases h8:k=8
 ·subst h8;exact Or.inl ⟨0,_,_,_,_,_,_,fun _=>0,rfl,⟨rfl,bM (by kernel_rfl),fun n v _=>uI m a g p c d n v,fun n v=>se 0 v⟩⟩
 by_cases h9:k=9
 ·subst h9;exact Or.inl ⟨1,_,_,_,_,_,_,fun _=>2,rfl,⟨rfl,bM (by kernel_rfl),fun n v _=>uJ m a g p c d n v,fun n v=>wn 2 v⟩⟩
 ·refine Or.inr ⟨by simp [bN,h1,h2,h5,h7,h8,h9],?_⟩;have e1:(k == 1)=false:=beq_eq_false_iff_ne.2 h1;have e2:(k == 2)=false:=beq_eq_false_iff_ne.2 h2;have e5:(k == 5)=false:=beq_eq_false_iff_ne.2 h5;have e7:(k == 7)=false:=beq_eq_false_iff_ne.2 h7;have e8:(k == 8)=false:=beq_eq_false_iff_ne.2 h8;have e9:(k == 9)=false:=beq_eq_false_iff_ne.2 h9;simp [Instr.findNow,cI,Instr.sameNow,e1,e2,e5,e7,e8,e9]
structure VoS (w:World) (cB M A G:Nat) (C ws cur:Array Value) (q:World):Prop where
 c:q.heap[cB]?=some (.cells C 35)
 m:q.heap[M]?=some (.map cI 6)
 a:q.heap[A]?=some (.cells ws 332)
 g:q.heap[G]?=some (.cells cur 331)
 b:Below w.heap.size w q
theorem VoS.step {w:World} {cB M A G:Nat} {C ws cur:Array Value} {q q':World} (h:VoS w cB M A G C ws cur q) (hb:Below q.heap.size q q'):VoS w cB M A G C ws cur q' :=
 ⟨(hb.block _ (ge.1 h.c).1).trans h.c,(hb.block _ (ge.1 h.m).1).trans h.m,(hb.block _ (ge.1 h.a).1).trans h.a,(hb.block _ (ge.1 h.g).1).trans h.g,h.b.trans (hb.mono h.b.size)⟩
theorem VoS.putG {w:World} {cB M A G:Nat} {C ws cur:Array Value} {q:World} (h:VoS w cB M A G C ws cur q) (n1:cB≠G) (n2:M≠G) (n3:A≠G) (n4:w.heap.size≤G) (i0 i1 i2:Nat) (x0 x1 x2:Value) :
  VoS w cB M A G C ws (((cur.setIfInBounds i0 x0).setIfInBounds i1 x1).setIfInBounds i2 x2) (((q.setCell ⟨G,i0,none⟩ x0).setCell ⟨G,i1,none⟩ x1).setCell ⟨G,i2,none⟩ x2):=by
 refine ⟨?_,?_,?_,zH _ _ _ _ _ _ (zH _ _ _ _ _ _ (zH _ _ _ _ _ _ h.g)),((h.b.setCell (p:=⟨G,i0,none⟩) n4 _).setCell (p:=⟨G,i1,none⟩) n4 _).setCell (p:=⟨G,i2,none⟩) n4 _⟩
 ·rw [Below.heap_setCell _ _ _ _ n1,Below.heap_setCell _ _ _ _ n1,Below.heap_setCell _ _ _ _ n1];exact h.c
 ·rw [Below.heap_setCell _ _ _ _ n2,Below.heap_setCell _ _ _ _ n2,Below.heap_setCell _ _ _ _ n2];exact h.m
 ·rw [Below.heap_setCell _ _ _ _ n3,Below.heap_setCell _ _ _ _ n3,Below.heap_setCell _ _ _ _ n3];exact h.a
theorem VoS.putA {w:World} {cB M A G:Nat} {C ws cur:Array Value} {q:World} (h:VoS w cB M A G C ws cur q) (n1:cB≠A) (n2:M≠A) (n3:G≠A) (n4:w.heap.size≤A) (i:Nat) (x:Value) :
  VoS w cB M A G C (ws.setIfInBounds i x) cur (q.setCell ⟨A,i,none⟩ x):=by
 refine ⟨?_,?_,zH _ _ _ _ _ _ h.a,?_,h.b.setCell (p:=⟨A,i,none⟩) n4 _⟩
 ·rw [Below.heap_setCell _ _ _ _ n1];exact h.c
 ·rw [Below.heap_setCell _ _ _ _ n2];exact h.m
 ·rw [Below.heap_setCell _ _ _ _ n3];exact h.g
def Laid (m a g:Nat) (p c d:Bool) (L:List Op.Opt) (i:Nat) (cur:Array Value):Prop:=cur.size=L.length*3∧∀ j,j<i*3→cur[j]?=(dx (dL m a g p c d L i))[j]?
def Was (L:List Op.Opt) (i:Nat) (ws:Array Value):Prop:=ws.size=256∧∀ k:Nat,k<256→ws[k]?=some (.bool (cQ k (L.take i)))
theorem Laid.put {m a g:Nat} {p c d:Bool} {L:List Op.Opt} {i:Nat} {cur:Array Value} (h:Laid m a g p c d L i cur) (hi:i<L.length) (x:Int) (k:Int) (t:ByteArray) (hv:eO m a g p c d L i=(x,⟨k,t⟩)) :
  Laid m a g p c d L (i+1) (((cur.setIfInBounds (i*3) (.int .i64 x)).setIfInBounds (i*3+1) (.int .i64 k)).setIfInBounds (i*3+2) (.string t)):=by
 obtain ⟨h1,h2⟩:=h;refine ⟨by simp [h1],fun j hj=>?_⟩;have hs:=mJ (dL m a g p c d L i);rw [eq] at hs;rw [fw,hv,jE,Array.getElem?_setIfInBounds,Array.getElem?_setIfInBounds,Array.getElem?_setIfInBounds];by_cases j2:i*3+2=j
 ·subst j2;rw [if_pos rfl,if_pos (by simp [h1];omega),List.getElem?_append_right (by omega),hs,show i*3+2 - i*3=2 by omega];rfl
 ·rw [if_neg j2];by_cases j1:i*3+1=j
  ·subst j1;rw [if_pos rfl,if_pos (by simp [h1];omega),List.getElem?_append_right (by omega),hs,show i*3+1 - i*3=1 by omega];rfl
  ·rw [if_neg j1];by_cases j0:i*3=j
   ·subst j0;rw [if_pos rfl,if_pos (by simp [h1];omega),List.getElem?_append_right (by omega),hs,Nat.sub_self];rfl
   ·rw [if_neg j0,List.getElem?_append_left (by omega)];exact h2 j (by omega)
theorem Was.put {L:List Op.Opt} {i:Nat} {ws:Array Value} (h:Was L i ws) (hi:i<L.length) (k:Nat) (hk:k<256) (hL:L[i].kind=(k:Int)):Was L (i+1) (ws.setIfInBounds k (.bool true)):=by
 obtain ⟨h1,h2⟩:=h;refine ⟨by simp [h1],fun j hj=>?_⟩;rw [Array.getElem?_setIfInBounds,List.take_succ_eq_append_getElem hi];unfold cQ;rw [List.any_append];by_cases e:k=j
 ·subst e;rw [if_pos rfl,if_pos (by omega)];simp [hL]
 ·rw [if_neg e,h2 j hj];have:((k:Int) == (j:Int))=false:=beq_eq_false_iff_ne.2 (by omega)
  simp [cQ,hL,this]
theorem sk:Tryz.zeroCells332=(List.replicate 256 (Value.bool false)).toArray:=by kernel_rfl
theorem pO (L:List Op.Opt):Was L 0 Tryz.zeroCells332:=by
 rw [sk];refine ⟨by rw [List.size_toArray,List.length_replicate],fun k hk=>?_⟩;rw [List.getElem?_toArray,List.getElem?_replicate,if_pos hk];rfl
theorem uL (n:Nat) (hn:n≤20):∃ Mk:Array Value,Mk.size=n*3∧∀ W,(Instr.makeSlice 323 (.int .i64 n) (.int .i64 n)).run prog W=.ok (.slice (some ⟨W.heap.size,0,none⟩) n n) (W.alloc (.cells Mk 331)):=by
 have h:(prog.info? 331).map (fun i=>(i.zero,i.size,i.bytes))=some (some (.agg #[.int .i64 0,.int .i64 0,.string ⟨#[]⟩]),3,32):=by kernel_rfl
 obtain ⟨i,hi,hzz⟩:=Option.map_eq_some_iff.1 h;simp only [Prod.mk.injEq] at hzz;refine ⟨madeCells (Value.agg #[.int .i64 0,.int .i64 0,.string ⟨#[]⟩]).cells (n*3),by rw [size_madeCells],fun W=>?_⟩;have:=run_make (P:=prog) W 323 331 i _ underlying323 hi hzz.1 .i64 .i64 (n:Int) (n:Int) (by omega) (by omega) (by rw [hzz.2.2];omega) (by omega)
 rw [hzz.2.1] at this;simpa using this
def sm (base:Nat) (l:List (Int × Op.Opt)) (v:Value) (q:World):Prop:=∃ G cur,v=.slice (some ⟨G,0,none⟩) l.length l.length∧base≤G∧q.heap[G]?=some (.cells cur 331)∧cur.size=l.length*3∧∀ j,j<l.length*3→cur[j]?=(dx l)[j]?
theorem mL (m a g:Nat) (p c d:Bool) (ha:a<4294967296) (hg:g<4294967296) (k:Nat) (dt:ByteArray) (L:List Op.Opt) (i:Nat) (hv:eO m a g p c d L i=gB m a g p c d (L.take i) ⟨(k:Int),dt⟩) :
  ∃ (x0 x1 x2 x3 x4 x5:Value) (bl:Bool),((∃ s f f2 f3 f4 f5:Nat,x0=.int .i64 s∧x1=cY f∧x2=cY f2∧x3=cY f3∧x4=cY f4∧x5=cY f5)∨(x0=.int .i64 0∧x1=.nilFunc∧x2=.nilFunc∧x3=.nilFunc∧x4=.nilFunc∧x5=.nilFunc))∧(∀ (v:World) (M:Nat),v.heap[M]?=some (.map cI 6)→Calls prog 188 #[.map (some M),.agg #[.int .i64 k,.string dt]] v fun e w'=>e=.returned (.tuple #[.agg #[x0,x1,x2,x3,x4,x5],.bool bl])∧Below v.heap.size v w') ∧
   (bl=false→eO m a g p c d L i=(4,⟨(k:Int),dt⟩))∧(cQ k (L.take i)=true→eO m a g p c d L i=(4,⟨(k:Int),dt⟩)) ∧
   (bl=true→cQ k (L.take i)=false→∃ (x:Int) (t:ByteArray),eO m a g p c d L i=(x,⟨(k:Int),t⟩)∧∀ v,Calls prog 226 #[.agg #[x0,x1,x2,x3,x4,x5],cN m a g p c d,.agg #[.int .i64 k,.string dt]] v fun e w'=>e=.returned (.agg #[.int .i64 x,.int .i64 k,.string t])∧Below v.heap.size v w'):=by
 rw [hv];rcases xN m a g p c d ha hg (k:Int) with ⟨s,f,f2,f3,f4,f5,j,bt,hs,hJ⟩ | ⟨hs,hf⟩
 ·refine ⟨_,_,_,_,_,_,((dt.size:Int) == (s:Int)),Or.inl ⟨s,f,f2,f3,f4,f5,rfl,rfl,rfl,rfl,rfl,rfl⟩,fun v M hM=>gh M k dt s f f2 f3 f4 f5 j v hM hJ.fd,?_,?_,?_⟩
  ·intro hb;have hne:=beq_eq_false_iff_ne.1 hb;unfold gB one;split
   ·rfl
   ·rw [if_neg];dsimp only;rw [hs];intro e;cases e;exact hne rfl
  ·intro hw;unfold gB;rw [if_pos hw]
  ·intro hb hw;have he:dt.size=s:=by have:=eq_of_beq hb;omega
   have h4:=i8 hs;refine ⟨_,_,?_,fun v=>uK m a g p c d k dt s f f2 f3 f4 f5 j _ bt _ v hJ (by omega)⟩;unfold gB one;rw [if_neg (by rw [hw];decide),if_pos (by dsimp only;rw [hs,he])]
 ·refine ⟨_,_,_,_,_,_,false,Or.inr ⟨rfl,rfl,rfl,rfl,rfl,rfl⟩,fun v M hM=>gW M k dt v hM hf,?_,?_,fun hb=>by cases hb⟩
  ·intro _;unfold gB one;split
   ·rfl
   ·rw [if_neg];dsimp only;rw [hs];intro e;cases e
  ·intro hw;unfold gB;rw [if_pos hw]
theorem uM (m a g:Nat) (p c d:Bool) (L:List Op.Opt) (ad:Option Addr) (cp:Nat) (w:World) (ha:a<4294967296) (hg:g<4294967296) (hr:Op.right L=true) (hL:HoldsO w (.slice ad L.length cp) L) :
  Calls prog 221 #[cN m a g p c d,.slice ad L.length cp] w fun e w'=>∃ v,e=.returned v∧sm w.heap.size (dL m a g p c d L L.length) v w'∧Below w.heap.size w w':=by
 have hl20:=Op.right_len hr;obtain ⟨n,hn⟩:∃ n,L.length=n:=⟨_,rfl⟩;rw [hn] at hl20;obtain ⟨Mk,hMs,hmk⟩:=uL n hl20;have HL:Hid (∀ i (hi:i<n),∃ gL,ad=some ⟨gL,0,none⟩∧gL<w.heap.size∧w.cell? ⟨gL,i*2,none⟩=some (.int .i64 (L[i]'(by omega)).kind)∧w.cell? ⟨gL,i*2+1,none⟩=some (.string (L[i]'(by omega)).data)):=by
  refine aa fun i hi=>?_
  rcases hL with ⟨_,_,_,e⟩ | ⟨gL,cp',cur,e,h2,h3,h4⟩
  ·rw [e] at hn;simp at hn;omega
  ·cases e;have q:=bW L i (L[i]'(by omega)) (List.getElem?_eq_getElem (by omega));exact ⟨gL,rfl,(ge.1 h2).1,by rw [cr h2];exact (h4 _ (by omega)).trans q.1,by rw [cr h2];exact (h4 _ (by omega)).trans q.2⟩
 have HK:Hid (∀ i (hi:i<n),∃ k:Nat,(L[i]'(by omega)).kind=(k:Int)∧1≤k∧k≤255∧(L[i]'(by omega)).data.size≤20):=by
  refine aa fun i hi=>?_
  have:=of_decide_eq_true (Op.right_all hr (L[i]'(by omega)) (List.getElem_mem _))
  exact ⟨(L[i]'(by omega)).kind.toNat,by omega,by omega,by omega,this.2.2⟩
 have HJ:=aa fun k dt i hv=>mL m a g p c d ha hg k dt L i hv
 rw [hn];clear hL hr ha hg;go_enter func221,ntmps221
 go_wp2_with fail
 refine (dF _).mono ?_;rintro e w2 ⟨rfl,hm2,hb2⟩;have hs0:(w.alloc (.cells #[.int .i64 m,.int .i64 a,.int .i64 g,.bool p,.bool c,.bool d] 35)).heap.size=w.heap.size+1:=by simp
 rw [hs0] at hm2 hb2;rw [hs0];have hc2:=(hb2.block w.heap.size (by omega)).trans (heap_alloc_last w (.cells #[.int .i64 m,.int .i64 a,.int .i64 g,.bool p,.bool c,.bool d] 35));have hB2:=((zC w.heap.size w).alloc (zD _) (.cells #[.int .i64 m,.int .i64 a,.int .i64 g,.bool p,.bool c,.bool d] 35)).trans (hb2.mono (by omega));have hl2:w.heap.size+1<w2.heap.size:=(ge.1 hm2).1;have HS:Hid (VoS w w.heap.size (w.heap.size+1) w2.heap.size (w2.heap.size+1) #[.int .i64 m,.int .i64 a,.int .i64 g,.bool p,.bool c,.bool d] Tryz.zeroCells332 Mk ((w2.alloc (.cells Tryz.zeroCells332 332)).alloc (.cells Mk 331))):=by
  obtain ⟨e1,e2,e3,e4⟩:=br w2 (.cells Tryz.zeroCells332 332) (.cells Mk 331);exact aa ⟨(e4.block _ (by omega)).trans hc2,(e4.block _ hl2).trans hm2,e2,e3,hB2.trans (e4.mono hB2.size)⟩
 clear hm2 hb2 hs0 hc2 hB2;go_upto_region 4 with fail
 refine aI _ (uh HS) ?_;rintro q0 hq0;have hW0:=pO L;have hL0:Laid m a g p c d L 0 Mk:=⟨by rw [hMs,hn],fun j hj=>by omega⟩;generalize Tryz.zeroCells332=Z at *;generalize w2.heap.size=A at *;have HI:=aa (zA hq0 (zA hW0 hL0));clear HS hmk hMs hq0 hW0 hL0;go_wp2_with fail
 go_loopw [18] (fun y wr=>∃ (i:Nat) (ws cur:Array Value),i≤n∧y=.int .i64 i∧VoS w w.heap.size (w.heap.size+1) A (A+1) #[.int .i64 m,.int .i64 a,.int .i64 g,.bool p,.bool c,.bool d] ws cur wr∧Was L i ws∧Laid m a g p c d L i cur) (fun y _=>n - (intOf y).toNat)
 case atStart=>exact ⟨0,Z,Mk,Nat.zero_le _,rfl,uh HI⟩
 case round =>
  obtain ⟨i,ws,cur,hi,rfl,hV,hW,hD⟩:=hrel;clear HI;by_cases hlt:i<n
  ·have d1:(i:Int)<(n:Int):=by omega
   have hltL:i<L.length:=by omega
   obtain ⟨gL,rfl,hgl,k0,k1⟩:=uh HL i hlt;obtain ⟨k,hk,hk1,hk2,hds⟩:=uh HK i hlt;have HWP:=aa (hW.put hltL k (by omega) hk);have HDP:=aa fun x t hv=>hD.put hltL x (k:Int) t hv
   have HVD:=aa (gC m a g p c d L i hltL);have hwk:=hW.2 k (by omega);obtain ⟨y0,hy0⟩:∃ y0,cur[i*3]?=some y0:=⟨_,Array.getElem?_eq_getElem (by rw [hD.1,hn];omega)⟩;obtain ⟨y1,hy1⟩:∃ y1,cur[i*3+1]?=some y1:=⟨_,Array.getElem?_eq_getElem (by rw [hD.1,hn];omega)⟩;obtain ⟨y2,hy2⟩:∃ y2,cur[i*3+2]?=some y2:=⟨_,Array.getElem?_eq_getElem (by rw [hD.1,hn];omega)⟩;replace k0:=(hV.b.cell (p:=⟨gL,i*2,none⟩) hgl).trans k0;replace k1:=(hV.b.cell (p:=⟨gL,i*2+1,none⟩) hgl).trans k1;rw [hk] at k0;generalize hO:L[i]'(by omega)=o at *;obtain ⟨kd,dt⟩:=o;dsimp only at hk k1 hds;subst hk;have HV:=aa hV;have hlA:A+1<wr.heap.size:=(ge.1 hV.g).1;clear hV hW hD HL HK;go_upto_region 7 with fail
   refine aI (fun q=>VoS w w.heap.size (w.heap.size+1) A (A+1) #[.int .i64 m,.int .i64 a,.int .i64 g,.bool p,.bool c,.bool d] ws cur q∧q.heap[wr.heap.size]?=some (.cells #[.int .i64 k,.string dt] 27))
    ⟨(uh HV).step ((zC _ _).alloc (zD _) _),zF wr _⟩ ?_
   rintro q1 ⟨hV1,hO1⟩;generalize wr.heap.size=N1 at *;have hl1:N1<q1.heap.size:=(ge.1 hO1).1;have HV1:=aa (zA hV1 hO1);obtain ⟨c0,c1,_,_⟩:=cy hO1;clear hV1 hO1 HV k0 k1;obtain ⟨x0,x1,x2,x3,x4,x5,bl,hSh,hRule,hNo,hWas,hYes⟩:=uh HJ k dt i (uh HVD);have HF:=aa (zA hNo (zA hWas hYes));clear hNo hWas hYes HVD HJ;go_cut [10,11] (fun u v wx=>∃ N2,u=.pointer (some ⟨N2,0,none⟩)∧v=.bool bl∧VoS w w.heap.size (w.heap.size+1) A (A+1) #[.int .i64 m,.int .i64 a,.int .i64 g,.bool p,.bool c,.bool d] ws cur wx∧wx.heap[N1]?=some (.cells #[.int .i64 k,.string dt] 27)∧wx.heap[N2]?=some (.cells #[x0,x1,x2,x3,x4,x5] 59))
   case first =>
    rcases hSh with ⟨s,f,f2,f3,f4,f5,rfl,rfl,rfl,rfl,rfl,rfl⟩ | ⟨rfl,rfl,rfl,rfl,rfl,rfl⟩
    all_goals
     go_wp2_with fail
     refine (hRule _ _ (uh HV1).1.m).mono ?_;rintro e w3 ⟨rfl,hb3⟩;have HV3:=aa (zA ((uh HV1).1.step hb3) ((hb3.block N1 hl1).trans (uh HV1).2));have hl3:N1<w3.heap.size:=Nat.lt_of_lt_of_le hl1 hb3.size;clear hb3 HV1 hl1 hRule c0 c1;go_wp2_with fail
     go_meet;exact ⟨_,rfl,rfl,(uh HV3).1.step ((zC _ _).alloc (zD _) _),(zG _ _ _ hl3).trans (uh HV3).2,zF w3 _⟩
   case rest =>
   obtain ⟨N2,hu10,hu11,hV4,hO4,hR4⟩:=hcut;subst hu10 hu11;clear hSh hRule HV1 c0 c1 hl1;have HV4:=aa (zA hV4 (zA hO4 hR4));obtain ⟨c0,c1,_,_⟩:=cy hO4;obtain ⟨r0,r1,r2,r3,r4,r5⟩:=aJ hR4;obtain ⟨b0,b1,b2,b3,b4,b5⟩:=aJ hV4.c;have a0:wc.cell? ⟨A,k,none⟩=some (.bool (cQ k (L.take i))):=by rw [cr hV4.a];exact hwk
   clear hV4 hO4 hR4;have hk3:(k:Int)<256:=by omega
   have hk0:(0:Int)≤(k:Int):=by omega
   generalize hwb:cQ k (L.take i)=wb at *;cases bl
   ·have HVV:=(uh HF).1 rfl;have HD:=aa (uh HDP 4 dt HVV);clear HF HDP HVV;go_wp2_with fail
    refine (iB k dt _ hds).mono ?_;rintro e w5 ⟨rfl,hb5⟩;have h5:=(uh HV4).1.step hb5;have hO5:=(hb5.block N1 (ge.1 (uh HV4).2.1).1).trans (uh HV4).2.1;have g0:w5.cell? ⟨A+1,i*3,none⟩=some y0:=by rw [cr h5.g];exact hy0
    have g1:w5.cell? ⟨A+1,i*3+1,none⟩=some y1:=by rw [cr h5.g];exact hy1
    have g2:w5.cell? ⟨A+1,i*3+2,none⟩=some y2:=by rw [cr h5.g];exact hy2
    have f0:=aX h5.g (i*3);have f1:=aX h5.g (i*3+1);have f2:=aX h5.g (i*3+2);have HV5:=aa (zA h5 hO5);clear h5 hO5 hb5 HV4 c0 c1 r0 r1 r2 r3 r4 r5 b0 b1 b2 b3 b4 b5 a0 hwk hy0 hy1 hy2;go_upto_region 11 with fail
    refine aI (fun q=>VoS w w.heap.size (w.heap.size+1) A (A+1) #[.int .i64 m,.int .i64 a,.int .i64 g,.bool p,.bool c,.bool d] ws (((cur.setIfInBounds (i*3) (.int .i64 4)).setIfInBounds (i*3+1) (.int .i64 k)).setIfInBounds (i*3+2) (.string dt)) q∧q.heap[N1]?=some (.cells #[.int .i64 k,.string dt] 27))
     ⟨(uh HV5).1.putG (by omega) (by omega) (by omega) (by omega) _ _ _ _ _ _,by
      rw [Below.heap_setCell _ _ _ _ (by simp;omega),Below.heap_setCell _ _ _ _ (by simp;omega),Below.heap_setCell _ _ _ _ (by simp;omega)];exact (uh HV5).2⟩ ?_
    rintro q6 ⟨hV6,hO6⟩;obtain ⟨c0,c1,_,_⟩:=cy hO6;obtain ⟨y3,hy3⟩:∃ y3,ws[k]?=some y3:=⟨_,Array.getElem?_eq_getElem (by have:=(uh HWP).1;simp at this;omega)⟩;have a0:q6.cell? ⟨A,k,none⟩=some y3:=by rw [cr hV6.a];exact hy3
    have fa:=aX hV6.a k;have HV6:=aa (hV6.putA (by omega) (by omega) (by omega) (by omega) k (.bool true));clear hV6 hO6 HV5 g0 g1 g2 f0 f1 f2 hy3;go_wp2_with fail
    go_roundw
    case rel=>exact ⟨i+1,_,_,by omega,by go_num,uh HV6,uh HWP,uh HD⟩
    case measure=>simp [intOf];omega
   ·cases wb
    ·obtain ⟨x,t',hv,hC⟩:=(uh HF).2.2 rfl rfl;have HD:=aa (uh HDP x t' hv);have HC:=aa hC;clear HF HDP hv hC;go_wp2_with fail
     refine (uh HC _).mono ?_;rintro e w5 ⟨rfl,hb5⟩;have h5:=(uh HV4).1.step hb5;have hO5:=(hb5.block N1 (ge.1 (uh HV4).2.1).1).trans (uh HV4).2.1;have g0:w5.cell? ⟨A+1,i*3,none⟩=some y0:=by rw [cr h5.g];exact hy0
     have g1:w5.cell? ⟨A+1,i*3+1,none⟩=some y1:=by rw [cr h5.g];exact hy1
     have g2:w5.cell? ⟨A+1,i*3+2,none⟩=some y2:=by rw [cr h5.g];exact hy2
     have f0:=aX h5.g (i*3);have f1:=aX h5.g (i*3+1);have f2:=aX h5.g (i*3+2);have HV5:=aa (zA h5 hO5);clear h5 hO5 hb5 HV4 c0 c1 r0 r1 r2 r3 r4 r5 b0 b1 b2 b3 b4 b5 a0 hwk hy0 hy1 hy2;go_upto_region 11 with fail
     refine aI (fun q=>VoS w w.heap.size (w.heap.size+1) A (A+1) #[.int .i64 m,.int .i64 a,.int .i64 g,.bool p,.bool c,.bool d] ws (((cur.setIfInBounds (i*3) (.int .i64 x)).setIfInBounds (i*3+1) (.int .i64 k)).setIfInBounds (i*3+2) (.string t')) q∧q.heap[N1]?=some (.cells #[.int .i64 k,.string dt] 27))
      ⟨(uh HV5).1.putG (by omega) (by omega) (by omega) (by omega) _ _ _ _ _ _,by
       rw [Below.heap_setCell _ _ _ _ (by simp;omega),Below.heap_setCell _ _ _ _ (by simp;omega),Below.heap_setCell _ _ _ _ (by simp;omega)];exact (uh HV5).2⟩ ?_
     rintro q6 ⟨hV6,hO6⟩;obtain ⟨c0,c1,_,_⟩:=cy hO6;obtain ⟨y3,hy3⟩:∃ y3,ws[k]?=some y3:=⟨_,Array.getElem?_eq_getElem (by have:=(uh HWP).1;simp at this;omega)⟩;have a0:q6.cell? ⟨A,k,none⟩=some y3:=by rw [cr hV6.a];exact hy3
     have fa:=aX hV6.a k;have HV6:=aa (hV6.putA (by omega) (by omega) (by omega) (by omega) k (.bool true));clear hV6 hO6 HV5 g0 g1 g2 f0 f1 f2 hy3;go_wp2_with fail
     go_roundw
     case rel=>exact ⟨i+1,_,_,by omega,by go_num,uh HV6,uh HWP,uh HD⟩
     case measure=>simp [intOf];omega
    ·have HVV:=(uh HF).2.1 rfl;have HD:=aa (uh HDP 4 dt HVV);clear HF HDP HVV;go_wp2_with fail
     refine (iB k dt _ hds).mono ?_;rintro e w5 ⟨rfl,hb5⟩;have h5:=(uh HV4).1.step hb5;have hO5:=(hb5.block N1 (ge.1 (uh HV4).2.1).1).trans (uh HV4).2.1;have g0:w5.cell? ⟨A+1,i*3,none⟩=some y0:=by rw [cr h5.g];exact hy0
     have g1:w5.cell? ⟨A+1,i*3+1,none⟩=some y1:=by rw [cr h5.g];exact hy1
     have g2:w5.cell? ⟨A+1,i*3+2,none⟩=some y2:=by rw [cr h5.g];exact hy2
     have f0:=aX h5.g (i*3);have f1:=aX h5.g (i*3+1);have f2:=aX h5.g (i*3+2);have HV5:=aa (zA h5 hO5);clear h5 hO5 hb5 HV4 c0 c1 r0 r1 r2 r3 r4 r5 b0 b1 b2 b3 b4 b5 a0 hwk hy0 hy1 hy2;go_upto_region 11 with fail
     refine aI (fun q=>VoS w w.heap.size (w.heap.size+1) A (A+1) #[.int .i64 m,.int .i64 a,.int .i64 g,.bool p,.bool c,.bool d] ws (((cur.setIfInBounds (i*3) (.int .i64 4)).setIfInBounds (i*3+1) (.int .i64 k)).setIfInBounds (i*3+2) (.string dt)) q∧q.heap[N1]?=some (.cells #[.int .i64 k,.string dt] 27))
      ⟨(uh HV5).1.putG (by omega) (by omega) (by omega) (by omega) _ _ _ _ _ _,by
       rw [Below.heap_setCell _ _ _ _ (by simp;omega),Below.heap_setCell _ _ _ _ (by simp;omega),Below.heap_setCell _ _ _ _ (by simp;omega)];exact (uh HV5).2⟩ ?_
     rintro q6 ⟨hV6,hO6⟩;obtain ⟨c0,c1,_,_⟩:=cy hO6;obtain ⟨y3,hy3⟩:∃ y3,ws[k]?=some y3:=⟨_,Array.getElem?_eq_getElem (by have:=(uh HWP).1;simp at this;omega)⟩;have a0:q6.cell? ⟨A,k,none⟩=some y3:=by rw [cr hV6.a];exact hy3
     have fa:=aX hV6.a k;have HV6:=aa (hV6.putA (by omega) (by omega) (by omega) (by omega) k (.bool true));clear hV6 hO6 HV5 g0 g1 g2 f0 f1 f2 hy3;go_wp2_with fail
     go_roundw
     case rel=>exact ⟨i+1,_,_,by omega,by go_num,uh HV6,uh HWP,uh HD⟩
     case measure=>simp [intOf];omega
  ·have e:i=n:=by omega
   subst e;have d1:¬ ((i:Int)<(i:Int)):=by omega
   have hlA:=hl2;go_wp2
   go_ret
   exact ⟨_,rfl,⟨A+1,cur,by rw [eq];rfl,by omega,hV.g,by rw [eq,hD.1,hn],fun j hj=>hD.2 j (by rw [eq] at hj;exact hj)⟩,hV.b⟩
def mx (l:List (Int × Op.Opt)):Int:=l.foldl (fun m v=>max m v.1) 2
def fl (x:Int) (l:List (Int × Op.Opt)):List Op.Opt:=(l.filter fun v=>v.1 == x).map fun v=>v.2
theorem sq (l:List (Int × Op.Opt)) (v:Int × Op.Opt):mx (l ++ [v])=max (mx l) v.1:=by unfold mx;rw [List.foldl_append];rfl
theorem iC (x:Int) (l:List (Int × Op.Opt)) (v:Int × Op.Opt):fl x (l ++ [v])=fl x l ++ if v.1 == x then [v.2] else []:=by
 unfold fl;rw [List.filter_append,List.map_append];congr 1
 cases h:(v.1 == x)<;>simp [h]
theorem kl (x:Int) (l:List (Int × Op.Opt)):(fl x l).length≤l.length:=by
 unfold fl;rw [List.length_map];exact List.length_filter_le _ _
theorem uN:(prog.info? 180).map (·.size)=some 2:=by kernel_rfl
theorem dM {W:World} {E:Nat} {x0 x1:Value} (h:W.heap[E]?=some (.cells #[x0,x1] 180)):(loadVar 180 ⟨E,0,none⟩).run prog W=.ok (.agg #[x0,x1]) W :=
 run_loadVar_row (P:=prog) _ _ 180 180 #[x0,x1] (0,0) _ h underlying180 rfl uN
structure AnS (w:World) (x:Int) (v:Value) (q:World):Prop where
 r:q.heap[w.heap.size]?=some (.cells #[.int .i64 0,.slice none 0 0] 180)
 a:q.heap[w.heap.size+1]?=some (.cells #[.int .i64 x,v] 180)
 b:Below w.heap.size w q
theorem AnS.lt {w:World} {x:Int} {v:Value} {q:World} (h:AnS w x v q):w.heap.size+1<q.heap.size:=(ge.1 h.a).1
theorem AnS.step {w:World} {x:Int} {v:Value} {q q':World} {N:Nat} (h:AnS w x v q) (hb:Below N q q') (hN:w.heap.size+1<N):AnS w x v q' :=
 ⟨(hb.block _ (by omega)).trans h.r,(hb.block _ (by omega)).trans h.a,h.b.trans (hb.mono (by omega))⟩
theorem AnS.put0 {w:World} {x:Int} {v:Value} {q:World} (h:AnS w x v q) (y:Int):AnS w y v (q.setCell ⟨w.heap.size+1,0,none⟩ (.int .i64 y)) :=
 ⟨by rw [Below.heap_setCell _ _ _ _ (by simp)];exact h.r,zH _ _ 0 _ _ _ h.a,h.b.setCell (p:=⟨w.heap.size+1,0,none⟩) (Nat.le_succ _) _⟩
theorem AnS.put1 {w:World} {x:Int} {v:Value} {q:World} (h:AnS w x v q) (y:Value):AnS w x y (q.setCell ⟨w.heap.size+1,1,none⟩ y) :=
 ⟨by rw [Below.heap_setCell _ _ _ _ (by simp)];exact h.r,zH _ _ 1 _ _ _ h.a,h.b.setCell (p:=⟨w.heap.size+1,1,none⟩) (Nat.le_succ _) _⟩
theorem oD (V:List (Int × Op.Opt)) (v:Value) (w:World) (hN:V.length≤20) (hv:sm 0 V v w) :
  Calls prog 220 #[v] w fun e w'=>∃ ad cp,e=.returned (.agg #[.int .i64 (mx V),.slice ad (fl (mx V) V).length cp])∧w'.ownsRow w.heap.size 27 2 (.slice ad (fl (mx V) V).length cp) (fl (mx V) V).length (aj (fl (mx V) V))∧Below w.heap.size w w':=by
 obtain ⟨G,cur,rfl,_,hg,hcs,hcu⟩:=hv;have hgl:G<w.heap.size:=(ge.1 hg).1;obtain ⟨n,hn⟩:∃ n,V.length=n:=⟨_,rfl⟩;have HL:Hid (∀ i (hi:i<n) (q:World),Below w.heap.size w q→q.cell? ⟨G,i*3,none⟩=some (.int .i64 (V[i]'(by omega)).1)∧q.cell? ⟨G,i*3+1,none⟩=some (.int .i64 (V[i]'(by omega)).2.kind)∧q.cell? ⟨G,i*3+2,none⟩=some (.string (V[i]'(by omega)).2.data)):=by
  refine aa fun i hi q hb=>?_
  have e:=(hb.block G hgl).trans hg;have h3:=mK V i (V[i]'(by omega)) (List.getElem?_eq_getElem (by omega));exact ⟨by rw [cr e];exact (hcu _ (by omega)).trans h3.1,by rw [cr e];exact (hcu _ (by omega)).trans h3.2.1,by rw [cr e];exact (hcu _ (by omega)).trans h3.2.2⟩
 have HT:Hid (∀ i (hi:i<n),V.take (i+1)=V.take i ++ [V[i]'(by omega)]):=aa fun i hi=>List.take_succ_eq_append_getElem (by omega)
 have HA:Hid (V.take n=V):=aa (by rw [← hn];exact List.take_length);obtain ⟨X,hX⟩:∃ X,mx V=X:=⟨_,rfl⟩;have HX:=aa hX;rw [hn] at hN;rw [hn,hX];clear hX;obtain ⟨hs,q0,q1,hb0⟩:=br w (.cells #[.int .i64 0,.slice none 0 0] 180) (.cells #[.int .i64 2,.slice none 0 0] 180);have HQ:Hid (AnS w 2 (.slice none 0 0) ((w.alloc (.cells #[.int .i64 0,.slice none 0 0] 180)).alloc (.cells #[.int .i64 2,.slice none 0 0] 180))):=aa ⟨q0,q1,hb0⟩;clear hs q0 q1 hb0 hg hcs hcu hgl;go_enter func220,ntmps220
 go_upto_region 2 with fail
 refine aI _ (uh HQ) ?_;clear HQ;rintro q0 hq0;go_wp2_with fail
 go_loopw [11] (fun y wr=>∃ (i:Nat),i≤n∧y=.int .i64 i∧AnS w (mx (V.take i)) (.slice none 0 0) wr) (fun y _=>n - (intOf y).toNat)
 case atStart=>exact ⟨0,Nat.zero_le _,rfl,hq0⟩
 case round =>
  obtain ⟨i,hi,rfl,hS⟩:=hrel;clear hq0;by_cases hlt:i<n
  ·have d1:(i:Int)<(n:Int):=by omega
   obtain ⟨k0,k1,k2⟩:=uh HL i hlt wr hS.b;have HM:=aa ((congrArg mx (uh HT i hlt)).trans (sq _ _));generalize V[i]'(by omega)=o at *;obtain ⟨x,kd,dt⟩:=o;dsimp only at k0 k1 k2;go_upto_region 5 with fail
   refine aI (fun q=>AnS w (mx (V.take i)) (.slice none 0 0) q∧q.heap[wr.heap.size]?=some (.cells #[.int .i64 x,.int .i64 kd,.string dt] 331))
    ⟨hS.step ((zC _ _).alloc (zD _) _) hS.lt,zF wr _⟩ ?_
   rintro q1 ⟨hS1,hv1⟩;generalize wr.heap.size=N1 at *;obtain ⟨a0,a1,f0,f1⟩:=cy hS1.a;obtain ⟨v0,v1,v2,_,_,_⟩:=jj hv1;have HS1:=aa hS1;clear hS hS1 hv1 k0 k1 k2;generalize hm:mx (V.take i)=y at *;go_wp2_with fail
   all_goals
    go_roundw
    case rel =>
     refine ⟨i+1,by omega,by go_num,?_⟩;rw [uh HM];dsimp only;exact (uh HS1).put0 _
    case measure=>simp [intOf];omega
  ·have e:i=n:=by omega
   subst e;have d1:¬ ((i:Int)<(i:Int)):=by omega
   rw [uh HA,uh HX] at hS;go_wp2_with fail
   go_loopw [24] (fun y wq=>∃ (j:Nat) (ad:Option Addr) (cp:Nat),j≤i∧y=.int .i64 j∧AnS w X (.slice ad (fl X (V.take j)).length cp) wq∧wq.ownsRow (w.heap.size+1+1) 27 2 (.slice ad (fl X (V.take j)).length cp) (fl X (V.take j)).length (aj (fl X (V.take j)))) (fun y _=>i - (intOf y).toNat)
   case atStart=>exact ⟨0,none,0,Nat.zero_le _,rfl,hS,⟨rfl,Or.inl ⟨rfl,rfl⟩⟩⟩
   case round =>
    obtain ⟨j,ad,cp,hj,rfl,hQ,ho⟩:=hrel;clear hS;by_cases hlj:j<i
    ·have d2:(j:Int)<(i:Int):=by omega
     obtain ⟨k0,k1,k2⟩:=uh HL j hlj wr hQ.b;have HM:=aa ((congrArg (fl X) (uh HT j hlj)).trans (iC X _ _));have hln:(fl X (V.take j)).length≤20:=zE (kl _ _) (by rw [List.length_take];omega);generalize V[j]'(by omega)=o at *;obtain ⟨x,kd,dt⟩:=o;dsimp only at k0 k1 k2;generalize fl X (V.take j)=F at *;have hwl:=hQ.lt;go_upto_region 10 with fail
     refine aI (fun q=>AnS w X (.slice ad F.length cp) q∧q.heap[wr.heap.size]?=some (.cells #[.int .i64 x,.int .i64 kd,.string dt] 331)∧q.ownsRow (w.heap.size+1+1) 27 2 (.slice ad F.length cp) F.length (aj F))
      ⟨hQ.step ((zC _ _).alloc (zD _) _) hQ.lt,zF wr _,ho.alloc _⟩ ?_
     rintro q1 ⟨hS1,hv1,ho1⟩;generalize wr.heap.size=N1 at *;obtain ⟨a0,a1,f0,f1⟩:=cy hS1.a;obtain ⟨v0,v1,v2,_,_,_⟩:=jj hv1;have hs1:=hS1.lt;have HS1:=aa (zA hS1 ho1);clear hQ hS1 hv1 k0 k1 k2 ho ho1;cases hx:(x == X)
     ·rw [hx] at HM;go_wp2_with fail
      go_roundw
      case rel =>
       refine ⟨j+1,ad,cp,by omega,by go_num,?_,?_⟩
       ·rw [uh HM,if_neg (by decide),List.append_nil];exact (uh HS1).1
       ·rw [uh HM,if_neg (by decide),List.append_nil];exact (uh HS1).2
      case measure=>simp [intOf];omega
     ·rw [hx] at HM
      go_wp2_with (first
       | (at_builtin;refine cD rfl _ _ rfl (w.heap.size+1+1) (.slice ad F.length cp) F F.length rfl rfl (uh HS1).2 kd dt rfl (by omega) hs1 ?_;rintro v6 w6 ho6 hg6;obtain ⟨a6,c6,rfl⟩:=af ho6
          have hb6:Below (w.heap.size+1+1) q1 w6:=((zC _ _).alloc (by omega) _).grown hg6 (by simp;omega) (fun q hq=>(World.ownsRow.lt (uh HS1).2 q hq).1);have hS6:=(uh HS1).1.step hb6 (Nat.lt_succ_self _);obtain ⟨a0,a1,f0,f1⟩:=cy hS6.a;have HS6:=aa (zA hS6 ho6);clear hS6 ho6 hg6 hb6))
      go_roundw
      case rel =>
       have hl1:F.length+1=(F ++ [Op.Opt.mk kd dt]).length:=by rw [List.length_append];rfl
       refine ⟨j+1,a6,c6,by omega,by go_num,?_,?_⟩
       ·rw [uh HM,if_pos rfl,← hl1];exact (uh HS6).1.put1 _
       ·rw [uh HM,if_pos rfl,← hl1];exact aY (uh HS6).2 fun q hq _=>Below.heap_setCell _ _ _ _ (by simp;omega)
      case measure=>simp [intOf];omega
    ·have e:j=i:=by omega
     subst e;have d2:¬ ((j:Int)<(j:Int)):=by omega
     rw [uh HA] at hQ ho;obtain ⟨a0,a1,_,_⟩:=cy hQ.a;obtain ⟨r0,r1,f0,f1⟩:=cy hQ.r;have HQ:=aa hQ;have HO:=aa ho;clear hQ ho;go_wp2
     refine bodyPost_ret (v:=.agg #[.int .i64 X,.slice ad (fl X V).length cp]) (by simp [results,results220,asAddr,dM (aM (uh HQ).r (.int .i64 X) (.slice ad (fl X V).length cp))]) rfl ⟨ad,cp,rfl,?_,?_⟩
     ·refine dy (aY (uh HO) fun q hq _=>?_) (by omega);rw [Below.heap_setCell _ _ _ _ (by simp;omega),Below.heap_setCell _ _ _ _ (by simp;omega)]
     ·exact ((uh HQ).b.setCell (p:=⟨w.heap.size,0,none⟩) (zD _) _).setCell (p:=⟨w.heap.size,1,none⟩) (zD _) _
def b_ (m a g:Nat) (p c d:Bool) (L:List Op.Opt):List (Int × Op.Opt):=dL m a g p c d L L.length
theorem pP {m a g:Nat} (h:aK m a g=true):a<4294967296∧g<4294967296:=by
 simp only [aK,al,Bool.and_eq_true,decide_eq_true_eq] at h;omega
theorem oE (m a g:Int) (p c d:Bool) (L:List Op.Opt) (v:Value) (w:World) (hm:L.length≤maxLen) (hL:HoldsO w v L) (h:aK m a g=false∨Op.right L=false) :
  Calls prog 211 #[cN m a g p c d,v] w fun e w'=>e=.returned (.agg #[.int .i64 0,.slice none 0 0])∧Below w.heap.size w w':=by
 have C1:=aa fun q=>dm m a g p c d q
 obtain ⟨hs,q0,q1,hb0⟩:=br w (.cells #[.int .i64 m,.int .i64 a,.int .i64 g,.bool p,.bool c,.bool d] 35) (.cells #[.int .i64 0,.slice none 0 0] 180);have HQ:=aa (zA hs (zA q0 (zA q1 hb0)));have C2:=aa fun q (hq:Below w.heap.size w q)=>cq v L q hm (hL.below hq rfl)
 obtain ⟨ad,cp,rfl⟩:=hL.form;generalize L.length=n at *;clear hs q0 q1 hb0 hL;by_cases hc:aK m a g=true
 ·have hr:Op.right L=false:=by
   rcases h with h | h
   ·rw [hc] at h;cases h
   ·exact h
  rw [hc] at C1;rw [hr] at C2;go_enter func211,ntmps211
  go_wp2_with fail
  refine (uh C1 _).mono ?_;rintro e w1 ⟨rfl,hb1⟩;have hB1:=(uh HQ).2.2.2.trans (hb1.mono (by rw [(uh HQ).1];omega));have hr1:=(hb1.block (w.heap.size+1) (by rw [(uh HQ).1];omega)).trans (uh HQ).2.2.1;have H1:=aa (zA hB1 hr1);clear hB1 hr1 hb1 HQ;go_wp2_with fail
  refine (uh C2 _ (uh H1).1).mono ?_;rintro e w2 ⟨rfl,hb2⟩;have hB2:=(uh H1).1.trans (hb2.mono (uh H1).1.size);have hr2:=(hb2.block (w.heap.size+1) (ge.1 (uh H1).2).1).trans (uh H1).2;obtain ⟨c0,c1,f0,f1⟩:=cy hr2;have H2:=aa (zA hB2 hr2);clear hB2 hr2 hb2 H1;go_wp2
  refine bodyPost_ret (v:=.agg #[.int .i64 0,.slice none 0 0]) (by simp [results,results211,asAddr,dM (aM (uh H2).2 (.int .i64 0) (.slice none 0 0))]) rfl ⟨rfl,?_⟩;exact ((uh H2).1.setCell (p:=⟨w.heap.size+1,0,none⟩) (Nat.le_succ _) _).setCell (p:=⟨w.heap.size+1,1,none⟩) (Nat.le_succ _) _
 ·rw [Bool.not_eq_true] at hc;rw [hc] at C1;clear C2;go_enter func211,ntmps211
  go_wp2_with fail
  refine (uh C1 _).mono ?_;rintro e w1 ⟨rfl,hb1⟩;have hB2:=(uh HQ).2.2.2.trans (hb1.mono (by rw [(uh HQ).1];omega));have hr2:=(hb1.block (w.heap.size+1) (by rw [(uh HQ).1];omega)).trans (uh HQ).2.2.1;obtain ⟨c0,c1,f0,f1⟩:=cy hr2;have H2:=aa (zA hB2 hr2);clear hB2 hr2 hb1 HQ;go_wp2
  refine bodyPost_ret (v:=.agg #[.int .i64 0,.slice none 0 0]) (by simp [results,results211,asAddr,dM (aM (uh H2).2 (.int .i64 0) (.slice none 0 0))]) rfl ⟨rfl,?_⟩;exact ((uh H2).1.setCell (p:=⟨w.heap.size+1,0,none⟩) (Nat.le_succ _) _).setCell (p:=⟨w.heap.size+1,1,none⟩) (Nat.le_succ _) _
theorem mN (m a g:Nat) (p c d:Bool) (L:List Op.Opt) (v:Value) (w:World) (hL:HoldsO w v L) (hc:aK m a g=true) (hr:Op.right L=true) :
  Calls prog 211 #[cN m a g p c d,v] w fun e w'=>∃ ad cp,e=.returned (.agg #[.int .i64 (mx (b_ m a g p c d L)),.slice ad (fl (mx (b_ m a g p c d L)) (b_ m a g p c d L)).length cp])∧w'.ownsRow w.heap.size 27 2 (.slice ad (fl (mx (b_ m a g p c d L)) (b_ m a g p c d L)).length cp) (fl (mx (b_ m a g p c d L)) (b_ m a g p c d L)).length (aj (fl (mx (b_ m a g p c d L)) (b_ m a g p c d L)))∧Below w.heap.size w w':=by
 have hl20:=Op.right_len hr;have hm:L.length≤maxLen:=by unfold maxLen;omega
 obtain ⟨ha,hg⟩:=pP hc;have C1:=aa fun q=>dm m a g p c d q
 obtain ⟨hs,q0,q1,hb0⟩:=br w (.cells #[.int .i64 m,.int .i64 a,.int .i64 g,.bool p,.bool c,.bool d] 35) (.cells #[.int .i64 0,.slice none 0 0] 180);have HQ:=aa (zA hs (zA q0 (zA q1 hb0)));have C2:=aa fun q (hq:Below w.heap.size w q)=>cq v L q hm (hL.below hq rfl)
 obtain ⟨ad,cp,rfl⟩:=hL.form;have C3:=aa fun q (hq:Below w.heap.size w q)=>uM m a g p c d L ad cp q ha hg hr (hL.below hq rfl)
 have hVl:(b_ m a g p c d L).length=L.length:=eq _ _ _ _ _ _ _ _;change Hid (∀ q,Below w.heap.size w q→Calls _ _ _ q fun e w'=>∃ v,e=.returned v∧sm q.heap.size (b_ m a g p c d L) v w'∧Below q.heap.size q w') at C3
 generalize b_ m a g p c d L=V at *;have C4:=aa fun v q hv=>oD V v q (by omega) hv
 clear hVl;rw [hc] at C1;rw [hr] at C2;generalize L.length=n at *;generalize mx V=X at *;generalize fl X V=F at *;clear hs q0 q1 hb0 hL;go_enter func211,ntmps211
 go_wp2_with fail
 refine (uh C1 _).mono ?_;rintro e w1 ⟨rfl,hb1⟩;have hB1:=(uh HQ).2.2.2.trans (hb1.mono (by rw [(uh HQ).1];omega));have hr1:=(hb1.block (w.heap.size+1) (by rw [(uh HQ).1];omega)).trans (uh HQ).2.2.1;have hc1:=(hb1.block w.heap.size (by rw [(uh HQ).1];omega)).trans (uh HQ).2.1;have H1:=aa (zA hB1 (zA hr1 hc1));clear hB1 hr1 hb1 HQ hc1 C1;go_wp2_with fail
 refine (uh C2 _ (uh H1).1).mono ?_;rintro e w2 ⟨rfl,hb2⟩;have hB2:=(uh H1).1.trans (hb2.mono (uh H1).1.size);have hr2:=(hb2.block (w.heap.size+1) (ge.1 (uh H1).2.1).1).trans (uh H1).2.1;have hc2:=(hb2.block w.heap.size (ge.1 (uh H1).2.2).1).trans (uh H1).2.2;obtain ⟨b0,b1,b2,b3,b4,b5⟩:=aJ hc2;have H2:=aa (zA hB2 hr2);clear hB2 hr2 hb2 H1 hc2 C2;go_wp2_with fail
 refine (uh C3 _ (uh H2).1).mono ?_;rintro e w3 ⟨v3,rfl,hv3,hb3⟩;have hB3:=(uh H2).1.trans (hb3.mono (uh H2).1.size);have hr3:=(hb3.block (w.heap.size+1) (ge.1 (uh H2).2).1).trans (uh H2).2;have H3:=aa (zA hB3 hr3);have HV3:Hid (sm 0 V v3 w3):=aa (by obtain ⟨G,cur,e1,e2,e3⟩:=hv3;exact ⟨G,cur,e1,Nat.zero_le _,e3⟩);obtain ⟨G,cur,rfl,_,_⟩:=hv3;clear hB3 hr3 hb3 H2 C3 b0 b1 b2 b3 b4 b5;go_wp2_with fail
 refine (uh C4 _ _ (uh HV3)).mono ?_;rintro e w4 ⟨ad4,cp4,rfl,ho4,hb4⟩;have hB4:=(uh H3).1.trans (hb4.mono (uh H3).1.size);have hl3:w.heap.size+1<w3.heap.size:=(ge.1 (uh H3).2).1;have hr4:=(hb4.block (w.heap.size+1) hl3).trans (uh H3).2;obtain ⟨c0,c1,f0,f1⟩:=cy hr4;have H4:=aa (zA hB4 (zA hr4 ho4));clear hB4 hr4 hb4 H3 ho4 C4 HV3;go_wp2
 refine bodyPost_ret (v:=.agg #[.int .i64 X,.slice ad4 F.length cp4]) (by simp [results,results211,asAddr,dM (aM (uh H4).2.1 (.int .i64 X) (.slice ad4 F.length cp4))]) rfl ⟨ad4,cp4,rfl,?_,?_⟩
 ·refine dy (aY (uh H4).2.2 fun q hq _=>?_) (by omega);rw [Below.heap_setCell _ _ _ _ (by simp;omega),Below.heap_setCell _ _ _ _ (by simp;omega)]
 ·exact ((uh H4).1.setCell (p:=⟨w.heap.size+1,0,none⟩) (Nat.le_succ _) _).setCell (p:=⟨w.heap.size+1,1,none⟩) (Nat.le_succ _) _
abbrev kd (o:Op.Opt):Int × Nat:=(o.kind,o.data.size)
theorem oF {m a g:Nat} {o:Op.Opt} (n:Nat) (h:bN o.kind=some o.data.size):(nI m a g o.kind n).size=o.data.size:=by
 unfold bN at h;unfold nI;by_cases h1:o.kind=1
 ·rw [if_pos h1] at h ⊢;injection h
 rw [if_neg h1] at h ⊢;by_cases h2:o.kind=2
 ·rw [if_pos h2] at h ⊢;injection h
 rw [if_neg h2] at h ⊢;by_cases h5:o.kind=5
 ·rw [if_pos h5] at h ⊢;injection h
 rw [if_neg h5] at h ⊢;by_cases h7:o.kind=7
 ·rw [if_pos h7] at h ⊢;injection h
 rw [if_neg h7] at h ⊢;by_cases h8:o.kind=8
 ·rw [if_pos h8] at h ⊢;injection h
 rw [if_neg h8] at h ⊢;by_cases h9:o.kind=9
 ·rw [if_pos h9] at h;injection h
 rw [if_neg h9] at h;cases h
theorem uO (m a g:Nat) (p c d:Bool) (o:Op.Opt):kd (one m a g p c d o).2=kd o:=by
 unfold one;split
 ·next h =>
  show (o.kind,ByteArray.size (if _ then _ else _))=_
  split
  ·rw [oF _ h]
  ·rfl
 ·rfl
theorem sr (m a g:Nat) (p c d:Bool) (l:List Op.Opt) (o:Op.Opt):kd (gB m a g p c d l o).2=kd o:=by
 unfold gB;split
 ·rfl
 ·exact uO _ _ _ _ _ _ _
theorem uP (m a g:Nat) (p c d:Bool) (L:List Op.Opt) (n:Nat) (hn:n≤L.length):(dL m a g p c d L n).map (fun v=>kd v.2)=(L.take n).map kd:=by
 induction n with
 | zero=>rfl
 | succ n ih =>
  rw [fw,List.map_append,ih (by omega),List.take_succ_eq_append_getElem (by omega),List.map_append,gC _ _ _ _ _ _ _ _ (by omega)];show _ ++ [kd _]=_ ++ [kd _]
  rw [sr]
theorem nJ (m a g:Nat) (p c d:Bool) (L:List Op.Opt):(b_ m a g p c d L).map (fun v=>kd v.2)=L.map kd:=by
 have h:=uP m a g p c d L L.length (zD _);rw [List.take_length] at h;exact h
theorem pQ (F:List Op.Opt):(Op.bytes F).length=((F.map kd).map fun x=>x.2+2).sum:=by
 induction F with
 | nil=>rfl
 | cons o F ih =>
  have e1:(Op.one o).length=2+o.data.size:=by unfold Op.one;rw [List.length_append];show 2+o.data.data.toList.length=_;rfl
  rw [Op.bytes_cons,List.length_append,ih,e1];simp;omega
theorem tG (F:List Op.Opt):F.all Op.ok=(F.map kd).all fun x=>decide (1≤x.1∧x.1≤255∧x.2≤20):=by
 rw [List.all_map];rfl
theorem su {l m:List (Int × Nat)} (h:l.Sublist m):(l.map fun x=>x.2+2).sum≤(m.map fun x=>x.2+2).sum:=by
 induction h with
 | slnil=>exact zD _
 | cons a _ ih=>simp only [List.map_cons,List.sum_cons];omega
 | cons_cons a _ ih=>simp only [List.map_cons,List.sum_cons];omega
theorem lC {F G:List Op.Opt} (h:(F.map kd).Sublist (G.map kd)) (hG:cC G=true):cC F=true:=by
 unfold cC Op.right at hG ⊢;simp only [Bool.and_eq_true,decide_eq_true_eq] at hG ⊢;obtain ⟨⟨h1,h2⟩,h3⟩:=hG;rw [pQ] at h3;rw [tG] at h2;have hl:=h.length_le;rw [List.length_map,List.length_map] at hl;refine ⟨⟨by omega,?_⟩,?_⟩
 ·rw [tG];exact List.all_eq_true.2 fun x hx=>List.all_eq_true.1 h2 x (h.subset hx)
 ·rw [pQ];exact zE (su h) h3
theorem pR (x:Int) (V:List (Int × Op.Opt)):((fl x V).map kd).Sublist (V.map fun v=>kd v.2):=by
 unfold fl;rw [List.map_map];exact List.filter_sublist.map _
theorem sx (m a g:Nat) (p c d:Bool) {L:List Op.Opt} (h:cC L=true) (x:Int):cC (fl x (b_ m a g p c d L))=true:=by
 refine lC ?_ h;have:=pR x (b_ m a g p c d L)
 rw [nJ] at this;exact this
def gX (F A:List Op.Opt):List Op.Opt:=F.filter fun o=>A.any fun x=>x.kind == o.kind
theorem sy {F:List Op.Opt} (h:cC F=true) (A:List Op.Opt):cC (gX F A)=true:=lC (List.filter_sublist.map _) h
theorem oG (l:List (Int × Op.Opt)) (m:Int):m≤l.foldl (fun m v=>max m v.1) m∧∀ v ∈ l,v.1≤l.foldl (fun m v=>max m v.1) m:=by
 induction l generalizing m with
 | nil=>exact ⟨Int.le_refl _,fun v hv=>by simp at hv⟩
 | cons a l ih =>
  obtain ⟨h1,h2⟩:=ih (max m a.1);refine ⟨by simp only [List.foldl_cons];omega,fun v hv=>?_⟩;rcases List.mem_cons.1 hv with rfl | hv
  ·simp only [List.foldl_cons];omega
  ·exact h2 v hv
end Go.Proofs.YtjebigodbnefiaaGreatDoor
namespace Go.Proofs.YtjebigodbnefiaaGreatDoor
open Go.Proofs.Tryz
end Go.Proofs.YtjebigodbnefiaaGreatDoor
namespace Go.Proofs.YtjebigodbnefiaaGreatDoor
open Go.RowKit Go.Proofs.Tryz
def Df (o1 o2:Option Nat):Prop:=∀ g,o1=some g→o2≠some g
theorem Df.symm {o1 o2:Option Nat} (h:Df o1 o2):Df o2 o1:=fun g e1 e2=>h g e2 e1
theorem But.trans {w w' w'':World} {o:Option Nat} (h:But o w w') (k:But o w' w''):But o w w'' :=
 ⟨k.os.trans h.os,k.tape.trans h.tape,k.output.trans h.output,zE h.size k.size,fun b hb hne=>(k.block b (Nat.lt_of_lt_of_le hb h.size) hne).trans (h.block b hb hne)⟩
theorem But.nb {w w':World} {v:Value} {n:Nat} (h:But v.ownBlock w w') (h0:n=0→Below w.heap.size w w'):But (nb n v) w w':=by
 by_cases hn:n=0
 ·subst hn;rw [r6];exact But.of_below (h0 rfl)
 ·rw [dC hn];exact h
theorem HoldsO.keep {w w':World} {v:Value} {F:List Op.Opt} {o:Option Nat} (h:HoldsO w v F) (hb:But o w w') (hd:Df (nb F.length v) o):HoldsO w' v F:=by
 rcases h with ⟨ad,cp,e,e0⟩ | ⟨g,cp,cur,e,q1,q2⟩
 ·exact Or.inl ⟨ad,cp,e,e0⟩
 ·by_cases hn:F.length=0
  ·have:F=[]:=List.eq_nil_of_length_eq_zero hn
   subst this;exact Or.inl ⟨_,_,e,rfl⟩
  ·exact Or.inr ⟨g,cp,cur,e,(hb.block g (ge.1 q1).1 (hd g (by rw [dC hn,e];rfl))).trans q1,q2⟩
theorem HoldsP.keep {w w':World} {v:Value} {F:List Op.Pk} {o:Option Nat} (h:HoldsP w v F) (hb:But o w w') (hd:Df (nb F.length v) o):HoldsP w' v F:=by
 rcases h with ⟨ad,cp,e,e0⟩ | ⟨g,cp,cur,e,q1,q2⟩
 ·exact Or.inl ⟨ad,cp,e,e0⟩
 ·by_cases hn:F.length=0
  ·have:F=[]:=List.eq_nil_of_length_eq_zero hn
   subst this;exact Or.inl ⟨_,_,e,rfl⟩
  ·exact Or.inr ⟨g,cp,cur,e,(hb.block g (ge.1 q1).1 (hd g (by rw [dC hn,e];rfl))).trans q1,q2⟩
theorem HoldsT.keep {w w':World} {v:Value} {F:List ByteArray} {o:Option Nat} (h:HoldsT w v F) (hb:But o w w') (hd:Df (nb F.length v) o):HoldsT w' v F:=by
 rcases h with ⟨ad,cp,e,e0⟩ | ⟨g,cp,cur,e,q1,q2⟩
 ·exact Or.inl ⟨ad,cp,e,e0⟩
 ·by_cases hn:F.length=0
  ·have:F=[]:=List.eq_nil_of_length_eq_zero hn
   subst this;exact Or.inl ⟨_,_,e,rfl⟩
  ·exact Or.inr ⟨g,cp,cur,e,(hb.block g (ge.1 q1).1 (hd g (by rw [dC hn,e];rfl))).trans q1,q2⟩
theorem pG (w:World) (Pb B:Nat) (v:Value)  (hP:w.heap[Pb]?=some (.cells #[.int .i64 0,.int .i64 0,.int .i64 2,.int .i64 3] 273)) (hB:B<w.heap.size) (hv:Rest w B v []) :
  Calls prog 178 #[.agg #[.slice (some ⟨Pb,0,none⟩) 4 4,.int .i64 4,.int .i64 250,.int .i64 4],v] w fun e w'=>e=.returned (.tuple #[.agg dc,cS 4])∧Below w.heap.size w w':=by
 have hPw:Pb<w.heap.size:=(ge.1 hP).1;obtain ⟨off,cap,hvf,hcap,hl⟩:=hv;subst hvf;have HL:=aa hl;have HP:=aa hP;have HC:=aa hcap;clear hl hP hcap;go_enter func178,ntmps178
 go_wp2_with fail
 refine (fC _).mono ?_;rintro e w1 ⟨rfl,hw1⟩
 obtain ⟨hs,q0,q1,q2,q3,hb1⟩:=m8 w (.cells #[.slice (some ⟨Pb,0,none⟩) 4 4,.int .i64 4,.int .i64 250,.int .i64 4] 250) (.cells dc 253)
  (.cells #[.slice (some ⟨Pb,0,none⟩) 4 4,.int .i64 4,.int .i64 250,.int .i64 4,.slice (some ⟨B,off,none⟩) 0 cap,.slice none 0 0,.int .i64 0,.string ⟨#[]⟩] 253) (.map cW 4)
 unfold dc at hs q0 q1 q2 q3 hb1;rw [← hw1] at hs q0 q1 q2 q3 hb1;have hra:Ra w w1 (w.heap.size+1+1+1) Pb (w.heap.size+1) #[.int .i64 0,.int .i64 0,.int .i64 2,.int .i64 3] dc:=⟨q3,(hb1.block Pb hPw).trans (uh HP),q1,hb1⟩;have hrd:Rdg w1 (w.heap.size+1+1) (w.heap.size+1+1+1+1) B (.slice (some ⟨Pb,0,none⟩) 4 4) 4 250 4 [] [] 0 ⟨#[]⟩ :=
  ⟨_,_,q2,⟨off,cap,rfl,uh HC,(uh HL).same (hb1.block B hB)⟩,⟨rfl,Or.inl ⟨rfl,rfl⟩⟩⟩
 obtain ⟨c0,c1,c2,c3⟩:=qr q0;have HRA:=aa hra;have HRD:=aa hrd;have lk:=e_ w1 (w.heap.size+1+1+1) cW 4 0 0 (eE 204) hra.hm rfl;have kk:=dA hra.hp 0 _ rfl;clear hra hrd hw1 q0 q1 q2 q3 HL HP HC;go_wp2_with fail
 refine wp_loop_rounds 5 ?_;rw [rounds_succ];go_wp2_with fail
 refine (gn _ _ B _ 4 250 4 [] _ 0 ⟨#[]⟩ w1 (by omega) (by omega) (by omega) (by omega) (by simp) (uh HRD)).mono ?_;rintro e w2 ⟨hof,⟨_,rfl⟩ | ⟨c,r',hc,_⟩⟩
 case inr=>cases hc
 have hra:=(uh HRA).off hof (by omega) (by omega) (by omega) (by omega) (by omega) (by omega) (by omega) (by omega);have hE:=hra.he;unfold dc at hE;have hfin:=hra.below;obtain ⟨e0,e1,e2,e3,e4,e5,e6,e7,ef⟩:=j_ hE;have f0:=ef 0;have f1:=ef 1;have f2:=ef 2;have f3:=ef 3;have f4:=ef 4;have f5:=ef 5;have f6:=ef 6;have f7:=ef 7;have FIN:=aa (ie hE);unfold lO at FIN;clear HRA HRD hra ef hE lk kk;unfold cS;go_wp2
 refine bodyPost_ret (v:=.tuple #[.agg dc,cS 4]) (by simp [results,results178,asAddr,uh FIN,dc,cS]) rfl ⟨rfl,?_⟩;exact go (E:=w.heap.size+1) hfin (Nat.le_succ _) _ _ _ _ _ _ _ _
theorem pH (w:World) (Pb B:Nat) (v:Value) (a:UInt8) (hP:w.heap[Pb]?=some (.cells #[.int .i64 0,.int .i64 0,.int .i64 2,.int .i64 3] 273)) (hB:B<w.heap.size) (hv:Rest w B v [a]) :
  Calls prog 178 #[.agg #[.slice (some ⟨Pb,0,none⟩) 4 4,.int .i64 4,.int .i64 250,.int .i64 4],v] w fun e w'=>e=.returned (.tuple #[.agg dc,cS 4])∧Below w.heap.size w w':=by
 have hPw:Pb<w.heap.size:=(ge.1 hP).1;obtain ⟨off,cap,hvf,hcap,hl⟩:=hv;subst hvf;have HL:=aa hl;have HP:=aa hP;have HC:=aa hcap;clear hl hP hcap;go_enter func178,ntmps178
 go_wp2_with fail
 refine (fC _).mono ?_;rintro e w1 ⟨rfl,hw1⟩
 obtain ⟨hs,q0,q1,q2,q3,hb1⟩:=m8 w (.cells #[.slice (some ⟨Pb,0,none⟩) 4 4,.int .i64 4,.int .i64 250,.int .i64 4] 250) (.cells dc 253)
  (.cells #[.slice (some ⟨Pb,0,none⟩) 4 4,.int .i64 4,.int .i64 250,.int .i64 4,.slice (some ⟨B,off,none⟩) 1 cap,.slice none 0 0,.int .i64 0,.string ⟨#[]⟩] 253) (.map cW 4)
 unfold dc at hs q0 q1 q2 q3 hb1;rw [← hw1] at hs q0 q1 q2 q3 hb1;have hra:Ra w w1 (w.heap.size+1+1+1) Pb (w.heap.size+1) #[.int .i64 0,.int .i64 0,.int .i64 2,.int .i64 3] dc:=⟨q3,(hb1.block Pb hPw).trans (uh HP),q1,hb1⟩;have hrd:Rdg w1 (w.heap.size+1+1) (w.heap.size+1+1+1+1) B (.slice (some ⟨Pb,0,none⟩) 4 4) 4 250 4 [a] [] 0 ⟨#[]⟩ :=
  ⟨_,_,q2,⟨off,cap,rfl,uh HC,(uh HL).same (hb1.block B hB)⟩,⟨rfl,Or.inl ⟨rfl,rfl⟩⟩⟩
 obtain ⟨c0,c1,c2,c3⟩:=qr q0;have HRA:=aa hra;have HRD:=aa hrd;have lk:=e_ w1 (w.heap.size+1+1+1) cW 4 0 0 (eE 204) hra.hm rfl;have kk:=dA hra.hp 0 _ rfl;clear hra hrd hw1 q0 q1 q2 q3 HL HP HC;go_wp2_with fail
 refine wp_loop_rounds 5 ?_;rw [rounds_succ];go_wp2_with fail
 refine (gn _ _ B _ 4 250 4 [a] _ 0 ⟨#[]⟩ w1 (by omega) (by omega) (by omega) (by omega) (by simp) (uh HRD)).mono ?_;rintro e w2 ⟨hof,⟨hn,_⟩ | ⟨c,r',hc,rfl,hrd⟩⟩
 ·cases hn
 obtain ⟨rfl,rfl⟩:=List.cons.inj hc;have hra:=(uh HRA).off hof (by omega) (by omega) (by omega) (by omega) (by omega) (by omega) (by omega) (by omega);have hs0:=hof.size;clear HRA HRD hc lk kk c0 c1 c2 c3 hb1;have lk:=e_ w2 (w.heap.size+1+1+1) cW 4 0 0 (eE 204) hra.hm rfl;have kk:=dA hra.hp 1 _ rfl;have HRA:=aa hra;have HRD:=aa hrd;clear hra hrd hof;go_wp2_with fail
 rw [rounds_succ];go_wp2_with fail
 refine (gn _ _ B _ 4 250 4 [] _ 0 ⟨#[]⟩ w2 (by omega) (by omega) (by omega) (by omega) (by simp) (uh HRD)).mono ?_;rintro e w3 ⟨hof,⟨_,rfl⟩ | ⟨c,r',hc,_⟩⟩
 case inr=>cases hc
 have hra:=(uh HRA).off hof (by omega) (by omega) (by omega) (by omega) (by omega) (by omega) (by omega) (by omega);have hE:=hra.he;unfold dc at hE;have hfin:=hra.below;obtain ⟨e0,e1,e2,e3,e4,e5,e6,e7,ef⟩:=j_ hE;have f0:=ef 0;have f1:=ef 1;have f2:=ef 2;have f3:=ef 3;have f4:=ef 4;have f5:=ef 5;have f6:=ef 6;have f7:=ef 7;have FIN:=aa (ie hE);unfold lO at FIN;clear HRA HRD hra ef hE lk kk;unfold cS;go_wp2
 refine bodyPost_ret (v:=.tuple #[.agg dc,cS 4]) (by simp [results,results178,asAddr,uh FIN,dc,cS]) rfl ⟨rfl,?_⟩;exact go (E:=w.heap.size+1) hfin (Nat.le_succ _) _ _ _ _ _ _ _ _
theorem pK (w:World) (Pb B:Nat) (v:Value) (a b:UInt8) (hP:w.heap[Pb]?=some (.cells #[.int .i64 0,.int .i64 0,.int .i64 2,.int .i64 3] 273)) (hB:B<w.heap.size) (hv:Rest w B v [a,b]) :
  Calls prog 178 #[.agg #[.slice (some ⟨Pb,0,none⟩) 4 4,.int .i64 4,.int .i64 250,.int .i64 4],v] w fun e w'=>e=.returned (.tuple #[.agg dc,cS 4])∧Below w.heap.size w w':=by
 have hPw:Pb<w.heap.size:=(ge.1 hP).1;obtain ⟨off,cap,hvf,hcap,hl⟩:=hv;subst hvf;have HL:=aa hl;have HP:=aa hP;have HC:=aa hcap;clear hl hP hcap;go_enter func178,ntmps178
 go_wp2_with fail
 refine (fC _).mono ?_;rintro e w1 ⟨rfl,hw1⟩
 obtain ⟨hs,q0,q1,q2,q3,hb1⟩:=m8 w (.cells #[.slice (some ⟨Pb,0,none⟩) 4 4,.int .i64 4,.int .i64 250,.int .i64 4] 250) (.cells dc 253)
  (.cells #[.slice (some ⟨Pb,0,none⟩) 4 4,.int .i64 4,.int .i64 250,.int .i64 4,.slice (some ⟨B,off,none⟩) 2 cap,.slice none 0 0,.int .i64 0,.string ⟨#[]⟩] 253) (.map cW 4)
 unfold dc at hs q0 q1 q2 q3 hb1;rw [← hw1] at hs q0 q1 q2 q3 hb1;have hra:Ra w w1 (w.heap.size+1+1+1) Pb (w.heap.size+1) #[.int .i64 0,.int .i64 0,.int .i64 2,.int .i64 3] dc:=⟨q3,(hb1.block Pb hPw).trans (uh HP),q1,hb1⟩;have hrd:Rdg w1 (w.heap.size+1+1) (w.heap.size+1+1+1+1) B (.slice (some ⟨Pb,0,none⟩) 4 4) 4 250 4 [a,b] [] 0 ⟨#[]⟩ :=
  ⟨_,_,q2,⟨off,cap,rfl,uh HC,(uh HL).same (hb1.block B hB)⟩,⟨rfl,Or.inl ⟨rfl,rfl⟩⟩⟩
 obtain ⟨c0,c1,c2,c3⟩:=qr q0;have HRA:=aa hra;have HRD:=aa hrd;have lk:=e_ w1 (w.heap.size+1+1+1) cW 4 0 0 (eE 204) hra.hm rfl;have kk:=dA hra.hp 0 _ rfl;clear hra hrd hw1 q0 q1 q2 q3 HL HP HC;go_wp2_with fail
 refine wp_loop_rounds 5 ?_;rw [rounds_succ];go_wp2_with fail
 refine (gn _ _ B _ 4 250 4 [a,b] _ 0 ⟨#[]⟩ w1 (by omega) (by omega) (by omega) (by omega) (by simp) (uh HRD)).mono ?_;rintro e w2 ⟨hof,⟨hn,_⟩ | ⟨c,r',hc,rfl,hrd⟩⟩
 ·cases hn
 obtain ⟨rfl,rfl⟩:=List.cons.inj hc;have hra:=(uh HRA).off hof (by omega) (by omega) (by omega) (by omega) (by omega) (by omega) (by omega) (by omega);have hs0:=hof.size;clear HRA HRD hc lk kk c0 c1 c2 c3 hb1;have lk:=e_ w2 (w.heap.size+1+1+1) cW 4 0 0 (eE 204) hra.hm rfl;have kk:=dA hra.hp 1 _ rfl;have HRA:=aa hra;have HRD:=aa hrd;clear hra hrd hof;go_wp2_with fail
 rw [rounds_succ];go_wp2_with fail
 refine (gn _ _ B _ 4 250 4 [b] _ 0 ⟨#[]⟩ w2 (by omega) (by omega) (by omega) (by omega) (by simp) (uh HRD)).mono ?_;rintro e w3 ⟨hof,⟨hn,_⟩ | ⟨c,r',hc,rfl,hrd⟩⟩
 ·cases hn
 obtain ⟨rfl,rfl⟩:=List.cons.inj hc;have hra:=(uh HRA).off hof (by omega) (by omega) (by omega) (by omega) (by omega) (by omega) (by omega) (by omega);have hs1:=hof.size;clear HRA HRD hc lk kk;have lk:=e_ w3 (w.heap.size+1+1+1) cW 4 2 2 (eE 206) hra.hm rfl;have kk:=dA hra.hp 2 _ rfl;have HRA:=aa hra;have HRD:=aa hrd;clear hra hrd hof;go_wp2_with fail
 rw [rounds_succ];go_wp2_with fail
 have C:=aa (kG _ _ B _ 4 250 4 [] _ 0 ⟨#[]⟩ w3 (by simp) (uh HRD));refine (uh C).mono ?_;rintro e w4 ⟨rfl,hnr⟩;have hra:=(uh HRA).off (hnr.off (N:=w.heap.size+1+1+1+1) (by omega)) (by omega) (by omega) (by omega) (by omega) (by omega) (by omega) (by omega) (by omega);clear C hnr;have hE:=hra.he;unfold dc at hE;have hfin:=hra.below;obtain ⟨e0,e1,e2,e3,e4,e5,e6,e7,ef⟩:=j_ hE;have f0:=ef 0;have f1:=ef 1;have f2:=ef 2;have f3:=ef 3;have f4:=ef 4;have f5:=ef 5;have f6:=ef 6;have f7:=ef 7;have FIN:=aa (ie hE);unfold lO at FIN;clear HRA HRD hra ef hE lk kk;unfold cS;go_wp2
 refine bodyPost_ret (v:=.tuple #[.agg dc,cS 4]) (by simp [results,results178,asAddr,uh FIN,dc,cS]) rfl ⟨rfl,?_⟩;exact go (E:=w.heap.size+1) hfin (Nat.le_succ _) _ _ _ _ _ _ _ _
theorem pN (w:World) (Pb B:Nat) (v:Value) (a b c2':UInt8) (hP:w.heap[Pb]?=some (.cells #[.int .i64 0,.int .i64 0,.int .i64 2,.int .i64 3] 273)) (hB:B<w.heap.size) (hv:Rest w B v [a,b,c2']) :
  Calls prog 178 #[.agg #[.slice (some ⟨Pb,0,none⟩) 4 4,.int .i64 4,.int .i64 250,.int .i64 4],v] w fun e w'=>e=.returned (.tuple #[.agg dc,cS 4])∧Below w.heap.size w w':=by
 have hPw:Pb<w.heap.size:=(ge.1 hP).1;obtain ⟨off,cap,hvf,hcap,hl⟩:=hv;subst hvf;have HL:=aa hl;have HP:=aa hP;have HC:=aa hcap;clear hl hP hcap;go_enter func178,ntmps178
 go_wp2_with fail
 refine (fC _).mono ?_;rintro e w1 ⟨rfl,hw1⟩
 obtain ⟨hs,q0,q1,q2,q3,hb1⟩:=m8 w (.cells #[.slice (some ⟨Pb,0,none⟩) 4 4,.int .i64 4,.int .i64 250,.int .i64 4] 250) (.cells dc 253)
  (.cells #[.slice (some ⟨Pb,0,none⟩) 4 4,.int .i64 4,.int .i64 250,.int .i64 4,.slice (some ⟨B,off,none⟩) 3 cap,.slice none 0 0,.int .i64 0,.string ⟨#[]⟩] 253) (.map cW 4)
 unfold dc at hs q0 q1 q2 q3 hb1;rw [← hw1] at hs q0 q1 q2 q3 hb1;have hra:Ra w w1 (w.heap.size+1+1+1) Pb (w.heap.size+1) #[.int .i64 0,.int .i64 0,.int .i64 2,.int .i64 3] dc:=⟨q3,(hb1.block Pb hPw).trans (uh HP),q1,hb1⟩;have hrd:Rdg w1 (w.heap.size+1+1) (w.heap.size+1+1+1+1) B (.slice (some ⟨Pb,0,none⟩) 4 4) 4 250 4 [a,b,c2'] [] 0 ⟨#[]⟩ :=
  ⟨_,_,q2,⟨off,cap,rfl,uh HC,(uh HL).same (hb1.block B hB)⟩,⟨rfl,Or.inl ⟨rfl,rfl⟩⟩⟩
 obtain ⟨c0,c1,c2,c3⟩:=qr q0;have HRA:=aa hra;have HRD:=aa hrd;have lk:=e_ w1 (w.heap.size+1+1+1) cW 4 0 0 (eE 204) hra.hm rfl;have kk:=dA hra.hp 0 _ rfl;clear hra hrd hw1 q0 q1 q2 q3 HL HP HC;go_wp2_with fail
 refine wp_loop_rounds 5 ?_;rw [rounds_succ];go_wp2_with fail
 refine (gn _ _ B _ 4 250 4 [a,b,c2'] _ 0 ⟨#[]⟩ w1 (by omega) (by omega) (by omega) (by omega) (by simp) (uh HRD)).mono ?_;rintro e w2 ⟨hof,⟨hn,_⟩ | ⟨c,r',hc,rfl,hrd⟩⟩
 ·cases hn
 obtain ⟨rfl,rfl⟩:=List.cons.inj hc;have hra:=(uh HRA).off hof (by omega) (by omega) (by omega) (by omega) (by omega) (by omega) (by omega) (by omega);have hs0:=hof.size;clear HRA HRD hc lk kk c0 c1 c2 c3 hb1;have lk:=e_ w2 (w.heap.size+1+1+1) cW 4 0 0 (eE 204) hra.hm rfl;have kk:=dA hra.hp 1 _ rfl;have HRA:=aa hra;have HRD:=aa hrd;clear hra hrd hof;go_wp2_with fail
 rw [rounds_succ];go_wp2_with fail
 refine (gn _ _ B _ 4 250 4 [b,c2'] _ 0 ⟨#[]⟩ w2 (by omega) (by omega) (by omega) (by omega) (by simp) (uh HRD)).mono ?_;rintro e w3 ⟨hof,⟨hn,_⟩ | ⟨c,r',hc,rfl,hrd⟩⟩
 ·cases hn
 obtain ⟨rfl,rfl⟩:=List.cons.inj hc;have hra:=(uh HRA).off hof (by omega) (by omega) (by omega) (by omega) (by omega) (by omega) (by omega) (by omega);have hs1:=hof.size;clear HRA HRD hc lk kk;have lk:=e_ w3 (w.heap.size+1+1+1) cW 4 2 2 (eE 206) hra.hm rfl;have kk:=dA hra.hp 2 _ rfl;have HRA:=aa hra;have HRD:=aa hrd;clear hra hrd hof;go_wp2_with fail
 rw [rounds_succ];go_wp2_with fail
 have C:=aa (kG _ _ B _ 4 250 4 [c2'] _ 0 ⟨#[]⟩ w3 (by simp) (uh HRD));refine (uh C).mono ?_;rintro e w4 ⟨rfl,hnr⟩;have hra:=(uh HRA).off (hnr.off (N:=w.heap.size+1+1+1+1) (by omega)) (by omega) (by omega) (by omega) (by omega) (by omega) (by omega) (by omega) (by omega);clear C hnr;have hE:=hra.he;unfold dc at hE;have hfin:=hra.below;obtain ⟨e0,e1,e2,e3,e4,e5,e6,e7,ef⟩:=j_ hE;have f0:=ef 0;have f1:=ef 1;have f2:=ef 2;have f3:=ef 3;have f4:=ef 4;have f5:=ef 5;have f6:=ef 6;have f7:=ef 7;have FIN:=aa (ie hE);unfold lO at FIN;clear HRA HRD hra ef hE lk kk;unfold cS;go_wp2
 refine bodyPost_ret (v:=.tuple #[.agg dc,cS 4]) (by simp [results,results178,asAddr,uh FIN,dc,cS]) rfl ⟨rfl,?_⟩;exact go (E:=w.heap.size+1) hfin (Nat.le_succ _) _ _ _ _ _ _ _ _
theorem xO (w:World) (Pb B:Nat) (v:Value) (a b c2' d:UInt8) (r:List UInt8) (hP:w.heap[Pb]?=some (.cells #[.int .i64 0,.int .i64 0,.int .i64 2,.int .i64 3] 273)) (hB:B<w.heap.size) (hv:Rest w B v (a :: b :: c2' :: d :: r)) (hg:oL 4 250 (256*c2'.toNat+d.toNat) r=true) :
  Calls prog 178 #[.agg #[.slice (some ⟨Pb,0,none⟩) 4 4,.int .i64 4,.int .i64 250,.int .i64 4],v] w fun e w'=>e=.returned (.tuple #[.agg dc,cS 3])∧Below w.heap.size w w':=by
 have hPw:Pb<w.heap.size:=(ge.1 hP).1;obtain ⟨off,cap,hvf,hcap,hl⟩:=hv;subst hvf;have HL:=aa hl;have HP:=aa hP;have HC:=aa hcap;clear hl hP hcap;go_enter func178,ntmps178
 go_wp2_with fail
 refine (fC _).mono ?_;rintro e w1 ⟨rfl,hw1⟩
 obtain ⟨hs,q0,q1,q2,q3,hb1⟩:=m8 w (.cells #[.slice (some ⟨Pb,0,none⟩) 4 4,.int .i64 4,.int .i64 250,.int .i64 4] 250) (.cells dc 253)
  (.cells #[.slice (some ⟨Pb,0,none⟩) 4 4,.int .i64 4,.int .i64 250,.int .i64 4,.slice (some ⟨B,off,none⟩) (r.length+1+1+1+1) cap,.slice none 0 0,.int .i64 0,.string ⟨#[]⟩] 253) (.map cW 4)
 unfold dc at hs q0 q1 q2 q3 hb1;rw [← hw1] at hs q0 q1 q2 q3 hb1;have hra:Ra w w1 (w.heap.size+1+1+1) Pb (w.heap.size+1) #[.int .i64 0,.int .i64 0,.int .i64 2,.int .i64 3] dc:=⟨q3,(hb1.block Pb hPw).trans (uh HP),q1,hb1⟩;have hrd:Rdg w1 (w.heap.size+1+1) (w.heap.size+1+1+1+1) B (.slice (some ⟨Pb,0,none⟩) 4 4) 4 250 4 (a :: b :: c2' :: d :: r) [] 0 ⟨#[]⟩ :=
  ⟨_,_,q2,⟨off,cap,rfl,uh HC,(uh HL).same (hb1.block B hB)⟩,⟨rfl,Or.inl ⟨rfl,rfl⟩⟩⟩
 obtain ⟨c0,c1,c2,c3⟩:=qr q0;have HRA:=aa hra;have HRD:=aa hrd;have lk:=e_ w1 (w.heap.size+1+1+1) cW 4 0 0 (eE 204) hra.hm rfl;have kk:=dA hra.hp 0 _ rfl;clear hra hrd hw1 q0 q1 q2 q3 HL HP HC;go_wp2_with fail
 refine wp_loop_rounds 5 ?_;rw [rounds_succ];go_wp2_with fail
 refine (gn _ _ B _ 4 250 4 (a :: b :: c2' :: d :: r) _ 0 ⟨#[]⟩ w1 (by omega) (by omega) (by omega) (by omega) (by simp) (uh HRD)).mono ?_;rintro e w2 ⟨hof,⟨hn,_⟩ | ⟨c,r',hc,rfl,hrd⟩⟩
 ·cases hn
 obtain ⟨rfl,rfl⟩:=List.cons.inj hc;have hra:=(uh HRA).off hof (by omega) (by omega) (by omega) (by omega) (by omega) (by omega) (by omega) (by omega);have hs0:=hof.size;clear HRA HRD hc lk kk c0 c1 c2 c3 hb1;have lk:=e_ w2 (w.heap.size+1+1+1) cW 4 0 0 (eE 204) hra.hm rfl;have kk:=dA hra.hp 1 _ rfl;have HRA:=aa hra;have HRD:=aa hrd;clear hra hrd hof;go_wp2_with fail
 rw [rounds_succ];go_wp2_with fail
 refine (gn _ _ B _ 4 250 4 (b :: c2' :: d :: r) _ 0 ⟨#[]⟩ w2 (by omega) (by omega) (by omega) (by omega) (by simp) (uh HRD)).mono ?_;rintro e w3 ⟨hof,⟨hn,_⟩ | ⟨c,r',hc,rfl,hrd⟩⟩
 ·cases hn
 obtain ⟨rfl,rfl⟩:=List.cons.inj hc;have hra:=(uh HRA).off hof (by omega) (by omega) (by omega) (by omega) (by omega) (by omega) (by omega) (by omega);have hs1:=hof.size;clear HRA HRD hc lk kk;have lk:=e_ w3 (w.heap.size+1+1+1) cW 4 2 2 (eE 206) hra.hm rfl;have kk:=dA hra.hp 2 _ rfl;have HRA:=aa hra;have HRD:=aa hrd;clear hra hrd hof;go_wp2_with fail
 rw [rounds_succ];go_wp2_with fail
 have C:=aa (ni _ _ B _ 4 250 4 (c2' :: d :: r) _ 0 ⟨#[]⟩ w3 (by omega) (by omega) (by omega) (by omega) (by omega) (by simp) (uh HRD));rw [show ax (List.take 2 (c2' :: d :: r))=256*c2'.toNat+d.toNat by simp [ax],show List.drop 2 (c2' :: d :: r)=r from rfl,hg,if_pos rfl] at C;refine (uh C).mono ?_;rintro e w4 ⟨rfl,hnr,hrd⟩;have hra:=(uh HRA).off (hnr.off (N:=w.heap.size+1+1+1+1) (by omega)) (by omega) (by omega) (by omega) (by omega) (by omega) (by omega) (by omega) (by omega);clear C hnr hrd;have hE:=hra.he;unfold dc at hE;have hfin:=hra.below;obtain ⟨e0,e1,e2,e3,e4,e5,e6,e7,ef⟩:=j_ hE;have f0:=ef 0;have f1:=ef 1;have f2:=ef 2;have f3:=ef 3;have f4:=ef 4;have f5:=ef 5;have f6:=ef 6;have f7:=ef 7;have FIN:=aa (ie hE);unfold lO at FIN;clear HRA HRD hra ef hE lk kk;unfold cS;go_wp2
 refine bodyPost_ret (v:=.tuple #[.agg dc,cS 3]) (by simp [results,results178,asAddr,uh FIN,dc,cS]) rfl ⟨rfl,?_⟩;exact go (E:=w.heap.size+1) hfin (Nat.le_succ _) _ _ _ _ _ _ _ _
end Go.Proofs.YtjebigodbnefiaaGreatDoor
