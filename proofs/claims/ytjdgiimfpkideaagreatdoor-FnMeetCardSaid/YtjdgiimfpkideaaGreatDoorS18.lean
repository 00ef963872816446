/- LaidEb LaidMh RepMath VOn VOn2 AnsOf RepI HrM WkF -/
import Derived.Test.YtjdgiimfpkideaaGreatDoorS09
set_option maxHeartbeats 8000000
set_option maxRecDepth 100000
namespace Go.Proofs.YtjdgiimfpkideaaGreatDoor
open Go.RowKit Go.Proofs.Tryz
variable {W w q q' w0:World} {cB M A G m a g i E base:Nat} {C ws cur cs:Array Value} {L F:List Op.Opt} {x:Int} {v:Value} {T:TypeId}
section
open Go.ChangeShapes Go.WideShapes Go.ChangeAt Go.RowKit
theorem o9:laidOutB prog=true:=by kernel_rfl
theorem nxG: prog.globalNamed "loop.example/g00351/impl.nextStates" = some 1 := by kernel_rfl
theorem o_:(prog.globals[1]?).map (·.type)=some 168:=by kernel_rfl
theorem jH:prog.cellsOf 167=10:=by kernel_rfl
theorem ou:prog.cellsOf 2=1:=by kernel_rfl
theorem tW:(Rows.laid_loop_example_g00351_impl_nextStates:DataW Unit)=.agg (iy.map fun l=>Lib.tabData .i64 l):=by kernel_rfl
theorem tX:(iy.all fun l=>decide (l.length=10))=true:=by kernel_rfl
theorem tY(h : Lib.VarReads prog W "loop.example/g00351/impl.nextStates" Rows.laid_loop_example_g00351_impl_nextStates): NxT W := by
 rw[tW]at h;obtain⟨g,t,cs,fuel,p,hg,hty,hvar,hd⟩:=h;obtain rfl:=Option.some.inj (nxG.symm.trans hg);obtain rfl:=Option.some.inj (o_.symm.trans hty);intro i s hi hs;obtain⟨fuel',d,q,hdi,he⟩:=Lib.array_elem underlying168 hd i hi;rw[List.getElem?_map]at hdi;obtain⟨r,hr,rfl⟩:=Option.map_eq_some_iff.1 hdi;have hrl:r.length=10:=of_decide_eq_true (List.all_eq_true.1 tX r (List.mem_of_getElem? hr));rw[jH]at he;have hcs:=Lib.cells_of_tab underlying167 underlying2 ou jH he;rw[World.var?_cell hg hvar (i*10+s),<- Array.getElem?_toList];have e0:=congrArg (·[s]?) hcs;simp only[List.getElem?_take,List.getElem?_drop,hs,if_true,List.getElem?_map]at e0;rw[e0];unfold iN;rw[show iy.getD i []=r by rw[List.getD_eq_getElem?_getD,hr];rfl,List.getD_eq_getElem?_getD,List.getElem?_eq_getElem (by omega)];rfl
theorem spG: prog.globalNamed "strings.asciiSpace" = some 2 := by kernel_rfl
theorem Ds:(prog.globals[2]?).map (·.type)=some 195:=by kernel_rfl
theorem ov:prog.cellsOf 195=256:=by kernel_rfl
theorem pe:prog.cellsOf 5=1:=by kernel_rfl
theorem tZ:(Rows.laid_strings_asciiSpace:DataW Unit)=Lib.tabData .u8 Lib.asciiSpaceTab:=by kernel_rfl
theorem t_(h : Lib.VarReads prog W "strings.asciiSpace" Rows.laid_strings_asciiSpace): SpT W := by
 rw[tZ]at h;obtain⟨g,t,cs,fuel,p,hg,hty,hvar,hd⟩:=h;obtain rfl:=Option.some.inj (spG.symm.trans hg);obtain rfl:=Option.some.inj (Ds.symm.trans hty);intro c hc;have hcs:=Lib.cells_of_tab underlying195 underlying5 pe ov hd;rw[World.var?_cell hg hvar c,<- Array.getElem?_toList,hcs,List.getElem?_map];have hl:c<Lib.asciiSpaceTab.length:=by rw[Lib.asciiSpaceTab_length];exact hc
 have:=Lib.asciiSpaceTab_at c hc
 rw[List.getD_eq_getElem?_getD,List.getElem?_eq_getElem hl,Option.getD_some]at this;rw[List.getElem?_eq_getElem hl,Option.map_some,this]
end
section
open Go.ChangeShapes Go.WideShapes Go.ChangeAt Go.RowKit
def iS:List (String × DataW Unit):=Rows.fnExactMeetRunRow.laid
def fU: List (String × DataW Unit) := [("unicode.White_Space", Rows.laid_unicode_White_Space), ("strings.asciiSpace", Rows.laid_strings_asciiSpace), ("loop.example/g00351/impl.eventNames", Rows.laid_loop_example_g00351_impl_eventNames), ("loop.example/g00351/impl.nextStates", Rows.laid_loop_example_g00351_impl_nextStates)]
theorem pv(hL:laidMetH prog iS W):EvT W/\NxT W/\SpT W/\Et W:=by
 have h':laidMet prog fU W/\handlesMet prog ke W:=hL;obtain⟨hd,hh⟩:=h';refine⟨tR (Lib.laidMet.reads hd (.tail _ (.tail _ (.head _)))),tY (Lib.laidMet.reads hd (.tail _ (.tail _ (.tail _ (.head _))))),t_ (Lib.laidMet.reads hd (.tail _ (.head _))),vP (W:=W) ?_⟩;have h2:laidMet prog [] W/\handlesMet prog ke W:=⟨⟨[],rfl,List.nodup_nil,fun _ _ h=>by cases h⟩,hh⟩;exact h2
noncomputable def gt(os:Os):World:=(np os).layVars prog fU
theorem mA(os:Os):(gt os).os=os:=World.layVars_os _ _ _
theorem kf(os:Os):laidMet prog fU (gt os):=by
 have e1:(fU.filter fun x=>(fU.map (·.1)).contains x.1)=fU:=List.filter_eq_self.2 fun x hx=>List.contains_iff_mem.2 (List.mem_map.2 ⟨x,hx,rfl⟩)
 have e2:(fU.filter fun x=>!(fU.map (·.1)).contains x.1)=[]:=List.filter_eq_nil_iff.2 fun x hx=>by rw[List.contains_iff_mem.2 (List.mem_map.2 ⟨x,hx,rfl⟩)];simp
 exact laidMet_layVars (w0:=np os) (fU.map (·.1)) [] (by rw[e1];rfl) (by rw[e1];kernel_rfl) (by rw[e1];kernel_rfl) (by rw[e2];exact LaidIn.none)
theorem kV(os:Os)(args:Array Value):laidMetH prog iS ((gt os).forCall (fun _ _=>0) ⟨#[],args,[]⟩).memory:=by
 refine laidMetH_of_parts ?_ (by kernel_rfl);have h:laidMet prog fU ((gt os).forCall (fun _ _=>0) ⟨#[],args,[]⟩).memory:=(kf os).of_heap (by simp[World.memory,World.forCall,Input.heap]);exact h
end
def jk(a g:Nat)(p c d:Bool)(k:Int)(n:Nat):Int :=
 if k=1 then gc (bh 64 300 n) 3 else if k=2 then gc (((n ||| a:Nat):Int)==(n:Int)) 3 else if k=5 then gc ((n:Int) != 0&&(n:Int) != (g:Int)) 3 else if k=7 then gc p 4 else if k=8 then gc c 4 else gc ((n:Int)==2||((n:Int)==4&&d)) 3
def nI(m a g:Nat)(k:Int)(n:Nat):ByteArray :=
 if k=1 then ji m else if k=2 then cK (n ||| a)else if k=5 then cK (fv g)else if k=7 then⟨#[]⟩else if k=8 then⟨#[]⟩else fu 2
def one(m a g:Nat)(p c d:Bool)(o:Op.Opt):Int × Op.Opt :=
 if bN o.kind=some o.data.size then(jk a g p c d o.kind (da o.data.data.toList),⟨o.kind,if jk a g p c d o.kind (da o.data.data.toList)==3 then nI m a g o.kind (da o.data.data.toList)else o.data⟩)else(4,o)
def cQ(k:Int)(l:List Op.Opt):Bool:=l.any fun x=>x.kind==k
def gB(m a g:Nat)(p c d:Bool)(l:List Op.Opt)(o:Op.Opt):Int × Op.Opt:=if cQ o.kind l=true then(4,o)else one m a g p c d o
def eO(m a g:Nat)(p c d:Bool)(l:List Op.Opt)(i:Nat):Int × Op.Opt:=match l[i]? with
 | some o=>gB m a g p c d (l.take i) o
 | none=>(4,⟨0,⟨#[]⟩⟩)
def dL(m a g:Nat)(p c d:Bool)(l:List Op.Opt)(n:Nat):List (Int × Op.Opt):=(List.range n).map (eO m a g p c d l)
theorem fw(m a g:Nat)(p c d:Bool)(l:List Op.Opt)(n:Nat):dL m a g p c d l (n+1)=dL m a g p c d l n++[eO m a g p c d l n]:=by
 unfold dL;rw[List.range_succ,List.map_append];rfl
theorem eq(m a g:Nat)(p c d:Bool)(l:List Op.Opt)(n:Nat):(dL m a g p c d l n).length=n:=by simp[dL]
theorem gC(m a g:Nat)(p c d:Bool)(l:List Op.Opt)(i:Nat)(h:i<l.length):eO m a g p c d l i=gB m a g p c d (l.take i) l[i]:=by
 unfold eO;rw[List.getElem?_eq_getElem h]
def dx(l:List (Int × Op.Opt)):List Value:=l.flatMap fun v=>[v.1,v.2.kind,v.2.data]
theorem mJ(l:List (Int × Op.Opt)):(dx l).length=l.length*3:=by
 induction l with
 | nil=>rfl
 | cons f fs ih=>simp[dx]at ih|-;omega
theorem jE(l r:List (Int × Op.Opt)):dx (l++r)=dx l++dx r:=by simp[dx]
theorem mK(l:List (Int × Op.Opt))(i:Nat)(v:Int × Op.Opt)(h:l[i]?=some v):(dx l)[i*3]?=some (.int .i64 v.1)/\(dx l)[i*3+1]?=some (.int .i64 v.2.kind)/\(dx l)[i*3+2]?=some (.string v.2.data):=by
 induction l generalizing i with
 | nil=>simp at h
 | cons d fs ih =>
  cases i with
  | zero =>
   simp at h;subst h;exact⟨rfl,rfl,rfl⟩
  | succ i =>
   have:=ih i (by simpa using h)
   have e:dx (d::fs)=.int .i64 d.1 :: .int .i64 d.2.kind :: .string d.2.data::dx fs:=rfl;rw[e,show(i+1)*3=i*3+3 by omega];exact this
theorem pN(b:Bool)(x:Int):gc b x=2\/gc b x=x:=by cases b<;>simp[gc]
theorem BB(a g:Nat)(p c d:Bool)(k:Int)(n:Nat):jk a g p c d k n=2\/jk a g p c d k n=3\/jk a g p c d k n=4:=by
 have h:=fun b x=>pN b x
 unfold jk;split
 .rcases h (bh 64 300 n) 3 with h|h<;>simp[h]
 split
 .rcases h (((n ||| a:Nat):Int)==(n:Int)) 3 with h|h<;>simp[h]
 split
 .rcases h ((n:Int) != 0&&(n:Int) != (g:Int)) 3 with h|h<;>simp[h]
 split
 .rcases h p 4 with h|h<;>simp[h]
 split
 .rcases h c 4 with h|h<;>simp[h]
 .rcases h ((n:Int)==2||((n:Int)==4&&d)) 3 with h|h<;>simp[h]
theorem D4(m a g:Nat)(p c d:Bool)(ha:a<4294967296)(hg:g<4294967296)(k:Int):(∃s f f2 f3 f4 f5 j bt,bN k=some s/\JudR m a g p c d k s f f2 f3 f4 f5 j (jk a g p c d k) bt (nI m a g k))\/(bN k=none/\Instr.findNow (.int .i64) k cI.toList 0=some none):=by
 by_cases h1:k=1
 .subst h1;exact Or.inl ⟨2,_,_,_,_,_,_,fun _=>m,rfl,⟨rfl,bM (by kernel_rfl),fun n v _=>uE m a g p c d n v,fun n v=>FJ m v⟩⟩
 by_cases h2:k=2
 .subst h2;exact Or.inl ⟨4,_,_,_,_,_,_,fun n=>n ||| a,rfl,⟨rfl,bM (by kernel_rfl),fun n v hn=>uF m a g p c d n v ha hn,fun n v=>pL (n ||| a) v⟩⟩
 by_cases h5:k=5
 .subst h5;exact Or.inl ⟨4,_,_,_,_,_,_,fun _=>fv g,rfl,⟨rfl,bM (by kernel_rfl),fun n v _=>uG m a g p c d n v hg,fun n v=>pL (fv g) v⟩⟩
 by_cases h7:k=7
 .subst h7;exact Or.inl ⟨0,_,_,_,_,_,_,fun _=>0,rfl,⟨rfl,bM (by kernel_rfl),fun n v _=>uH m a g p c d n v,fun n v=>se 0 v⟩⟩
 by_cases h8:k=8
 .subst h8;exact Or.inl ⟨0,_,_,_,_,_,_,fun _=>0,rfl,⟨rfl,bM (by kernel_rfl),fun n v _=>uI m a g p c d n v,fun n v=>se 0 v⟩⟩
 by_cases h9:k=9
 .subst h9;exact Or.inl ⟨1,_,_,_,_,_,_,fun _=>2,rfl,⟨rfl,bM (by kernel_rfl),fun n v _=>uJ m a g p c d n v,fun n v=>wn 2 v⟩⟩
 .refine Or.inr ⟨by simp[bN,h1,h2,h5,h7,h8,h9],?_⟩;have e1:(k==1)=false:=zL h1;have e2:(k==2)=false:=zL h2;have e5:(k==5)=false:=zL h5;have e7:(k==7)=false:=zL h7;have e8:(k==8)=false:=zL h8;have e9:(k==9)=false:=zL h9;simp[Instr.findNow,cI,Instr.sameNow,e1,e2,e5,e7,e8,e9]
structure VoS(w:World)(cB M A G:Nat)(C ws cur:Array Value)(q:World):Prop where
 c:q.heap[cB]?=some (.cells C 24)
 m:q.heap[M]?=some (.map cI 6)
 a:q.heap[A]?=some (.cells ws 265)
 g:q.heap[G]?=some (.cells cur 264)
 b:Below w w q
theorem VoS.step(h:VoS w cB M A G C ws cur q)(hb:Below q q q'):VoS w cB M A G C ws cur q' :=
 ⟨(hb.block _ (ge.1 h.c).1).trans h.c,(hb.block _ (ge.1 h.m).1).trans h.m,(hb.block _ (ge.1 h.a).1).trans h.a,(hb.block _ (ge.1 h.g).1).trans h.g,h.b.trans (hb.mono h.b.size)⟩
theorem VoS.putG(h:VoS w cB M A G C ws cur q)(n1:cB≠G)(n2:M≠G)(n3:A≠G)(n4:w.heap.size<=G)(i0 i1 i2:Nat)(x0 x1 x2:Value):VoS w cB M A G C ws (((cur.setIfInBounds i0 x0).setIfInBounds i1 x1).setIfInBounds i2 x2) (((q.setCell (G,i0) x0).setCell (G,i1) x1).setCell (G,i2) x2):=by
 refine⟨?_,?_,?_,zH _ _ _ _ _ _ (zH _ _ _ _ _ _ (zH _ _ _ _ _ _ h.g)),((h.b.setCell (p:=(G,i0)) n4 _).setCell (p:=(G,i1)) n4 _).setCell (p:=(G,i2)) n4 _⟩
 .rw [zJ _ _ _ _ n1,zJ _ _ _ _ n1,zJ _ _ _ _ n1];exact h.c
 .rw [zJ _ _ _ _ n2,zJ _ _ _ _ n2,zJ _ _ _ _ n2];exact h.m
 .rw [zJ _ _ _ _ n3,zJ _ _ _ _ n3,zJ _ _ _ _ n3];exact h.a
theorem VoS.putA(h:VoS w cB M A G C ws cur q)(n1:cB≠A)(n2:M≠A)(n3:G≠A)(n4:w.heap.size<=A)(i:Nat)(x:Value):VoS w cB M A G C (ws.setIfInBounds i x) cur (q.setCell (A,i) x):=by
 refine⟨?_,?_,zH _ _ _ _ _ _ h.a,?_,h.b.setCell (p:=(A,i)) n4 _⟩
 .rw [zJ _ _ _ _ n1];exact h.c
 .rw [zJ _ _ _ _ n2];exact h.m
 .rw [zJ _ _ _ _ n3];exact h.g
def Laid(m a g:Nat)(p c d:Bool)(L:List Op.Opt)(i:Nat)(cur:Array Value):Prop:=cur.size=L.length*3/\∀j,j<i*3->cur[j]?=(dx (dL m a g p c d L i))[j]?
def Was(L:List Op.Opt)(i:Nat)(ws:Array Value):Prop:=ws.size=256/\∀k:Nat,k<256->ws[k]?=some (.bool (cQ k (L.take i)))
theorem Laid.put{p c d:Bool}(h:Laid m a g p c d L i cur)(hi:i<L.length)(x:Int)(k:Int)(t:ByteArray)(hv:eO m a g p c d L i=(x,⟨k,t⟩)):Laid m a g p c d L (i+1) (((cur.setIfInBounds (i*3) x).setIfInBounds (i*3+1) k).setIfInBounds (i*3+2) t):=by
 obtain⟨h1,h2⟩:=h;refine⟨by simp[h1],fun j hj=>?_⟩;have hs:=mJ (dL m a g p c d L i);rw[eq]at hs;rw[fw,hv,jE,Array.getElem?_setIfInBounds,Array.getElem?_setIfInBounds,Array.getElem?_setIfInBounds];by_cases j2:i*3+2=j
 .subst j2;rw[if_pos rfl,if_pos (by simp[h1];omega),List.getElem?_append_right (by omega),hs,show i*3+2-i*3=2 by omega];rfl
 .rw [if_neg j2];by_cases j1:i*3+1=j
  .subst j1;rw[if_pos rfl,if_pos (by simp[h1];omega),List.getElem?_append_right (by omega),hs,show i*3+1-i*3=1 by omega];rfl
  .rw [if_neg j1];by_cases j0:i*3=j
   .subst j0;rw[if_pos rfl,if_pos (by simp[h1];omega),List.getElem?_append_right (by omega),hs,Nat.sub_self];rfl
   .rw [if_neg j0,List.getElem?_append_left (by omega)];exact h2 j (by omega)
theorem Was.put(h:Was L i ws)(hi:i<L.length)(k:Nat)(hk:k<256)(hL:L[i].kind=(k:Int)):Was L (i+1) (ws.setIfInBounds k true):=by
 obtain⟨h1,h2⟩:=h;refine⟨by simp[h1],fun j hj=>?_⟩;rw[Array.getElem?_setIfInBounds,List.take_succ_eq_append_getElem hi];unfold cQ;rw[List.any_append];by_cases e:k=j
 .subst e;rw[if_pos rfl,if_pos (by omega)];simp[hL]
 .rw [if_neg e,h2 j hj];have:((k:Int)==(j:Int))=false:=zL (by omega)
  simp[cQ,hL,this]
theorem sk:Tryz.zeroCells265=(List.replicate 256 (Value.bool false)).toArray:=by kernel_rfl
theorem pO(L:List Op.Opt):Was L 0 Tryz.zeroCells265:=by
 rw[sk];refine⟨by rw[List.size_toArray,List.length_replicate],fun k hk=>?_⟩;rw[List.getElem?_toArray,List.getElem?_replicate,if_pos hk];rfl
theorem uL(n:Nat)(hn:n<=20):∃Mk:Array Value,Mk.size=n*3/\∀W,(Instr.makeSlice 228 n n).run prog W=.ok (.slice (some (W,0)) n n) (W.alloc (.cells Mk 264)):=by
 have h:(prog.info? 264).map (fun i=>(i.zero,i.size,i.bytes))=some (some (.agg #[(0:Int),(0:Int),.string ⟨#[]⟩]),3,32):=by kernel_rfl
 obtain⟨i,hi,hzz⟩:=Option.map_eq_some_iff.1 h;simp only[Prod.mk.injEq]at hzz;refine⟨madeCells (Value.agg #[(0:Int),(0:Int),.string ⟨#[]⟩]).cells (n*3),by rw[size_madeCells],fun W=>?_⟩;have:=run_make (P:=prog) W 228 264 i _ underlying228 hi hzz.1 .i64 .i64 (n:Int) (n:Int) (by omega) (by omega) (by rw[hzz.2.2];omega) (by omega)
 rw[hzz.2.1]at this;simpa using this
def D5(base:Nat)(l:List (Int × Op.Opt))(v:Value)(q:World):Prop:=∃G cur,v=.slice (some (G,0)) l.length l.length/\base<=G/\q.heap[G]?=some (.cells cur 264)/\cur.size=l.length*3/\∀j,j<l.length*3->cur[j]?=(dx l)[j]?
theorem mL(m a g:Nat)(p c d:Bool)(ha:a<4294967296)(hg:g<4294967296)(k:Nat)(dt:ByteArray)(L:List Op.Opt)(i:Nat)(hv:eO m a g p c d L i=gB m a g p c d (L.take i) ⟨(k:Int),dt⟩):∃(x0 x1 x2 x3 x4 x5:Value)(bl:Bool),((∃s f f2 f3 f4 f5:Nat,x0=.int .i64 s/\x1=cY f/\x2=cY f2/\x3=cY f3/\x4=cY f4/\x5=cY f5)\/(x0=.int .i64 0/\x1=.nilFunc/\x2=.nilFunc/\x3=.nilFunc/\x4=.nilFunc/\x5=.nilFunc))/\(∀(v:World)(M:Nat),v.heap[M]?=some (.map cI 6)->Calls prog 142 #[.map (some M),.agg #[k,dt]] v fun e w'=>e=.returned (.tuple #[.agg #[x0,x1,x2,x3,x4,x5],bl])/\Below v v w') /\
   (bl=false->eO m a g p c d L i=(4,⟨(k:Int),dt⟩))/\(cQ k (L.take i)=true->eO m a g p c d L i=(4,⟨(k:Int),dt⟩)) /\
   (bl=true->cQ k (L.take i)=false->∃(x:Int)(t:ByteArray),eO m a g p c d L i=(x,⟨(k:Int),t⟩)/\∀v,Calls prog 209 #[.agg #[x0,x1,x2,x3,x4,x5],cN m a g p c d,.agg #[k,dt]] v fun e w'=>e=.returned (.agg #[x,k,t])/\Below v v w'):=by
 rw[hv];rcases D4 m a g p c d ha hg (k:Int)with⟨s,f,f2,f3,f4,f5,j,bt,hs,hJ⟩|⟨hs,hf⟩
 .refine ⟨_,_,_,_,_,_,((dt.size:Int)==(s:Int)),Or.inl ⟨s,f,f2,f3,f4,f5,rfl,rfl,rfl,rfl,rfl,rfl⟩,fun v M hM=>gh M k dt s f f2 f3 f4 f5 j v hM hJ.fd,?_,?_,?_⟩
  .intro hb;have hne:=beq_eq_false_iff_ne.1 hb;unfold gB one;split
   .rfl
   .rw [if_neg];dsimp only;rw[hs];intro e;cases e;exact hne rfl
  .intro hw;unfold gB;rw[if_pos hw]
  .intro hb hw;have he:dt.size=s:=by have:=eq_of_beq hb;omega
   have h4:=i8 hs;refine⟨_,_,?_,fun v=>uK m a g p c d k dt s f f2 f3 f4 f5 j _ bt _ v hJ (by omega)⟩;unfold gB one;rw[if_neg (by rw[hw];decide),if_pos (by dsimp only;rw[hs,he])]
 .refine ⟨_,_,_,_,_,_,false,Or.inr ⟨rfl,rfl,rfl,rfl,rfl,rfl⟩,fun v M hM=>gW M k dt v hM hf,?_,?_,fun hb=>by cases hb⟩
  .intro _;unfold gB one;split
   .rfl
   .rw [if_neg];dsimp only;rw[hs];intro e;cases e
  .intro hw;unfold gB;rw[if_pos hw]
theorem uM(m a g:Nat)(p c d:Bool)(L:List Op.Opt)(ad:Option Addr)(cp:Nat)(w:World)(ha:a<4294967296)(hg:g<4294967296)(hr:Op.right L=true)(hL:HoldsO w (ad,L.length,cp) L):Calls prog 165 #[cN m a g p c d,(ad,L.length,cp)] w fun e w'=>∃v,e=.returned v/\D5 w (dL m a g p c d L L.length) v w'/\Below w w w':=by
 have hl20:=Op.right_len hr;obtain⟨n,hn⟩ := ex L.length;rw[hn]at hl20;obtain⟨Mk,hMs,hmk⟩:=uL n hl20;have HL:Hid (∀i (hi:i<n),∃gL,ad=some ⟨gL,0,none⟩/\gL<w.heap.size/\w.cell? ⟨gL,i*2,none⟩=some (.int .i64 (L[i]'(by omega)).kind)/\w.cell? ⟨gL,i*2+1,none⟩=some (.string (L[i]'(by omega)).data)):=by
  refine aa fun i hi=>?_
  rcases hL with⟨_,_,_,e⟩|⟨gL,cp',cur,e,h2,h3,h4⟩
  .rw [e]at hn;simp at hn;omega
  .cases e;have q:=bW L i (L[i]'(by omega)) (List.getElem?_eq_getElem (by omega));exact⟨gL,rfl,(ge.1 h2).1,by rw[cr h2];exact(h4 _ (by omega)).trans q.1,by rw[cr h2];exact(h4 _ (by omega)).trans q.2⟩
 have HK:Hid (∀i (hi:i<n),∃k:Nat,(L[i]'(by omega)).kind=(k:Int)/\1<=k/\k<=255/\(L[i]'(by omega)).data.size<=20):=by
  refine aa fun i hi=>?_
  have:=of_decide_eq_true (Op.right_all hr (L[i]'(by omega)) (List.getElem_mem _))
  exact⟨(L[i]'(by omega)).kind.toNat,by omega,by omega,by omega,this.2.2⟩
 have HJ:=aa fun k dt i hv=>mL m a g p c d ha hg k dt L i hv
 rw[hn];clear hL hr ha hg;go_enter func165,ntmps165
 go_wp2_with fail
 refine(dF _).mono ?_;rintro e w2⟨rfl,hm2,hb2⟩;have hs0:(w.alloc (.cells #[m,a,g,p,c,d] 24)).heap.size=w.heap.size+1:=by simp
 rw[hs0]at hm2 hb2;rw[hs0];have hc2:=(hb2.block w (by omega)).trans (heap_alloc_last w (.cells #[m,a,g,p,c,d] 24));have hB2:=((zC w w).alloc (zD _) (.cells #[m,a,g,p,c,d] 24)).trans (hb2.mono (by omega));have hl2:w.heap.size+1<w2.heap.size:=(ge.1 hm2).1;have HS:Hid (VoS w w (w.heap.size+1) w2 (w2.heap.size+1) #[m,a,g,p,c,d] Tryz.zeroCells265 Mk ((w2.alloc (.cells Tryz.zeroCells265 265)).alloc (.cells Mk 264))):=by
  obtain⟨e1,e2,e3,e4⟩:=br w2 (.cells Tryz.zeroCells265 265) (.cells Mk 264);exact aa ⟨(e4.block _ (by omega)).trans hc2,(e4.block _ hl2).trans hm2,e2,e3,hB2.trans (e4.mono hB2.size)⟩
 clear hm2 hb2 hs0 hc2 hB2;go_upto_region 4 with fail
 refine bb _ HS.out ?_;rintro q0 hq0;have hW0:=pO L;have hL0:Laid m a g p c d L 0 Mk:=⟨by rw[hMs,hn],fun j hj=>by omega⟩;generalize Tryz.zeroCells265=Z at*;generalize w2.heap.size=A at*;have HI:=aa (zA hq0 (zA hW0 hL0));clear HS hmk hMs hq0 hW0 hL0;go_wp2_with fail
 go_loopw [18] (fun y wr=>∃(i:Nat)(ws cur:Array Value),i<=n/\y=.int .i64 i/\VoS w w (w.heap.size+1) A (A+1) #[m,a,g,p,c,d] ws cur wr/\Was L i ws/\Laid m a g p c d L i cur) (fun y _=>n-(intOf y).toNat)
 case atStart=>exact⟨0,Z,Mk,Nat.zero_le _,rfl,uh HI⟩
 case round =>
  obtain⟨i,ws,cur,hi,rfl,hV,hW,hD⟩:=hrel;clear HI;by_cases hlt:i<n
  .have d1:(i:Int)<(n:Int):=by omega
   have hltL:i<L.length:=by omega
   obtain⟨gL,rfl,hgl,k0,k1⟩:=uh HL i hlt;obtain⟨k,hk,hk1,hk2,hds⟩:=uh HK i hlt;have HWP:=aa (hW.put hltL k (by omega) hk);have HDP:=aa fun x t hv=>hD.put hltL x (k:Int) t hv
   have HVD:=aa (gC m a g p c d L i hltL);have hwk:=hW.2 k (by omega);obtain⟨y0,hy0⟩:∃y0,cur[i*3]?=some y0:=⟨_,Array.getElem?_eq_getElem (by rw[hD.1,hn];omega)⟩;obtain⟨y1,hy1⟩:∃y1,cur[i*3+1]?=some y1:=⟨_,Array.getElem?_eq_getElem (by rw[hD.1,hn];omega)⟩;obtain⟨y2,hy2⟩:∃y2,cur[i*3+2]?=some y2:=⟨_,Array.getElem?_eq_getElem (by rw[hD.1,hn];omega)⟩;replace k0:=(hV.b.cell (p:=⟨gL,i*2,none⟩) hgl).trans k0;replace k1:=(hV.b.cell (p:=⟨gL,i*2+1,none⟩) hgl).trans k1;rw[hk]at k0;generalize hO:L[i]'(by omega)=o at*;obtain⟨kd,dt⟩:=o;dsimp only at hk k1 hds;subst hk;have HV:=aa hV;have hlA:A+1<wr.heap.size:=(ge.1 hV.g).1;clear hV hW hD HL HK;go_upto_region 7 with fail
   refine bb (fun q=>VoS w w (w.heap.size+1) A (A+1) #[m,a,g,p,c,d] ws cur q/\q.heap[wr.heap.size]?=some (.cells #[k,dt] 105))
    ⟨HV.out.step ((zC _ _).alloc (zD _) _),zF wr _⟩ ?_
   rintro q1⟨hV1,hO1⟩;generalize wr.heap.size=N1 at*;have hl1:N1<q1.heap.size:=(ge.1 hO1).1;have HV1:=aa (zA hV1 hO1);obtain⟨c0,c1,_,_⟩:=av hO1;clear hV1 hO1 HV k0 k1;obtain⟨x0,x1,x2,x3,x4,x5,bl,hSh,hRule,hNo,hWas,hYes⟩:=uh HJ k dt i HVD.out;have HF:=aa (And.intro hNo (And.intro hWas hYes));clear hNo hWas hYes HVD HJ;go_cut [10,11] (fun u v wx=>∃N2,u=.pointer (some ⟨N2,0,none⟩)/\v=.bool bl/\VoS w w.heap.size (w.heap.size+1) A (A+1) #[.int .i64 m,.int .i64 a,.int .i64 g,.bool p,.bool c,.bool d] ws cur wx/\wx.heap[N1]?=some (.cells #[.int .i64 k,.string dt] 105)/\wx.heap[N2]?=some (.cells #[x0,x1,x2,x3,x4,x5] 191))
   case first =>
    rcases hSh with⟨s,f,f2,f3,f4,f5,rfl,rfl,rfl,rfl,rfl,rfl⟩|⟨rfl,rfl,rfl,rfl,rfl,rfl⟩
    all_goals
     go_wp2_with fail
     refine(hRule _ _ HV1.out.1.m).mono ?_;rintro e w3⟨rfl,hb3⟩;have HV3:=aa (zA (HV1.out.1.step hb3) ((hb3.block N1 hl1).trans HV1.out.2));have hl3:N1<w3.heap.size:=Nat.lt_of_lt_of_le hl1 hb3.size;clear hb3 HV1 hl1 hRule c0 c1;go_wp2_with fail
     go_meet;exact⟨_,rfl,rfl,HV3.out.1.step ((zC _ _).alloc (zD _) _),(zG _ _ _ hl3).trans HV3.out.2,zF w3 _⟩
   case rest =>
   obtain⟨N2,hu10,hu11,hV4,hO4,hR4⟩:=hcut;subst hu10 hu11;clear hSh hRule HV1 c0 c1 hl1;have HV4:=aa (zA hV4 (zA hO4 hR4));obtain⟨c0,c1,_,_⟩:=av hO4;obtain⟨r0,r1,r2,r3,r4,r5⟩:=aJ hR4;obtain⟨b0,b1,b2,b3,b4,b5⟩:=aJ hV4.c;have a0:wc.cell? (A,k)=some (.bool (cQ k (L.take i))):=by rw[cr hV4.a];exact hwk
   clear hV4 hO4 hR4;have hk3:(k:Int)<256:=by omega
   have hk0:(0:Int)<=(k:Int):=by omega
   generalize hwb:cQ k (L.take i)=wb at*;cases bl
   .have HVV:=HF.out.1 rfl;have HD:=aa (uh HDP 4 dt HVV);clear HF HDP HVV;go_wp2_with fail
    refine(iB k dt _ hds).mono ?_;rintro e w5⟨rfl,hb5⟩;have h5:=HV4.out.1.step hb5;have hO5:=(hb5.block N1 (ge.1 HV4.out.2.1).1).trans HV4.out.2.1;have g0:w5.cell? ⟨A+1,i*3,none⟩=some y0:=by rw[cr h5.g];exact hy0
    have g1:w5.cell? ⟨A+1,i*3+1,none⟩=some y1:=by rw[cr h5.g];exact hy1
    have g2:w5.cell? ⟨A+1,i*3+2,none⟩=some y2:=by rw[cr h5.g];exact hy2
    have f0:=aX h5.g (i*3);have f1:=aX h5.g (i*3+1);have f2:=aX h5.g (i*3+2);have HV5:=aa (zA h5 hO5);clear h5 hO5 hb5 HV4 c0 c1 r0 r1 r2 r3 r4 r5 b0 b1 b2 b3 b4 b5 a0 hwk hy0 hy1 hy2;go_upto_region 11 with fail
    refine bb (fun q=>VoS w w (w.heap.size+1) A (A+1) #[m,a,g,p,c,d] ws (((cur.setIfInBounds (i*3) (4:Int)).setIfInBounds (i*3+1) k).setIfInBounds (i*3+2) dt) q/\q.heap[N1]?=some (.cells #[k,dt] 105))
     ⟨HV5.out.1.putG (by omega) (by omega) (by omega) (by omega) _ _ _ _ _ _,by
      rw[zJ _ _ _ _ (by simp;omega),zJ _ _ _ _ (by simp;omega),zJ _ _ _ _ (by simp;omega)];exact HV5.out.2⟩ ?_
    rintro q6⟨hV6,hO6⟩;obtain⟨c0,c1,_,_⟩:=av hO6;obtain⟨y3,hy3⟩:∃y3,ws[k]?=some y3:=⟨_,Array.getElem?_eq_getElem (by have:=HWP.out.1;simp at this;omega)⟩;have a0:q6.cell? (A,k)=some y3:=by rw[cr hV6.a];exact hy3
    have fa:=aX hV6.a k;have HV6:=aa (hV6.putA (by omega) (by omega) (by omega) (by omega) k true);clear hV6 hO6 HV5 g0 g1 g2 f0 f1 f2 hy3;go_wp2_with fail
    go_roundw
    case rel=>exact⟨i+1,_,_,by omega,by go_num,uh HV6,uh HWP,uh HD⟩
    case measure=>simp[intOf];omega
   .cases wb
    .obtain ⟨x,t',hv,hC⟩:=HF.out.2.2 rfl rfl;have HD:=aa (uh HDP x t' hv);have HC:=aa hC;clear HF HDP hv hC;go_wp2_with fail
     refine(uh HC _).mono ?_;rintro e w5⟨rfl,hb5⟩;have h5:=HV4.out.1.step hb5;have hO5:=(hb5.block N1 (ge.1 HV4.out.2.1).1).trans HV4.out.2.1;have g0:w5.cell? ⟨A+1,i*3,none⟩=some y0:=by rw[cr h5.g];exact hy0
     have g1:w5.cell? ⟨A+1,i*3+1,none⟩=some y1:=by rw[cr h5.g];exact hy1
     have g2:w5.cell? ⟨A+1,i*3+2,none⟩=some y2:=by rw[cr h5.g];exact hy2
     have f0:=aX h5.g (i*3);have f1:=aX h5.g (i*3+1);have f2:=aX h5.g (i*3+2);have HV5:=aa (zA h5 hO5);clear h5 hO5 hb5 HV4 c0 c1 r0 r1 r2 r3 r4 r5 b0 b1 b2 b3 b4 b5 a0 hwk hy0 hy1 hy2;go_upto_region 11 with fail
     refine bb (fun q=>VoS w w (w.heap.size+1) A (A+1) #[m,a,g,p,c,d] ws (((cur.setIfInBounds (i*3) x).setIfInBounds (i*3+1) k).setIfInBounds (i*3+2) t') q/\q.heap[N1]?=some (.cells #[k,dt] 105))
      ⟨HV5.out.1.putG (by omega) (by omega) (by omega) (by omega) _ _ _ _ _ _,by
       rw[zJ _ _ _ _ (by simp;omega),zJ _ _ _ _ (by simp;omega),zJ _ _ _ _ (by simp;omega)];exact HV5.out.2⟩ ?_
     rintro q6⟨hV6,hO6⟩;obtain⟨c0,c1,_,_⟩:=av hO6;obtain⟨y3,hy3⟩:∃y3,ws[k]?=some y3:=⟨_,Array.getElem?_eq_getElem (by have:=HWP.out.1;simp at this;omega)⟩;have a0:q6.cell? (A,k)=some y3:=by rw[cr hV6.a];exact hy3
     have fa:=aX hV6.a k;have HV6:=aa (hV6.putA (by omega) (by omega) (by omega) (by omega) k true);clear hV6 hO6 HV5 g0 g1 g2 f0 f1 f2 hy3;go_wp2_with fail
     go_roundw
     case rel=>exact⟨i+1,_,_,by omega,by go_num,uh HV6,uh HWP,uh HD⟩
     case measure=>simp[intOf];omega
    .have HVV:=HF.out.2.1 rfl;have HD:=aa (uh HDP 4 dt HVV);clear HF HDP HVV;go_wp2_with fail
     refine(iB k dt _ hds).mono ?_;rintro e w5⟨rfl,hb5⟩;have h5:=HV4.out.1.step hb5;have hO5:=(hb5.block N1 (ge.1 HV4.out.2.1).1).trans HV4.out.2.1;have g0:w5.cell? ⟨A+1,i*3,none⟩=some y0:=by rw[cr h5.g];exact hy0
     have g1:w5.cell? ⟨A+1,i*3+1,none⟩=some y1:=by rw[cr h5.g];exact hy1
     have g2:w5.cell? ⟨A+1,i*3+2,none⟩=some y2:=by rw[cr h5.g];exact hy2
     have f0:=aX h5.g (i*3);have f1:=aX h5.g (i*3+1);have f2:=aX h5.g (i*3+2);have HV5:=aa (zA h5 hO5);clear h5 hO5 hb5 HV4 c0 c1 r0 r1 r2 r3 r4 r5 b0 b1 b2 b3 b4 b5 a0 hwk hy0 hy1 hy2;go_upto_region 11 with fail
     refine bb (fun q=>VoS w w (w.heap.size+1) A (A+1) #[m,a,g,p,c,d] ws (((cur.setIfInBounds (i*3) (4:Int)).setIfInBounds (i*3+1) k).setIfInBounds (i*3+2) dt) q/\q.heap[N1]?=some (.cells #[k,dt] 105))
      ⟨HV5.out.1.putG (by omega) (by omega) (by omega) (by omega) _ _ _ _ _ _,by
       rw[zJ _ _ _ _ (by simp;omega),zJ _ _ _ _ (by simp;omega),zJ _ _ _ _ (by simp;omega)];exact HV5.out.2⟩ ?_
     rintro q6⟨hV6,hO6⟩;obtain⟨c0,c1,_,_⟩:=av hO6;obtain⟨y3,hy3⟩:∃y3,ws[k]?=some y3:=⟨_,Array.getElem?_eq_getElem (by have:=HWP.out.1;simp at this;omega)⟩;have a0:q6.cell? (A,k)=some y3:=by rw[cr hV6.a];exact hy3
     have fa:=aX hV6.a k;have HV6:=aa (hV6.putA (by omega) (by omega) (by omega) (by omega) k true);clear hV6 hO6 HV5 g0 g1 g2 f0 f1 f2 hy3;go_wp2_with fail
     go_roundw
     case rel=>exact⟨i+1,_,_,by omega,by go_num,uh HV6,uh HWP,uh HD⟩
     case measure=>simp[intOf];omega
  .have e:i=n:=by omega
   subst e;have d1:¬((i:Int)<(i:Int)):=by omega
   have hlA:=hl2;go_wp2
   go_ret
   exact⟨_,rfl,⟨A+1,cur,by rw[eq];rfl,by omega,hV.g,by rw[eq,hD.1,hn],fun j hj=>hD.2 j (by rw[eq]at hj;exact hj)⟩,hV.b⟩
def mx(l:List (Int × Op.Opt)):Int:=l.foldl (fun m v=>max m v.1) 2
def fl(x:Int)(l:List (Int × Op.Opt)):List Op.Opt:=(l.filter fun v=>v.1==x).map fun v=>v.2
theorem sq(l:List (Int × Op.Opt))(v:Int × Op.Opt):mx (l++[v])=max (mx l) v.1:=by unfold mx;rw[List.foldl_append];rfl
theorem iC(x:Int)(l:List (Int × Op.Opt))(v:Int × Op.Opt):fl x (l++[v])=fl x l++if v.1==x then[v.2]else[]:=by
 unfold fl;rw[List.filter_append,List.map_append];congr 1
 cases h:(v.1==x)<;>simp[h]
theorem kl(x:Int)(l:List (Int × Op.Opt)):(fl x l).length<=l.length:=by
 unfold fl;rw[List.length_map];exact List.length_filter_le _ _
theorem uN:(prog.info? 97).map (·.size)=some 2:=by kernel_rfl
theorem dM{x0 x1:Value}(h:W.heap[E]?=some (.cells #[x0,x1] 97)):(loadVar 97 (E,0)).run prog W=.ok (.agg #[x0,x1]) W :=
 run_loadVar_row (P:=prog) _ _ 97 97 #[x0,x1] (0,0) _ h underlying97 rfl uN
structure AnS(w:World)(x:Int)(v:Value)(q:World):Prop where
 r:q.heap[w.heap.size]?=some (.cells #[(0:Int),()] 97)
 a:q.heap[w.heap.size+1]?=some (.cells #[x,v] 97)
 b:Below w w q
theorem AnS.lt(h:AnS w x v q):w.heap.size+1<q.heap.size:=(ge.1 h.a).1
theorem AnS.step{N:Nat}(h:AnS w x v q)(hb:Below N q q')(hN:w.heap.size+1<N):AnS w x v q' :=
 ⟨(hb.block _ (by omega)).trans h.r,(hb.block _ (by omega)).trans h.a,h.b.trans (hb.mono (by omega))⟩
theorem AnS.put0(h:AnS w x v q)(y:Int):AnS w y v (q.setCell (w.heap.size+1,0) y) :=
 ⟨by rw[zJ _ _ _ _ (by simp)];exact h.r,zH _ _ 0 _ _ _ h.a,h.b.setCell (p:=(w.heap.size+1,0)) (Nat.le_succ _) _⟩
theorem AnS.put1(h:AnS w x v q)(y:Value):AnS w x y (q.setCell (w.heap.size+1,1) y) :=
 ⟨by rw[zJ _ _ _ _ (by simp)];exact h.r,zH _ _ 1 _ _ _ h.a,h.b.setCell (p:=(w.heap.size+1,1)) (Nat.le_succ _) _⟩
theorem oD(V:List (Int × Op.Opt))(v:Value)(w:World)(hN:V.length<=20)(hv:D5 0 V v w):Calls prog 164 #[v] w fun e w'=>∃ad cp,e=.returned (.agg #[.int .i64 (mx V),.slice ad (fl (mx V) V).length cp])/\w'.ownsRow w 105 2 (.slice ad (fl (mx V) V).length cp) (fl (mx V) V).length (aj (fl (mx V) V))/\Below w w w':=by
 obtain⟨G,cur,rfl,_,hg,hcs,hcu⟩:=hv;have hgl:G<w.heap.size:=(ge.1 hg).1;obtain⟨n,hn⟩ := ex V.length;have HL:Hid (∀i (hi:i<n) (q:World),Below w w q->q.cell? ⟨G,i*3,none⟩=some (.int .i64 (V[i]'(by omega)).1)/\q.cell? ⟨G,i*3+1,none⟩=some (.int .i64 (V[i]'(by omega)).2.kind)/\q.cell? ⟨G,i*3+2,none⟩=some (.string (V[i]'(by omega)).2.data)):=by
  refine aa fun i hi q hb=>?_
  have e:=(hb.block G hgl).trans hg;have h3:=mK V i (V[i]'(by omega)) (List.getElem?_eq_getElem (by omega));exact⟨by rw[cr e];exact(hcu _ (by omega)).trans h3.1,by rw[cr e];exact(hcu _ (by omega)).trans h3.2.1,by rw[cr e];exact(hcu _ (by omega)).trans h3.2.2⟩
 have HT:Hid (∀i (hi:i<n),V.take (i+1)=V.take i++[V[i]'(by omega)]):=aa fun i hi=>List.take_succ_eq_append_getElem (by omega)
 have HA:Hid (V.take n=V):=aa (by rw[<- hn];exact List.take_length);obtain⟨X,hX⟩ := ex (mx V);have HX:=aa hX;rw[hn]at hN;rw[hn,hX];clear hX;obtain⟨hs,q0,q1,hb0⟩:=br w (.cells #[(0:Int),()] 97) (.cells #[(2:Int),()] 97);have HQ:Hid (AnS w 2 () ((w.alloc (.cells #[(0:Int),()] 97)).alloc (.cells #[(2:Int),()] 97))):=aa ⟨q0,q1,hb0⟩;clear hs q0 q1 hb0 hg hcs hcu hgl;go_enter func164,ntmps164
 go_upto_region 2 with fail
 refine bb _ HQ.out ?_;clear HQ;rintro q0 hq0;go_wp2_with fail
 go_loopw [11] (fun y wr=>∃(i:Nat),i<=n/\y=.int .i64 i/\AnS w (mx (V.take i)) () wr) (fun y _=>n-(intOf y).toNat)
 case atStart=>exact⟨0,Nat.zero_le _,rfl,hq0⟩
 case round =>
  obtain⟨i,hi,rfl,hS⟩:=hrel;clear hq0;by_cases hlt:i<n
  .have d1:(i:Int)<(n:Int):=by omega
   obtain⟨k0,k1,k2⟩:=uh HL i hlt wr hS.b;have HM:=aa ((congrArg mx (uh HT i hlt)).trans (sq _ _));generalize V[i]'(by omega)=o at*;obtain⟨x,kd,dt⟩:=o;dsimp only at k0 k1 k2;go_upto_region 5 with fail
   refine bb (fun q=>AnS w (mx (V.take i)) () q/\q.heap[wr.heap.size]?=some (.cells #[x,kd,dt] 264))
    ⟨hS.step ((zC _ _).alloc (zD _) _) hS.lt,zF wr _⟩ ?_
   rintro q1⟨hS1,hv1⟩;generalize wr.heap.size=N1 at*;obtain⟨a0,a1,f0,f1⟩:=av hS1.a;obtain⟨v0,v1,v2,_,_,_⟩:=jj hv1;have HS1:=aa hS1;clear hS hS1 hv1 k0 k1 k2;generalize hm:mx (V.take i)=y at*;go_wp2_with fail
   all_goals
    go_roundw
    case rel =>
     refine⟨i+1,by omega,by go_num,?_⟩;rw[uh HM];dsimp only;exact HS1.out.put0 _
    case measure=>simp[intOf];omega
  .have e:i=n:=by omega
   subst e;have d1:¬((i:Int)<(i:Int)):=by omega
   rw[uh HA,uh HX]at hS;go_wp2_with fail
   go_loopw [24] (fun y wq=>∃(j:Nat)(ad:Option Addr)(cp:Nat),j<=i/\y=.int .i64 j/\AnS w X (.slice ad (fl X (V.take j)).length cp) wq/\wq.ownsRow (w.heap.size+1+1) 105 2 (.slice ad (fl X (V.take j)).length cp) (fl X (V.take j)).length (aj (fl X (V.take j)))) (fun y _=>i-(intOf y).toNat)
   case atStart=>exact⟨0,none,0,Nat.zero_le _,rfl,hS,⟨rfl,Or.inl ⟨rfl,rfl⟩⟩⟩
   case round =>
    obtain⟨j,ad,cp,hj,rfl,hQ,ho⟩:=hrel;clear hS;by_cases hlj:j<i
    .have d2:(j:Int)<(i:Int):=by omega
     obtain⟨k0,k1,k2⟩:=uh HL j hlj wr hQ.b;have HM:=aa ((congrArg (fl X) (uh HT j hlj)).trans (iC X _ _));have hln:(fl X (V.take j)).length<=20:=zE (kl _ _) (by rw[List.length_take];omega);generalize V[j]'(by omega)=o at*;obtain⟨x,kd,dt⟩:=o;dsimp only at k0 k1 k2;generalize fl X (V.take j)=F at*;have hwl:=hQ.lt;go_upto_region 10 with fail
     refine bb (fun q=>AnS w X (ad,F.length,cp) q/\q.heap[wr.heap.size]?=some (.cells #[x,kd,dt] 264)/\q.ownsRow (w.heap.size+1+1) 105 2 (ad,F.length,cp) F.length (aj F))
      ⟨hQ.step ((zC _ _).alloc (zD _) _) hQ.lt,zF wr _,ho.alloc _⟩ ?_
     rintro q1⟨hS1,hv1,ho1⟩;generalize wr.heap.size=N1 at*;obtain⟨a0,a1,f0,f1⟩:=av hS1.a;obtain⟨v0,v1,v2,_,_,_⟩:=jj hv1;have hs1:=hS1.lt;have HS1:=aa (zA hS1 ho1);clear hQ hS1 hv1 k0 k1 k2 ho ho1;cases hx:(x==X)
     .rw [hx]at HM;go_wp2_with fail
      go_roundw
      case rel =>
       refine⟨j+1,ad,cp,by omega,by go_num,?_,?_⟩
       .rw [uh HM,if_neg (by decide),List.append_nil];exact HS1.out.1
       .rw [uh HM,if_neg (by decide),List.append_nil];exact HS1.out.2
      case measure=>simp[intOf];omega
     .rw [hx]at HM
      go_wp2_with (first
       | (at_builtin;refine cD rfl _ _ rfl (w.heap.size+1+1) (ad,F.length,cp) F F.length rfl rfl HS1.out.2 kd dt rfl (by omega) hs1 ?_;rintro v6 w6 ho6 hg6;obtain⟨a6,c6,rfl⟩:=af ho6
          have hb6:Below (w.heap.size+1+1) q1 w6:=((zC _ _).alloc (by omega) _).grown hg6 (by simp;omega) (fun q hq=>(World.ownsRow.lt HS1.out.2 q hq).1);have hS6:=HS1.out.1.step hb6 (Nat.lt_succ_self _);obtain⟨a0,a1,f0,f1⟩:=av hS6.a;have HS6:=aa (zA hS6 ho6);clear hS6 ho6 hg6 hb6))
      go_roundw
      case rel =>
       have hl1:F.length+1=(F++[Op.Opt.mk kd dt]).length:=by rw[List.length_append];rfl
       refine⟨j+1,a6,c6,by omega,by go_num,?_,?_⟩
       .rw [uh HM,if_pos rfl,<- hl1];exact HS6.out.1.put1 _
       .rw [uh HM,if_pos rfl,<- hl1];exact aY HS6.out.2 fun q hq _=>zJ _ _ _ _ (by simp;omega)
      case measure=>simp[intOf];omega
    .have e:j=i:=by omega
     subst e;have d2:¬((j:Int)<(j:Int)):=by omega
     rw[uh HA]at hQ ho;obtain⟨a0,a1,_,_⟩:=av hQ.a;obtain⟨r0,r1,f0,f1⟩:=av hQ.r;have HQ:=aa hQ;have HO:=aa ho;clear hQ ho;go_wp2
     refine bodyPost_ret (v:=.agg #[X,.slice ad (fl X V).length cp]) (by simp[results,results164,asAddr,dM (aM HQ.out.r X (.slice ad (fl X V).length cp))]) rfl ⟨ad,cp,rfl,?_,?_⟩
     .refine dy (aY HO.out fun q hq _=>?_) (by omega);rw[zJ _ _ _ _ (by simp;omega),zJ _ _ _ _ (by simp;omega)]
     .exact (HQ.out.b.setCell (p:=(w,0)) (zD _) _).setCell (p:=(w,1)) (zD _) _
def b_(m a g:Nat)(p c d:Bool)(L:List Op.Opt):List (Int × Op.Opt):=dL m a g p c d L L.length
theorem pP(h:aK m a g=true):a<4294967296/\g<4294967296:=by
 simp only[aK,bh,zK,decide_eq_true_eq]at h;omega
theorem oE(m a g:Int)(p c d:Bool)(L:List Op.Opt)(v:Value)(w:World)(hm:L.length<=maxLen)(hL:HoldsO w v L)(h:aK m a g=false\/Op.right L=false):Calls prog 149 #[cN m a g p c d,v] w fun e w'=>e=.returned (.agg #[(0:Int),()])/\Below w w w':=by
 have C1:=aa fun q=>dm m a g p c d q
 obtain⟨hs,q0,q1,hb0⟩:=br w (.cells #[m,a,g,p,c,d] 24) (.cells #[(0:Int),()] 97);have HQ:=aa (zA hs (zA q0 (zA q1 hb0)));have C2:=aa fun q (hq:Below w w q)=>nm v L q hm (hL.below hq rfl)
 obtain⟨ad,cp,rfl⟩:=hL.form;generalize L.length=n at*;clear hs q0 q1 hb0 hL;by_cases hc:aK m a g=true
 .have hr:Op.right L=false:=by
   rcases h with h|h
   .rw [hc]at h;cases h
   .exact h
  rw[hc]at C1;rw[hr]at C2;go_enter func149,ntmps149
  go_wp2_with fail
  refine(uh C1 _).mono ?_;rintro e w1⟨rfl,hb1⟩;have hB1:=HQ.out.2.2.2.trans (hb1.mono (by rw[HQ.out.1];omega));have hr1:=(hb1.block (w.heap.size+1) (by rw[HQ.out.1];omega)).trans HQ.out.2.2.1;have H1:=aa (zA hB1 hr1);clear hB1 hr1 hb1 HQ;go_wp2_with fail
  refine(uh C2 _ H1.out.1).mono ?_;rintro e w2⟨rfl,hb2⟩;have hB2:=H1.out.1.trans (hb2.mono H1.out.1.size);have hr2:=(hb2.block (w.heap.size+1) (ge.1 H1.out.2).1).trans H1.out.2;obtain⟨c0,c1,f0,f1⟩:=av hr2;have H2:=aa (zA hB2 hr2);clear hB2 hr2 hb2 H1;go_wp2
  refine bodyPost_ret (v:=.agg #[(0:Int),()]) (by simp[results,results149,asAddr,dM (aM H2.out.2 (0:Int) ())]) rfl ⟨rfl,?_⟩;exact(H2.out.1.setCell (p:=(w.heap.size+1,0)) (Nat.le_succ _) _).setCell (p:=(w.heap.size+1,1)) (Nat.le_succ _) _
 .rw [Bool.not_eq_true]at hc;rw[hc]at C1;clear C2;go_enter func149,ntmps149
  go_wp2_with fail
  refine(uh C1 _).mono ?_;rintro e w1⟨rfl,hb1⟩;have hB2:=HQ.out.2.2.2.trans (hb1.mono (by rw[HQ.out.1];omega));have hr2:=(hb1.block (w.heap.size+1) (by rw[HQ.out.1];omega)).trans HQ.out.2.2.1;obtain⟨c0,c1,f0,f1⟩:=av hr2;have H2:=aa (zA hB2 hr2);clear hB2 hr2 hb1 HQ;go_wp2
  refine bodyPost_ret (v:=.agg #[(0:Int),()]) (by simp[results,results149,asAddr,dM (aM H2.out.2 (0:Int) ())]) rfl ⟨rfl,?_⟩;exact(H2.out.1.setCell (p:=(w.heap.size+1,0)) (Nat.le_succ _) _).setCell (p:=(w.heap.size+1,1)) (Nat.le_succ _) _
theorem mN(m a g:Nat)(p c d:Bool)(L:List Op.Opt)(v:Value)(w:World)(hL:HoldsO w v L)(hc:aK m a g=true)(hr:Op.right L=true):Calls prog 149 #[cN m a g p c d,v] w fun e w'=>∃ad cp,e=.returned (.agg #[.int .i64 (mx (b_ m a g p c d L)),.slice ad (fl (mx (b_ m a g p c d L)) (b_ m a g p c d L)).length cp])/\w'.ownsRow w 105 2 (.slice ad (fl (mx (b_ m a g p c d L)) (b_ m a g p c d L)).length cp) (fl (mx (b_ m a g p c d L)) (b_ m a g p c d L)).length (aj (fl (mx (b_ m a g p c d L)) (b_ m a g p c d L)))/\Below w w w':=by
 have hl20:=Op.right_len hr;have hm:L.length<=maxLen:=by unfold maxLen;omega
 obtain⟨ha,hg⟩:=pP hc;have C1:=aa fun q=>dm m a g p c d q
 obtain⟨hs,q0,q1,hb0⟩:=br w (.cells #[m,a,g,p,c,d] 24) (.cells #[(0:Int),()] 97);have HQ:=aa (zA hs (zA q0 (zA q1 hb0)));have C2:=aa fun q (hq:Below w w q)=>nm v L q hm (hL.below hq rfl)
 obtain⟨ad,cp,rfl⟩:=hL.form;have C3:=aa fun q (hq:Below w w q)=>uM m a g p c d L ad cp q ha hg hr (hL.below hq rfl)
 have hVl:(b_ m a g p c d L).length=L.length:=eq _ _ _ _ _ _ _ _;change Hid (∀q,Below w w q->Calls _ _ _ q fun e w'=>∃v,e=.returned v/\D5 q (b_ m a g p c d L) v w'/\Below q q w')at C3
 generalize b_ m a g p c d L=V at*;have C4:=aa fun v q hv=>oD V v q (by omega) hv
 clear hVl;rw[hc]at C1;rw[hr]at C2;generalize L.length=n at*;generalize mx V=X at*;generalize fl X V=F at*;clear hs q0 q1 hb0 hL;go_enter func149,ntmps149
 go_wp2_with fail
 refine(uh C1 _).mono ?_;rintro e w1⟨rfl,hb1⟩;have hB1:=HQ.out.2.2.2.trans (hb1.mono (by rw[HQ.out.1];omega));have hr1:=(hb1.block (w.heap.size+1) (by rw[HQ.out.1];omega)).trans HQ.out.2.2.1;have hc1:=(hb1.block w (by rw[HQ.out.1];omega)).trans HQ.out.2.1;have H1:=aa (zA hB1 (zA hr1 hc1));clear hB1 hr1 hb1 HQ hc1 C1;go_wp2_with fail
 refine(uh C2 _ H1.out.1).mono ?_;rintro e w2⟨rfl,hb2⟩;have hB2:=H1.out.1.trans (hb2.mono H1.out.1.size);have hr2:=(hb2.block (w.heap.size+1) (ge.1 H1.out.2.1).1).trans H1.out.2.1;have hc2:=(hb2.block w (ge.1 H1.out.2.2).1).trans H1.out.2.2;obtain⟨b0,b1,b2,b3,b4,b5⟩:=aJ hc2;have H2:=aa (zA hB2 hr2);clear hB2 hr2 hb2 H1 hc2 C2;go_wp2_with fail
 refine(uh C3 _ H2.out.1).mono ?_;rintro e w3⟨v3,rfl,hv3,hb3⟩;have hB3:=H2.out.1.trans (hb3.mono H2.out.1.size);have hr3:=(hb3.block (w.heap.size+1) (ge.1 H2.out.2).1).trans H2.out.2;have H3:=aa (zA hB3 hr3);have HV3:Hid (D5 0 V v3 w3):=aa (by obtain⟨G,cur,e1,e2,e3⟩:=hv3;exact⟨G,cur,e1,Nat.zero_le _,e3⟩);obtain⟨G,cur,rfl,_,_⟩:=hv3;clear hB3 hr3 hb3 H2 C3 b0 b1 b2 b3 b4 b5;go_wp2_with fail
 refine(uh C4 _ _ HV3.out).mono ?_;rintro e w4⟨ad4,cp4,rfl,ho4,hb4⟩;have hB4:=H3.out.1.trans (hb4.mono H3.out.1.size);have hl3:w.heap.size+1<w3.heap.size:=(ge.1 H3.out.2).1;have hr4:=(hb4.block (w.heap.size+1) hl3).trans H3.out.2;obtain⟨c0,c1,f0,f1⟩:=av hr4;have H4:=aa (zA hB4 (zA hr4 ho4));clear hB4 hr4 hb4 H3 ho4 C4 HV3;go_wp2
 refine bodyPost_ret (v:=.agg #[X,(ad4,F.length,cp4)]) (by simp[results,results149,asAddr,dM (aM H4.out.2.1 X (ad4,F.length,cp4))]) rfl ⟨ad4,cp4,rfl,?_,?_⟩
 .refine dy (aY H4.out.2.2 fun q hq _=>?_) (by omega);rw[zJ _ _ _ _ (by simp;omega),zJ _ _ _ _ (by simp;omega)]
 .exact (H4.out.1.setCell (p:=(w.heap.size+1,0)) (Nat.le_succ _) _).setCell (p:=(w.heap.size+1,1)) (Nat.le_succ _) _
abbrev kd(o:Op.Opt):Int × Nat:=(o.kind,o.data.size)
theorem oF{o:Op.Opt}(n:Nat)(h:bN o.kind=some o.data.size):(nI m a g o.kind n).size=o.data.size:=by
 unfold bN at h;unfold nI;by_cases h1:o.kind=1
 .rw [if_pos h1]at h|-;injection h
 rw[if_neg h1]at h|-;by_cases h2:o.kind=2
 .rw [if_pos h2]at h|-;injection h
 rw[if_neg h2]at h|-;by_cases h5:o.kind=5
 .rw [if_pos h5]at h|-;injection h
 rw[if_neg h5]at h|-;by_cases h7:o.kind=7
 .rw [if_pos h7]at h|-;injection h
 rw[if_neg h7]at h|-;by_cases h8:o.kind=8
 .rw [if_pos h8]at h|-;injection h
 rw[if_neg h8]at h|-;by_cases h9:o.kind=9
 .rw [if_pos h9]at h;injection h
 rw[if_neg h9]at h;cases h
theorem uO(m a g:Nat)(p c d:Bool)(o:Op.Opt):kd (one m a g p c d o).2=kd o:=by
 unfold one;split
 .next h =>
  show(o.kind,ByteArray.size (if _ then _ else _))=_
  split
  .rw [oF _ h]
  .rfl
 .rfl
theorem sr(m a g:Nat)(p c d:Bool)(l:List Op.Opt)(o:Op.Opt):kd (gB m a g p c d l o).2=kd o:=by
 unfold gB;split
 .rfl
 .exact uO _ _ _ _ _ _ _
theorem uP(m a g:Nat)(p c d:Bool)(L:List Op.Opt)(n:Nat)(hn:n<=L.length):(dL m a g p c d L n).map (fun v=>kd v.2)=(L.take n).map kd:=by
 induction n with
 | zero=>rfl
 | succ n ih =>
  rw[fw,List.map_append,ih (by omega),List.take_succ_eq_append_getElem (by omega),List.map_append,gC _ _ _ _ _ _ _ _ (by omega)];show _++[kd _]=_++[kd _]
  rw[sr]
theorem nJ(m a g:Nat)(p c d:Bool)(L:List Op.Opt):(b_ m a g p c d L).map (fun v=>kd v.2)=L.map kd:=by
 have h:=uP m a g p c d L L.length (zD _);rw[List.take_length]at h;exact h
theorem pQ(F:List Op.Opt):(Op.bytes F).length=((F.map kd).map fun x=>x.2+2).sum:=by
 induction F with
 | nil=>rfl
 | cons o F ih =>
  have e1:(Op.one o).length=2+o.data.size:=by unfold Op.one;rw[List.length_append];show 2+o.data.data.toList.length=_;rfl
  rw[Op.bytes_cons,List.length_append,ih,e1];simp;omega
theorem tG(F:List Op.Opt):F.all Op.ok=(F.map kd).all fun x=>decide (1<=x.1/\x.1<=255/\x.2<=20):=by
 rw[List.all_map];rfl
theorem su{l m:List (Int × Nat)}(h:l.Sublist m):(l.map fun x=>x.2+2).sum<=(m.map fun x=>x.2+2).sum:=by
 induction h with
 | slnil=>exact zD _
 | cons a _ ih=>simp only[List.map_cons,List.sum_cons];omega
 | cons_cons a _ ih=>simp only[List.map_cons,List.sum_cons];omega
theorem lC{G:List Op.Opt}(h:(F.map kd).Sublist (G.map kd))(hG:cC G=true):cC F=true:=by
 unfold cC Op.right at hG|-;simp only[zK,decide_eq_true_eq]at hG|-;obtain⟨⟨h1,h2⟩,h3⟩:=hG;rw[pQ]at h3;rw[tG]at h2;have hl:=h.length_le;rw[List.length_map,List.length_map]at hl;refine⟨⟨by omega,?_⟩,?_⟩
 .rw [tG];exact List.all_eq_true.2 fun x hx=>List.all_eq_true.1 h2 x (h.subset hx)
 .rw [pQ];exact zE (su h) h3
theorem pR(x:Int)(V:List (Int × Op.Opt)):((fl x V).map kd).Sublist (V.map fun v=>kd v.2):=by
 unfold fl;rw[List.map_map];exact List.filter_sublist.map _
theorem D6(m a g:Nat)(p c d:Bool)(h:cC L=true)(x:Int):cC (fl x (b_ m a g p c d L))=true:=by
 refine lC ?_ h;have:=pR x (b_ m a g p c d L)
 rw[nJ]at this;exact this
def gX(F A:List Op.Opt):List Op.Opt:=F.filter fun o=>A.any fun x=>x.kind==o.kind
theorem D7(h:cC F=true)(A:List Op.Opt):cC (gX F A)=true:=lC (List.filter_sublist.map _) h
theorem oG(l:List (Int × Op.Opt))(m:Int):m<=l.foldl (fun m v=>max m v.1) m/\∀v∈l,v.1<=l.foldl (fun m v=>max m v.1) m:=by
 induction l generalizing m with
 | nil=>exact⟨Int.le_refl _,fun v hv=>by simp at hv⟩
 | cons a l ih =>
  obtain⟨h1,h2⟩:=ih (max m a.1);refine⟨by simp only[List.foldl_cons];omega,fun v hv=>?_⟩;rcases List.mem_cons.1 hv with rfl|hv
  .simp only[List.foldl_cons];omega
  .exact h2 v hv
theorem ww{l:List (Int × Op.Opt)}{v:Int × Op.Opt}(h:v∈l):v.1<=mx l:=(oG l 2).2 v h
theorem sB(m a g:Nat)(p c d:Bool)(L:List Op.Opt)(h:mx (b_ m a g p c d L)=3):L.Pairwise fun x y=>x.kind≠y.kind:=by
 refine List.pairwise_iff_getElem.2 fun i j hi hj hij e=>?_
 have hm:eO m a g p c d L j∈b_ m a g p c d L:=List.mem_map.2 ⟨j,List.mem_range.2 hj,rfl⟩;have h4:=ww hm;rw[h,gC _ _ _ _ _ _ _ _ hj]at h4;have hw:cQ L[j].kind (L.take j)=true:=by
  refine List.any_eq_true.2 ⟨L[i],?_,by simpa using e⟩;exact List.mem_take_iff_getElem.2 ⟨i,by omega,rfl⟩
 unfold gB at h4;rw[if_pos hw]at h4;exact absurd (show(4:Int)<=3 from h4) (by decide)
def lE(F A:List Op.Opt):List Op.Opt:=F.flatMap fun o=>(A.filter fun x=>x.kind==o.kind).map fun _=>o
theorem uQ{A:List Op.Opt}(h:A.Pairwise fun x y=>x.kind≠y.kind)(o:Op.Opt):((A.filter fun x=>x.kind==o.kind).map fun _=>o)=if(A.any fun x=>x.kind==o.kind)=true then[o]else[]:=by
 induction A with
 | nil=>rfl
 | cons x A ih =>
  have h2:=List.pairwise_cons.1 h;by_cases e:x.kind=o.kind
  .have hn:(A.filter fun x=>x.kind==o.kind)=[]:=List.filter_eq_nil_iff.2 fun y hy hk=>h2.1 y hy (e.trans (by simpa using hk:y.kind=o.kind).symm)
   have he:(x.kind==o.kind)=true:=by simpa using e
   rw[List.filter_cons,hn,List.any_cons];rw[he];rfl
  .have he:(x.kind==o.kind)=false:=by simpa using e
   rw[List.filter_cons,List.any_cons];rw[he,Bool.false_or];exact ih h2.2
theorem sC{A:List Op.Opt}(h:A.Pairwise fun x y=>x.kind≠y.kind):lE F A=gX F A:=by
 unfold lE gX;induction F with
 | nil=>rfl
 | cons o F ih =>
  rw[List.flatMap_cons,ih,uQ h,List.filter_cons];split
  .rfl
  .rfl
theorem uR(m a g:Nat)(p c d:Bool)(L:List Op.Opt)(h:mx (b_ m a g p c d L)=3)(x:Int):(fl x (b_ m a g p c d L)).Pairwise fun x y=>x.kind≠y.kind:=by
 have h1:=pR x (b_ m a g p c d L);rw[nJ]at h1;have h2:(L.map kd).Pairwise fun x y=>x.1≠y.1:=List.pairwise_map.2 (sB m a g p c d L h)
 have h3:((fl x (b_ m a g p c d L)).map kd).Pairwise fun x y=>x.1≠y.1:=List.Pairwise.sublist h1 h2
 rw[List.pairwise_map]at h3;exact h3
def nM(T:TypeId)(f:FuncId)(c:Cx)(a:ByteArray):Prop:=∀(w0 w1:World)(B:Nat)(s:St)(v1 v2 vs vt:Value)(q:World)(n:Nat),Lay T w0 w1 B c s v1 v2 vs vt q->Fit n c s->n<=1000 ->
 Calls prog f #[(B,0),a] q fun r q'=>r=.returned (.tuple #[])/\∃v1 v2 vs vt,Lay T w0 w1 B c (bv c a s) v1 v2 vs vt q'
theorem aw:(prog.info? 74).map (·.size)=some 33:=by kernel_rfl
theorem de(h:W.heap[E]?=some (.cells cs 74))(hs:cs.size=33:=by rfl):(loadVar 74 (E,0)).run prog W=.ok (.agg cs) W :=
 run_loadVar_row (P:=prog) _ _ 74 74 cs (0,0) _ h underlying74 rfl (by rw[hs];exact aw)
abbrev k_:Array Value:=#[.int .i64 0,.int .i64 0,.int .i64 0,.bool false,.bool false,.bool false,.int .i64 0,.int .i64 0,.int .i64 0,.bool false,.bool false,.bool false,.int .i64 0,.int .i64 0,.int .i64 0,.int .i64 0,.int .i64 0,.slice none 0 0,.slice none 0 0,.bool false,.int .i64 0,.int .i64 0,.bool false,.bool false,.bool false,.int .i64 0,.int .i64 0,.bool false,.bool false,.bool false,.slice none 0 0,.slice none 0 0,.int .i64 0]
theorem aV(w:World)(g k:Nat)(cs:Array Value)(h:k≠g):(w.setRow g cs).heap[k]?=w.heap[k]?:=by
 unfold World.setRow;simp[Array.getElem?_modify,Ne.symm h]
theorem az{e:TypeId}{size:Nat}{n:Nat}{xs:List Value}(h:w.ownsRow base e size v n xs){X:Nat}{old:Array Value}(hX:w.heap[X]?=some (.cells old T))(hT:T≠e):(w.setRow X cs).ownsRow base e size v n xs :=
 bZ h fun g hg=>aV w X g cs fun e=>aq h hX hT (e▸hg)
theorem bE(hb:Below w0 w0 q)(cd:Int):EvA w0 (bA cd) (.returned (.agg (aC ag () () () () cd))) q :=
 ⟨_,_,_,_,rfl,World.ownsRow_nil _ _ _ _,World.ownsRow_nil _ _ _ _,World.ownsRow_nil _ _ _ _,World.ownsRow_nil _ _ _ _,Ap.none _ _ _,hb⟩
theorem dU{w1:World}{B:Nat}{c:Cx}{s:St}{v1 v2 vs vt:Value}(h:Lay T w0 w1 B c s v1 v2 vs vt q):q.rangeAt B 0 (aA s.e v1 v2).toList:=by
 intro j u hu;have hj:=(List.getElem?_eq_some_iff.1 hu).1;rw[Nat.zero_add];refine h.cell (i:=j) ?_;show((aA s.e v1 v2).toList++[.int .i64 c.now,.int .i64 c.cc,.int .i64 c.ci,.string c.cd,c.vh,.int .i64 c.ac,c.va,vs,vt])[j]?=some u
 rw[List.getElem?_append_left hj];exact hu
theorem aG(e:En)(a1 a2 a3 a4:Option Addr)(n1 n2 n3 n4 m1 m2 m3 m4:Nat)(cd:Int):(aC e (a1,n1,m1) (a2,n2,m2) (a3,n3,m3) (a4,n4,m4) cd).all (·.oneCell')=true:=by kernel_rfl
theorem jq(A:List ByteArray)(i:Nat)(hi:i<A.length):(A.take (i+1)).any dH=((A.take i).any dH||dH A[i]):=by
 rw[List.take_succ_eq_append_getElem hi,List.any_append,List.any_cons,List.any_nil,Bool.or_false]
theorem hU(c:Cx)(s:St)(A:List ByteArray)(i:Nat)(hi:i<A.length):(A.take (i+1)).foldl (fun s a=>bv c a s) s=bv c A[i] ((A.take i).foldl (fun s a=>bv c a s) s):=by
 rw[List.take_succ_eq_append_getElem hi,List.foldl_append];rfl
theorem Cr{L:List ByteArray}(h:w.ownsRow base 9 1 v L.length (a_ L))(i:Nat)(hi:i<L.length):∃g cp,v=.slice (some (g,0)) L.length cp/\g<w.heap.size/\w.cell? (g,i)=some (.string L[i]):=by
 rcases h.2 with⟨_,h0⟩|⟨g,cap,cur,hv,_,hg,_,_,_,ht⟩
 .omega
 .refine ⟨g,cap,hv,(ge.1 hg).1,?_⟩;rw[cr hg,<- Array.getElem?_toList];have e:=iK L i L[i] (List.getElem?_eq_getElem hi);rw[<- ht,List.getElem?_take,if_pos (by omega)]at e;exact e
end Go.Proofs.YtjdgiimfpkideaaGreatDoor
