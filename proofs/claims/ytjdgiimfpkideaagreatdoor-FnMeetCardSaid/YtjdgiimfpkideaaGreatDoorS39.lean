/- MtI MtD -/
import Derived.Lib.AppendZerosOnto
import Derived.Test.YtjdgiimfpkideaaGreatDoorS32
set_option maxHeartbeats 8000000
set_option maxRecDepth 100000
namespace Go.Proofs.YtjdgiimfpkideaaGreatDoor
open Go.RowKit Go.Proofs.Tryz
variable {W W':World} {base g B:Nat} {v:Value} {L r:List Op.Pk} {pre post X Z:List Value} {T:TypeId} {p q:Op.Pk}
theorem HoldsK.split(h:HoldsK W base v L)(h0:L≠[]):∃g pre post cp,v=.slice (some (g,pre.length)) L.length cp/\W.heap[g]?=some (.cells (pre++ae L++post).toArray 85)/\base<=g/\L.length<=cp/\cp*3<=L.length*3+post.length:=by
 rcases h with⟨_,e⟩|⟨g,o,cp,cur,rfl,h2,h3,h4,h5,h6⟩
 .exact absurd e h0
 .have hle:o+L.length*3<=cur.size:=by omega
  refine⟨g,cur.toList.take o,cur.toList.drop (o+L.length*3),cp,?_,?_,h3,h4,?_⟩
  .rw [List.length_take,Nat.min_eq_left (by simp;omega)]
  .rw [h2];congr 2
   apply Array.ext'
   have e1:(cur.toList.drop o).take (L.length*3)=ae L:=by
    apply List.ext_getElem?
    intro j;rw[List.getElem?_take];split
    .rename_i hj
     rw[List.getElem?_drop,Array.getElem?_toList,h6 j hj]
    .rename_i hj
     rw[List.getElem?_eq_none (by rw[aF];omega)]
   have e2:=List.take_append_drop (L.length*3) (cur.toList.drop o);rw[e1,List.drop_drop]at e2;rw[List.append_assoc,e2,List.take_append_drop]
  .have e:=Array.length_toList (xs:=cur);rw[List.length_drop];omega
theorem HoldsK.join{cp:Nat}(h2:W.heap[g]?=some (.cells (pre++ae L++post).toArray 85))(h3:base<=g)(h4:L.length<=cp)(h5:cp*3<=L.length*3+post.length):HoldsK W base (.slice (some (g,pre.length)) L.length cp) L:=by
 refine Or.inr ⟨g,_,cp,_,rfl,h2,h3,h4,?_,fun j hj=>?_⟩
 .simp [aF];omega
 .rw [List.getElem?_toArray,List.append_assoc,List.getElem?_append_right (by omega),Nat.add_sub_cancel_left,List.getElem?_append_left (by rw[aF];exact hj)]
theorem ff{Y:List Value}(h:W.heap[B]?=some (.cells (X++Y++Z).toArray T)):W.there B X.length Y.length:=fun j hj=>by
 have:=aS h j Y[j] (List.getElem?_eq_getElem hj)
 rw[this];exact⟨rfl,aX h _⟩
theorem fg{P:Program}(w:World)(dT sT ty elem:TypeId)(b o dLen dCap sb so sLen sCap n size:Nat)(cs:List Value)(hu:P.underlying dT=some (.slice elem))(hs:(P.info? elem).map (·.size)=some size)(hn:Nat.min sLen dLen=n)(hl:cs.length=n*size)(hsrc:w.rangeAt sb so cs)(ht:w.there b o cs.length)(h1:∀v∈cs,v.oneCell'=true):(Builtin.copy_ #[dT,sT] ty #[.slice (some (b,o)) dLen dCap,.slice (some (sb,so)) sLen sCap]).run P w=.ok (goInt n) (w.setCells b o cs):=by
 have hld:=run_loadCells_list (P:=P) w (sb,so) cs (fun j v hv=>by
  rw[Addr.add_mid];exact hsrc j v hv)
 have hst:=run_storeCells_cells (P:=P) b o cs 0 w (fun j hj=>by simpa using(ht j hj).1) (fun j hj=>by simpa using(ht j hj).2) h1;rw[hl]at hld;cases hq:P.info? elem with
 | none=>simp[hq]at hs
 | some i =>
  have hi:i.size=size:=by simpa[hq]using hs
  simp[Builtin.copy_,run_underlying hu,Builtin.lenOf,Builtin.firstCells,sizeOf,typeInfo,hq,hi,hn,hld,hst]
theorem xT(a b:Option Addr)(la ca lb cb:Nat)(h1:(a:Option Addr)->(la cap:Nat)->(b:Option Addr)->(lb cap_1:Nat)->Sem Value)(h2:Array Value->Sem Value):Extern.SlicesOverlaps.overlaps.match_4 (fun _=>Sem Value) #[(a,la,ca),(b,lb,cb)] h1 h2=h1 a la ca b lb cb:=rfl
theorem rn(W:World)(g1 g2 o1 o2 n1 c1 n2 c2:Nat)(cu1 cu2:Array Value)(h1:W.heap[g1]?=some (.cells cu1 85))(h2:W.heap[g2]?=some (.cells cu2 85))(hne:g1≠g2):(callFunc 89 #[.slice (some (g1,o1)) n1 c1,.slice (some (g2,o2)) n2 c2]).run prog W=.ok (.value false) W:=by
 rw[run_callFunc_standIn func89 (by kernel_rfl) (by kernel_rfl) (by kernel_rfl) (e:=Extern.SlicesOverlaps.overlaps #[60,60] #[4]) (by kernel_rfl)];have f1:=aX h1 o1;have f2:=aX h2 o2;have hs:=Tryz.sizeOf85 W;delta Extern.SlicesOverlaps.overlaps
 dsimp only;rw[xT];have s1:W.shape? g1=some (85,cu1.size):=by simp[World.shape?,h1]
 have s2:W.shape? g2=some (85,cu2.size):=by simp[World.shape?,h2]
 have f3:=aX h1 cu1.size;have f4:=aX h2 cu2.size;have e0:(g1==g2)=false:=by simpa using hne
 simp[run_underlying underlying60,hs,e0,Result.andThen,hne,f1,f2,f3,f4,s1,s2,noView,viewAt,mayBeOne,stringish,shape,Sem.run]
theorem iH(g o n cp i:Nat)(hi:i<=n)(hc:i<cp)(z:World):(Instr.slice 60 (.slice (some (g,o)) n cp) (some (.int .i64 (i:Int))) none none).run prog z=.ok (.slice (some ⟨g,o+i*3,none⟩) (n-i) (cp-i)) z:=by
 have hs:=Tryz.sizeOf85 z;rw[run_slice_l (P:=prog) (w:=z) 60 (some (g,o)) n cp (by rw[fp];exact underlying60) .i64 i (by omega) (by omega),fp,hs];have:¬(cp=i):=by omega
 simp[Result.andThen,sliced,this,Addr.add]
theorem l_(g o n cp j:Nat)(hj:j<=cp)(z:World):(Instr.slice 60 (.slice (some (g,o)) n cp) none (some (.int .i64 (j:Int))) none).run prog z=.ok (.slice (some (g,o)) j cp) z:=by
 have hs:=Tryz.sizeOf85 z;rw[run_slice_h (P:=prog) (w:=z) 60 (some (g,o)) n cp (by rw[fp];exact underlying60) .i64 j (by omega) (by omega),fp,hs];simp[Result.andThen,sliced,Addr.add]
theorem j7(W:World)(g o:Nat)(vs:List Value):W.grownBy (W.setCells g o vs) (some g):=by
 have hb:=cM (n:=0) (g:=g) (a:=W) (Nat.zero_le _) vs o W (zC 0 W);exact⟨hb.os,hb.tape,hb.output,hb.size,fun k _ hne=>bu (fun e=>hne (by rw[e])) vs o W⟩
theorem nj{r:Option Nat}(h:W.drew.grownBy W' r):W.grownBy W' r:=⟨h.os,h.tape,h.output,h.size,h.block⟩
theorem DC{W'':World}{r:Option Nat}(h:W.grownBy W' r)(k:W'.grownBy W'' r):W.grownBy W'' r :=
 ⟨k.os.trans h.os,k.tape.trans h.tape,k.output.trans h.output,zE h.size k.size,fun i hi hne=>(k.block i (Nat.lt_of_lt_of_le hi h.size) hne).trans (h.block i hi hne)⟩
theorem mc(p:Op.Pk):ae [p]=[.int .i64 p.code,.int .i64 p.id,.string p.data]:=rfl
theorem DD(hg:W.heap[g]?=some (.cells (pre++ae (p::r)++post).toArray 85))(h3:3<=post.length):((W.setCells g (pre.length+6) (ae r)).setCells g (pre.length+3) (ae [q])).heap[g]?=some (.cells (pre++ae (p::q::r)++post.drop 3).toArray 85)/\W.rangeAt g (pre.length+3) (ae r)/\W.there g (pre.length+6) (ae r).length/\(W.setCells g (pre.length+6) (ae r)).there g (pre.length+3) 3:=by
 obtain⟨D,hD⟩ := ex ((ae r++post.take 3).take 3);obtain⟨Y,hY⟩ := ex ((ae r++post.take 3).drop 3);have l3:(post.take 3).length=3:=by rw[List.length_take];omega
 have lD:D.length=3:=by rw[<- hD,List.length_take,List.length_append,l3];omega
 have lY:(ae r).length=Y.length:=by rw[<- hY,List.length_drop,List.length_append,l3];omega
 have e1:pre++ae (p::r)++post=(pre++ae [p]++D)++Y++post.drop 3:=by
  have a1:D++Y=ae r++post.take 3:=by rw[<- hD,<- hY];exact List.take_append_drop 3 _
  have a2:post=post.take 3++post.drop 3:=(List.take_append_drop 3 post).symm;rw[show(pre++ae [p]++D)++Y++post.drop 3=pre++ae [p]++(D++Y)++post.drop 3 by simp,a1,show p::r=[p]++r from rfl,aR];conv=>lhs;rw[a2]
  simp
 have l6:(pre++ae [p]++D).length=pre.length+6:=by rw[List.length_append,List.length_append,lD,mc];rfl
 have l7:(pre++ae [p]).length=pre.length+3:=by rw[List.length_append,mc];rfl
 have hg2:=hg;rw[e1]at hg2;have s1:=cH Y (ae r) _ _ W hg2 lY;have t1:=ff hg2;rw[l6]at s1 t1;have s1':(W.setCells g (pre.length+6) (ae r)).heap[g]?=some (.cells ((pre++ae [p])++D++(ae r++post.drop 3)).toArray 85):=by
  rw[s1];congr 3;simp
 have s2:=cH D (ae [q]) _ _ _ s1' (by rw[lD];rfl);have t2:=ff s1';rw[l7]at s2 t2;rw[lD]at t2;rw[<- lY]at t1;refine⟨?_,?_,t1,t2⟩
 .rw [s2];congr 3;rw[show p::q::r=[p]++[q]++r from rfl,aR,aR];simp
 .have hg3:W.heap[g]?=some (.cells ((pre++ae [p])++ae r++post).toArray 85):=by
   rw[hg];congr 3;rw[show p::r=[p]++r from rfl,aR];simp
  have:=aS hg3
  rw[l7]at this;exact this
theorem rr{k:Nat}(hg:W.heap[g]?=some (.cells (pre++ae (p::r)++post).toArray 85))(hk:k<=1000):∃c2 Z3 Zk R,(∀ty,(Builtin.append_ #[60,3] ty #[.slice (some (g,pre.length)) 1 (k+1),.int .i64 ((k+1:Nat):Int)]).run prog W=.ok (.slice (some (W,0)) (1+(k+1)) c2) (W.drew.alloc (.cells (ae [p]++Z3++Zk++R).toArray 85)))/\Z3.length=3/\Zk.length=k*3/\k+2<=c2/\c2*3<=(k+2)*3+R.length:=by
 obtain⟨i,hi,hz,hsz,hby⟩:=AF;have hg3:W.drew.heap[g]?=some (.cells (pre++ae [p]++(ae r++post)).toArray 85):=by
  have e:pre++ae (p::r)++post=pre++ae [p]++(ae r++post):=by
   rw[show p::r=[p]++r from rfl,aR];simp only[List.append_assoc]
  rw[<- e];exact hg
 have hr:=aS hg3;have hold:(Builtin.firstCells i.size 1 (.slice (some (g,pre.length)) 1 (k+1))).run prog W.drew=.ok (ae [p]).toArray W.drew:=by
  rw[hsz];exact run_firstCells_some W.drew 3 1 (g,pre.length) 1 (k+1) (ae [p]) rfl (fun j v hv=>by rw[Addr.add_mid];exact hr j v hv)
 have hcap:=grownCap_ge W (1+(k+1)) (k+1) 85;obtain⟨c2,hc2⟩ := ex (grownCap W (1+(k+1)) (k+1) 85);obtain⟨z,hzz⟩:∃z:Array Value,(Value.agg #[(0:Int),(0:Int),.string ⟨#[]⟩]).cells=z:=⟨_,rfl⟩;have lz:z.size=3:=by rw[<- hzz];rfl
 have lA:=size_zeroCells z (k+1);have lR:=size_zeroCells z (c2-(1+(k+1)));rw[lz]at lA lR;have hn:=nextslicecap_le (need:=1+(k+1)) (old:=k+1) (by omega);refine⟨c2,(Builtin.zeroCells z (k+1)).toList.take 3,(Builtin.zeroCells z (k+1)).toList.drop 3,(Builtin.zeroCells z (c2-(1+(k+1)))).toList,fun ty=>?_,?_,?_,by omega,?_⟩
 .have:=Lib.run_append_grow_zeros (P:=prog) W 60 3 ty 85 i _ .i64 .i64 underlying60 underlying3 hi hz (some (g,pre.length)) 1 (k+1) (ae [p]) hold (k+1) (by omega) (by omega) (by omega) (by omega) (by rw[hby];omega) (by rw[hby];omega)
  rw[this,hc2,hzz];have e:(ae [p]).toArray++Builtin.zeroCells z (k+1)++Builtin.zeroCells z (c2-(1+(k+1)))=(ae [p]++(Builtin.zeroCells z (k+1)).toList.take 3++(Builtin.zeroCells z (k+1)).toList.drop 3++(Builtin.zeroCells z (c2-(1+(k+1)))).toList).toArray:=by
   apply Array.ext'
   simp only[Array.toList_append,List.append_assoc,List.take_append_drop]
  rw[e]
 .rw [List.length_take,Array.length_toList,lA];omega
 .rw [List.length_drop,Array.length_toList,lA];omega
 .rw [Array.length_toList,lR];omega
theorem ti{Z3 Zk R:List Value}(l3:Z3.length=3)(lk:Zk.length=r.length*3):(((W.drew.alloc (.cells (ae [p]++Z3++Zk++R).toArray 85)).setCells W 3 (ae [q])).drew.setCells W 6 (ae r)).heap[W.heap.size]?=some (.cells ([]++ae (p::q::r)++R).toArray 85)/\(W.drew.alloc (.cells (ae [p]++Z3++Zk++R).toArray 85)).there W 3 3/\((W.drew.alloc (.cells (ae [p]++Z3++Zk++R).toArray 85)).setCells W 3 (ae [q])).drew.there W 6 (ae r).length:=by
 have h0:(W.drew.alloc (.cells (ae [p]++Z3++Zk++R).toArray 85)).heap[W.heap.size]?=some (.cells (ae [p]++Z3++(Zk++R)).toArray 85):=by
  rw[<- List.append_assoc];exact zF W.drew _
 have s1:=cH Z3 (ae [q]) _ _ _ h0 (by rw[l3];rfl);have t1:=ff h0;have e3:(ae [p]).length=3:=rfl;rw[e3]at s1 t1;rw[l3]at t1;have s1':((W.drew.alloc (.cells (ae [p]++Z3++Zk++R).toArray 85)).setCells W 3 (ae [q])).drew.heap[W.heap.size]?=some (.cells ((ae [p]++ae [q])++Zk++R).toArray 85):=by
  rw[show((ae [p]++ae [q])++Zk++R)=(ae [p]++ae [q]++(Zk++R))by simp];exact s1
 have s2:=cH Zk (ae r) _ _ _ s1' (by rw[aF,lk]);have t2:=ff s1';have e6:(ae [p]++ae [q]).length=6:=rfl;rw[e6]at s2 t2;rw[lk,<- aF]at t2;refine⟨?_,t1,t2⟩;rw[s2,show p::q::r=[p]++[q]++r from rfl,aR,aR,List.nil_append]
theorem rt{ops:Array Oper}{rest:List Oper}{o:Oper}{a:Act}{Q:Exit->Act->World->Prop}(hgd:o.guard=none)(s x:Operand)(ho:o.op=.call {callee:=.builtin .append,args:=#[s,x],argTypes:=#[60,3]}){sv xv v':Value}(hs:a.eval s=sv)(hx:a.eval x=xv)(hr:∀ty,(Builtin.append_ #[60,3] ty #[sv,xv]).run prog W=.ok v' W')(h:wpList prog ops Q rest (a.put o.dst v') W'):wpList prog ops Q (o::rest) a W:=by
 refine wpList_plain hgd fun K hK=>?_
 unfold Oper.wp execOp;simp only[ho,resolve,invoke,builtin,Sem.run_bind,Sem.run_pure,Result.andThen_ok,List.map_toArray,List.map_cons,List.map_nil,hs,hx,hr];exact hK _ _ h
theorem iI{N:Nat}(hk:HoldsK W base v (p::r))(hl:r.length<39)(hbs:base<=W.heap.size)(hN:W.heap[N]?=some (.cells #[.int .i64 q.code,.int .i64 q.id,.string q.data] 85))(hap:v.ownBlock≠some N):Calls prog 65 #[v,(1:Int),.slice (some (N,0)) 1 1] W fun e W'=>∃v',e=.returned v'/\HoldsK W' base v' (p::q::r)/\W.grownBy W' v.ownBlock/\∀g,v'.ownBlock=some g->v.ownBlock=some g\/W.heap.size<=g:=by
 obtain⟨g,pre,post,cp,hv,hg,hb,hc,hr⟩:=hk.split (by simp);have hP:HoldsP W (.slice (some (N,0)) 1 1) [q]:=Or.inr ⟨N,1,_,rfl,hN,zD 3,fun j hj=>by
  have:j=0\/j=1\/j=2:=by simp at hj;omega
  rcases this with rfl|rfl|rfl<;>rfl⟩
 obtain⟨c,ec⟩:∃c,cp=c+1:=⟨cp-1,by rw[List.length_cons]at hc;omega⟩;subst ec;rw[List.length_cons]at hv hc hr;obtain⟨b1,hb1,hb2,hs1⟩:=kg g pre.length r.length c;subst hv;cases r with
 | nil =>
  have hs1':∀z:World,(Instr.slice 60 (.slice (some (g,pre.length)) 1 (c+1)) (some ((1:Int):V)) none none).run prog z=.ok (.slice (some b1) 0 c) z:=hs1;have HK:=aa hk;have HP:=aa hP;show Calls prog 65 #[.slice (some ⟨g,pre.length,none⟩) 1 (c+1),.int .i64 1,.slice (some ⟨N,0,none⟩) 1 1] W _
  clear hs1 hk hP;generalize hpo:pre.length=po at*;go_enter func65,ntmps65
  go_wp2_with (refine pw rfl _ _ rfl base _ _ [p] [q] rfl rfl HK.out HP.out (by simp) (by simp) hbs ?_;intro v' w' k1 k2 k3)
  go_ret
  exact⟨_,rfl,k1,k2,k3⟩
 | cons p2 r2 =>
  have hk1:1<=(p2::r2).length:=by simp
  generalize hrr:p2::r2=r at*;clear hrr;have HK:=aa hk;clear hP;by_cases hroom:r.length+2<=c+1
  .have h9:=DD (W:=W.drew) (q:=q) hg (by omega);have hNg:N≠g:=fun e=>hap (by rw[e];rfl)
   have hov:=fun n2 c2 o2=>rn W N g 0 o2 1 1 n2 c2 _ _ hN hg hNg
   have e13:=l_ g pre.length (r.length+1) (c+1) (r.length+2) hroom;have e14:=iH g pre.length (r.length+2) (c+1) 2 (by omega) (by omega);have e15:=iH g pre.length (r.length+2) (c+1) 1 (by omega) (by omega);have pinf:(prog.info? 85).map (·.size)=some 3:=by kernel_rfl
   have cp1:=fun ty=>fg (P:=prog) W.drew 60 60 ty 85 g (pre.length+6) r.length (c+1-2) g (pre.length+3) (r.length+1) (c+1-1) r.length 3 (ae r) underlying60 pinf (Nat.min_eq_right (by omega)) (aF r) h9.2.1 h9.2.2.1 (cL r)
   have cp2:=fun ty=>fg (P:=prog) (W.drew.setCells g (pre.length+6) (ae r)) 60 60 ty 85 g (pre.length+3) (r.length+1) (c+1-1) N 0 1 1 1 3 (ae [q]) underlying60 pinf (Nat.min_eq_left (by omega)) rfl (by
    have h0:(W.drew.setCells g (pre.length+6) (ae r)).heap[N]?=some (.cells ([]++ae [q]++[]).toArray 85):=(bu hNg (ae r) _ W.drew).trans hN;exact aS h0) h9.2.2.2 (cL [q])
   simp only[Nat.add_sub_cancel,show c+1-2=c-1 by omega,show r.length+2-1=r.length+1 by omega]at e14 e15 cp1 cp2;have e13':∀z:World,(Instr.slice 60 (.slice (some (g,pre.length)) (r.length+1) (c+1)) none (some (.int .i64 ((r.length:Int)+1+1))) none).run prog z=.ok (.slice (some (g,pre.length)) (r.length+2) (c+1)) z:=fun z=>by
    rw[show((r.length:Int)+1+1)=((r.length+2:Nat):Int)by omega];exact e13 z
   have HF:Hid (∃v',Value.slice (some (g,pre.length)) (r.length+2) (c+1)=v'/\HoldsK ((W.drew.setCells g (pre.length+6) (ae r)).setCells g (pre.length+3) (ae [q])) base v' (p::q::r)/\W.grownBy ((W.drew.setCells g (pre.length+6) (ae r)).setCells g (pre.length+3) (ae [q])) (some g)/\∀g',v'.ownBlock=some g'->some g=some g' \/W.heap.size<=g'):=aa
    ⟨_,rfl,HoldsK.join h9.1 hb (by simp;omega) (by simp;omega),nj (DC (j7 _ _ _ _) (j7 _ _ _ _)),fun g' hg'=>Or.inl hg'⟩
   have e14':∀z:World,(Instr.slice 60 (.slice (some (g,pre.length)) (r.length+2) (c+1)) (some ((2:Int):V)) none none).run prog z=.ok (.slice (some (g,pre.length+6)) r.length (c-1)) z:=e14;have e15':∀z:World,(Instr.slice 60 (.slice (some (g,pre.length)) (r.length+2) (c+1)) (some ((1:Int):V)) none none).run prog z=.ok (.slice (some (g,pre.length+3)) (r.length+1) c) z:=e15;clear e14 e15;clear h9 e13 hg hN hk hr hb1 hb2 HK hb hbs hap hNg pinf;generalize pre.length=po at*;generalize ae r=cr9 at*;generalize ae [q]=cq9 at*;generalize hk9:r.length=k at*;clear hk9;have k0:¬((k:Int)+1=1):=by omega
   have k1:¬((1:Int)=(k:Int)+1):=by omega
   have k2:¬((c:Int)+1<(k:Int)+1+1):=by omega
   go_enter func65,ntmps65
   go_upto_region 15 with fail
   have hw2:IntKind.i64.wrap 2=2:=by decide
   refine wp_region_held_drew (S:=fun _=>True) (by kernel_rfl) trivial (fun hHeld=>?_);refine tq 0 1 2 3 ?_;refine tq 4 5 6 7 ?_;refine r3 8 fun K hK=>?_
   go_simp;refine ro hK trivial fun _=>?_
   clear hK K;refine dn ?_ _;go_wp2
   go_ret
   obtain⟨v',rfl,h⟩:=uh HF;exact⟨_,rfl,h⟩
  .have hck:c=r.length:=by omega
   subst hck;obtain⟨c2,Z3,Zk,R,hap2,l3,lk,hc2,hR⟩:=rr (k:=r.length) hg (by omega);have M9:=ti (W:=W) (q:=q) (r:=r) (p:=p) (Z3:=Z3) (Zk:=Zk) (R:=R) l3 lk;have hgM:g<W.heap.size:=(ge.1 hg).1;have hNM:N<W.heap.size:=(ge.1 hN).1;obtain⟨V,hV⟩ := ex (W.drew.alloc (.cells (ae [p]++Z3++Zk++R).toArray 85));rw[hV]at hap2 M9;have hVb:Below W W V:=by rw[<- hV];exact(zC _ _).drew.alloc (zD _) _
   have pinf:(prog.info? 85).map (·.size)=some 3:=by kernel_rfl
   have cp1:=fun ty=>fg (P:=prog) V 60 60 ty 85 W 3 (r.length+1) (c2-1) N 0 1 1 1 3 (ae [q]) underlying60 pinf (Nat.min_eq_left (by omega)) rfl (by
    have h0:V.heap[N]?=some (.cells ([]++ae [q]++[]).toArray 85):=(hVb.block N hNM).trans hN;exact aS h0) M9.2.1 (cL [q])
   have cp2:=fun ty=>fg (P:=prog) (V.setCells W 3 (ae [q])).drew 60 60 ty 85 W 6 r.length (c2-2) g (pre.length+3) r.length r.length r.length 3 (ae r) underlying60 pinf (Nat.min_self _) (aF r) (by
    have h0:(V.setCells W 3 (ae [q])).heap[g]?=some (.cells ((pre++ae [p])++ae r++post).toArray 85):=by
     have e:pre++ae (p::r)++post=pre++ae [p]++ae r++post:=by
      rw[show p::r=[p]++r from rfl,aR];simp only[List.append_assoc]
     rw[bu (by omega) _ _ _,hVb.block g hgM,hg,e]
    have h1:=aS h0;rw[List.length_append]at h1;exact h1) M9.2.2 (cL r)
   have e9:=l_ g pre.length (r.length+1) (r.length+1) 1 (by omega);have e10:=iH W 0 (1+(r.length+1)) c2 1 (by omega) (by omega);have e11:=iH W 0 (1+(r.length+1)) c2 2 (by omega) (by omega);rw[hb1 (by omega)]at hs1;have HF:Hid (∃v',Value.slice (some (W,0)) (1+(r.length+1)) c2=v'/\HoldsK ((V.setCells W 3 (ae [q])).drew.setCells W 6 (ae r)) base v' (p::q::r)/\W.grownBy ((V.setCells W 3 (ae [q])).drew.setCells W 6 (ae r)) (some g)/\∀g',v'.ownBlock=some g'->some g=some g' \/W.heap.size<=g'):=aa (by
    refine⟨_,rfl,?_,?_,fun g' hg'=>Or.inr (by cases hg';exact zD _)⟩
    .have:=HoldsK.join (base:=base) (L:=p::q::r) (pre:=[]) (post:=R) (cp:=c2) M9.1 hbs (by simp;omega) (by simp;omega)
     rw[show(p::q::r).length=1+(r.length+1)by simp;omega]at this;exact this
    .have h1:=cM (g:=W.heap.size) (zD _) (ae [q]) 3 V hVb;have h2:=cM (g:=W.heap.size) (zD _) (ae r) 6 _ (h1.trans ((zC _ (V.setCells W.heap.size 3 (ae [q]))).drew.mono h1.size));exact⟨h2.os,h2.tape,h2.output,h2.size,fun k hk _=>h2.block k hk⟩)
   clear M9 hg hN hk hr hb1 hb2 HK hb hbs hap pinf hVb hV hgM hNM hc l3 lk;have e9':∀z:World,(Instr.slice 60 (.slice (some ⟨g,pre.length,none⟩) (r.length+1) (r.length+1)) none (some (.int .i64 1)) none).run prog z=.ok (.slice (some ⟨g,pre.length,none⟩) 1 (r.length+1)) z:=e9;have e10':∀z:World,(Instr.slice 60 (.slice (some ⟨W.heap.size,0,none⟩) (1+(r.length+1)) c2) (some (.int .i64 1)) none none).run prog z=.ok (.slice (some ⟨W.heap.size,3,none⟩) (r.length+1) (c2-1)) z:=fun z=>by
    have:=e10 z
    rw[show 1+(r.length+1)-1=r.length+1 by omega]at this;exact this
   have e11':∀z:World,(Instr.slice 60 (.slice (some ⟨W.heap.size,0,none⟩) (1+(r.length+1)) c2) (some (.int .i64 2)) none none).run prog z=.ok (.slice (some ⟨W.heap.size,6,none⟩) r.length (c2-2)) z:=fun z=>by
    have:=e11 z
    rw[show 1+(r.length+1)-2=r.length by omega]at this;exact this
   clear e9 e10 e11;have hap3:∀ty,(Builtin.append_ #[60,3] ty #[.slice (some (g,pre.length)) 1 (r.length+1),.int .i64 ((r.length:Int)+1)]).run prog W=.ok (.slice (some (W,0)) (1+(r.length+1)) c2) V:=hap2;clear hap2;generalize pre.length=po at*;generalize ae r=cr9 at*;generalize ae [q]=cq9 at*;generalize hk9:r.length=k at*;clear hk9;generalize W.heap.size=M at e10' e11' hap3 cp1 cp2 HF;generalize hm9:1+(k+1)=m at*;have hw2:IntKind.i64.wrap 2=2:=by decide
   have k0:¬((k:Int)+1=1):=by omega
   have k1:¬((1:Int)=(k:Int)+1):=by omega
   have k2:(k:Int)+1<(k:Int)+1+1:=by omega
   have k3:(k:Int)+1+1-1=(k:Int)+1:=by omega
   clear hm9;go_enter func65,ntmps65
   go_upto_region 11 with(refine rt rfl _ _ rfl rfl rfl hap3 ?_)
   refine wp_region_held_drew (S:=fun _=>True) (by kernel_rfl) trivial (fun hHeld=>?_);refine tq 0 1 2 3 ?_;refine tq 4 5 6 7 ?_;refine r3 8 fun K hK=>?_
   go_simp;refine ro hK trivial fun _=>?_
   clear hK K;refine dn ?_ _;go_wp2
   go_ret
   obtain⟨v',rfl,h⟩:=uh HF;exact⟨_,rfl,h⟩
structure Dy(base:Nat)(T:TypeId)(W:World)(B k g o:Nat)(X Z:List Value)(v:Value)(p:Op.Pk)(r:List Op.Pk)(y:World):Prop where
 w:Wr base T y B X Z v (p::r)
 fr:Fr B v v W y
 ek:X.length=k
 px:y.cell? (g,o)=some (.int .i64 p.code)/\y.cell? (g,o+1)=some (.int .i64 p.id)/\y.cell? (g,o+2)=some (p.data:V)
 eg:v.ownBlock=some g
section
variable {base:Nat} {T:TypeId} {W:World} {B k g o:Nat} {X Z:List Value} {v v':Value} {p:Op.Pk} {r:List Op.Pk} {y y':World}
theorem Dy.cx(h:Dy base T W B k g o X Z v p r y):y.cell? (B,k)=some v:=by rw[<- h.ek];exact bI h.w.row
theorem Dy.new(h:Dy base T W B k g o X Z v p r y):Dy base T W B k g o X Z v p r (y.alloc (.cells #[p.code,p.id,p.data] 85))/\(y.alloc (.cells #[p.code,p.id,p.data] 85)).heap[y.heap.size]?=some (.cells #[p.code,p.id,p.data] 85)/\v.ownBlock≠some y.heap.size:=by
 have hb:Below y y (y.alloc (.cells #[p.code,p.id,p.data] 85)):=(zC _ _).alloc (zD _) _;have hg:=(h.w.ownB g h.eg).2.2.1;refine⟨⟨h.w.below hb,h.fr.trans (Fr.of_below hb),h.ek,⟨(hb.cell (p:=(g,o)) hg).trans h.px.1,(hb.cell (p:=(g,o+1)) hg).trans h.px.2.1,(hb.cell (p:=(g,o+2)) hg).trans h.px.2.2⟩,h.eg⟩,zF _ _,fun e=>?_⟩;rw[h.eg]at e;injection e with e;omega
theorem Dy.app(h:Dy base T W B k g o X Z v p r y){L':List Op.Pk}(h1:HoldsK y' base v' L')(h2:y.grownBy y' v.ownBlock)(h3:∀g,v'.ownBlock=some g->v.ownBlock=some g\/y.heap.size<=g):Pz base T W B k X Z v v' L' y' :=
 ⟨(h2.block B h.w.lt (fun e=>(h.w.ownB B e.symm).1 rfl)).trans h.w.row,h1,h.fr.trans (Fr.grown h2 h3),h.ek,zE h.w.bs h2.size,h.w.nT⟩
end
theorem ol(h:Wr base T W B X Z v L):Calls prog 42 #[(B,X.length)] W fun e W'=>e=.returned (.tuple #[])/\∃v',Wr base T W' B X Z v' (ml L)/\Fr B v v' W W':=by
 have hc:=bI h.row;have hle:=h.le;by_cases hd:0<L.length/\L.length<40
 .match L,h,hd with
  | p::r,h,hd =>
   rw[show ml (p::r)=p::p::r from if_pos hd.2];rw[List.length_cons]at hle;have hl:r.length<39:=by have:=hd.2;simp at this;omega
   have hL9:(p::p::r).length<=40:=by simp;omega
   obtain⟨g,o,cp,cur,hv,q1,q2,q3,q4⟩:=h.hk.fst;have HY:Hid (Dy base T W B X.length g o X Z v p r W.drew):=aa ⟨h.below (zC _ _).drew,Fr.of_below (zC _ _).drew,rfl,⟨by rw[cr (w:=W.drew) q1];exact q2,by rw[cr (w:=W.drew) q1];exact q3,by rw[cr (w:=W.drew) q1];exact q4⟩,by rw[hv];rfl⟩;subst hv;clear q1 q2 q3 q4 h hd;generalize hk:X.length=k at*;generalize hn:r.length=n at*;have n1:(0:Int)<(n:Int)+1:=by omega
   have n2:(n:Int)+1<40:=by omega
   go_enter func42,ntmps42
   go_upto_region 1 with fail
   refine wp_region_held_drew (S:=fun _=>True) (by kernel_rfl) trivial (fun hHeld=>?_);clear hc;rw[<- hn]at hl;generalize W.drew=yy at HY|-;refine tq 0 1 2 3 ?_;refine tt 5 6 ?_;refine t2 7 ?_;refine r4 4 8 (fun K hK=>?_) (fun K hK=>?_)
   .have cx:=HY.out.cx;go_simp;refine ro hK trivial fun _=>?_
    clear hK K;clear cx;refine r3 8 fun K hK=>?_
    have cx:=HY.out.cx;go_simp;refine ro hK trivial fun _=>?_
    clear hK K;clear cx;refine t2 9 ?_;refine r3 10 fun K hK=>?_
    obtain⟨x0,x1,x2⟩:=HY.out.px;go_simp;refine ro hK trivial fun _=>?_
    clear hK K;clear x0 x1 x2;refine r3 11 fun K hK=>?_
    have H6:=aa (HY.out.new);go_simp;refine ro hK trivial fun _=>?_
    clear hK K;generalize yy.heap.size=N6 at H6|-;generalize yy.alloc (.cells #[p.code,p.id,p.data] 85)=y6 at H6|-;clear HY;have H6a:=aa H6.out.1;refine r3 12 fun K hK=>?_
    go_simp;refine(iI H6.out.1.w.hk hl H6.out.1.w.bs H6.out.2.1 H6.out.2.2).mono ?_;rintro e y7⟨v7,rfl,g1,g2,g3⟩;obtain⟨a7,c7,e7⟩:=g1.form;obtain⟨n7,e9⟩ := ex ((p::p::r).length);rw[e9]at e7;clear e9;subst e7;have H7:=aa (H6.out.1.app g1 g2 g3);clear g1 g2 g3 H6;refine ro hK trivial fun _=>?_
    clear hK K;refine tt 13 14 ?_;refine r3 15 fun K hK=>?_
    have cx:=H7.out.cx;have fx:=H7.out.fx;go_simp;refine ro hK trivial fun _=>?_
    clear hK K;refine dn ?_ _;go_wp2
    refine zI ?_;rw[<- hk];exact⟨rfl,_,H7.out.fin hL9⟩
   .have cx:=HY.out.cx;go_simp;refine ro hK trivial fun _=>?_
    clear hK K;clear cx;refine t2 9 ?_;refine r4 4 10 (fun K hK=>?_) (fun K hK=>?_)
    .have cx:=HY.out.cx;go_simp;refine ro hK trivial fun _=>?_
     clear hK K;clear cx;refine r3 10 fun K hK=>?_
     obtain⟨x0,x1,x2⟩:=HY.out.px;go_simp;refine ro hK trivial fun _=>?_
     clear hK K;clear x0 x1 x2;refine r3 11 fun K hK=>?_
     have H6:=aa (HY.out.new);go_simp;refine ro hK trivial fun _=>?_
     clear hK K;generalize yy.heap.size=N6 at H6|-;generalize yy.alloc (.cells #[p.code,p.id,p.data] 85)=y6 at H6|-;clear HY;have H6a:=aa H6.out.1;refine r3 12 fun K hK=>?_
     go_simp;refine(iI H6.out.1.w.hk hl H6.out.1.w.bs H6.out.2.1 H6.out.2.2).mono ?_;rintro e y7⟨v7,rfl,g1,g2,g3⟩;obtain⟨a7,c7,e7⟩:=g1.form;obtain⟨n7,e9⟩ := ex ((p::p::r).length);rw[e9]at e7;clear e9;subst e7;have H7:=aa (H6.out.1.app g1 g2 g3);clear g1 g2 g3 H6;refine ro hK trivial fun _=>?_
     clear hK K;refine tt 13 14 ?_;refine r3 15 fun K hK=>?_
     have cx:=H7.out.cx;have fx:=H7.out.fx;go_simp;refine ro hK trivial fun _=>?_
     clear hK K;refine dn ?_ _;go_wp2
     refine zI ?_;rw[<- hk];exact⟨rfl,_,H7.out.fin hL9⟩
    .obtain ⟨x0,x1,x2⟩:=HY.out.px;go_simp;refine ro hK trivial fun _=>?_
     clear hK K;clear x0 x1 x2;refine r4 4 11 (fun K hK=>?_) (fun K hK=>?_)
     .have cx:=HY.out.cx;go_simp;refine ro hK trivial fun _=>?_
      clear hK K;clear cx;refine r3 11 fun K hK=>?_
      have H6:=aa (HY.out.new);go_simp;refine ro hK trivial fun _=>?_
      clear hK K;generalize yy.heap.size=N6 at H6|-;generalize yy.alloc (.cells #[p.code,p.id,p.data] 85)=y6 at H6|-;clear HY;have H6a:=aa H6.out.1;refine r3 12 fun K hK=>?_
      go_simp;refine(iI H6.out.1.w.hk hl H6.out.1.w.bs H6.out.2.1 H6.out.2.2).mono ?_;rintro e y7⟨v7,rfl,g1,g2,g3⟩;obtain⟨a7,c7,e7⟩:=g1.form;obtain⟨n7,e9⟩ := ex ((p::p::r).length);rw[e9]at e7;clear e9;subst e7;have H7:=aa (H6.out.1.app g1 g2 g3);clear g1 g2 g3 H6;refine ro hK trivial fun _=>?_
      clear hK K;refine tt 13 14 ?_;refine r3 15 fun K hK=>?_
      have cx:=H7.out.cx;have fx:=H7.out.fx;go_simp;refine ro hK trivial fun _=>?_
      clear hK K;refine dn ?_ _;go_wp2
      refine zI ?_;rw[<- hk];exact⟨rfl,_,H7.out.fin hL9⟩
     .have H6:=aa (HY.out.new);go_simp;refine ro hK trivial fun _=>?_
      clear hK K;generalize yy.heap.size=N6 at H6|-;generalize yy.alloc (.cells #[p.code,p.id,p.data] 85)=y6 at H6|-;clear HY;have H6a:=aa H6.out.1;refine r3 4 fun K hK=>?_
      have cx:=H6a.out.cx;go_simp;refine ro hK trivial fun _=>?_
      clear hK K;clear cx;refine r3 12 fun K hK=>?_
      go_simp;refine(iI H6.out.1.w.hk hl H6.out.1.w.bs H6.out.2.1 H6.out.2.2).mono ?_;rintro e y7⟨v7,rfl,g1,g2,g3⟩;obtain⟨a7,c7,e7⟩:=g1.form;obtain⟨n7,e9⟩ := ex ((p::p::r).length);rw[e9]at e7;clear e9;subst e7;have H7:=aa (H6.out.1.app g1 g2 g3);clear g1 g2 g3 H6;refine ro hK trivial fun _=>?_
      clear hK K;refine tt 13 14 ?_;refine r3 15 fun K hK=>?_
      have cx:=H7.out.cx;have fx:=H7.out.fx;go_simp;refine ro hK trivial fun _=>?_
      clear hK K;refine dn ?_ _;go_wp2
      refine zI ?_;rw[<- hk];exact⟨rfl,_,H7.out.fin hL9⟩
 .have hdl:ml L=L:=by
   unfold ml;split
   .rfl
   .rw [if_neg (fun h2=>hd ⟨by simp,h2⟩)]
  rw[hdl];obtain⟨ad,cp,hv⟩:=h.hk.form;have HW:=aa h;subst hv;clear h hdl;generalize X.length=k at*;generalize L.length=n at*;by_cases h0:n=0
  .subst h0;go_enter func42,ntmps42
   go_wp2
   refine zI ?_;exact⟨rfl,_,uh HW,Fr.refl _ _ _⟩
  .have h40:n=40:=by omega
   subst h40;go_enter func42,ntmps42
   go_wp2
   refine zI ?_;exact⟨rfl,_,uh HW,Fr.refl _ _ _⟩
end Go.Proofs.YtjdgiimfpkideaaGreatDoor
