/- MtI -/
import Derived.Test.YtjdgiimfpkideaaGreatDoorS15
import Derived.Lib.AppendZerosOnto
set_option maxHeartbeats 8000000
set_option maxRecDepth 100000
namespace Go.Proofs.YtjdgiimfpkideaaGreatDoor
open Go.RowKit Go.Proofs.Tryz
theorem HoldsK.split {W:World} {base:Nat} {v:Value} {L:List Op.Pk} (h:HoldsK W base v L) (h0:L≠[]):∃ g pre post cp,v=.slice (some ⟨g,pre.length,none⟩) L.length cp∧W.heap[g]?=some (.cells (pre ++ ae L ++ post).toArray 85)∧base≤g∧L.length≤cp∧cp*3≤L.length*3+post.length:=by
 rcases h with ⟨_,e⟩ | ⟨g,o,cp,cur,rfl,h2,h3,h4,h5,h6⟩
 ·exact absurd e h0
 ·have hle:o+L.length*3≤cur.size:=by omega
  refine ⟨g,cur.toList.take o,cur.toList.drop (o+L.length*3),cp,?_,?_,h3,h4,?_⟩
  ·rw [List.length_take,Nat.min_eq_left (by simp;omega)]
  ·rw [h2];congr 2
   apply Array.ext'
   have e1:(cur.toList.drop o).take (L.length*3)=ae L:=by
    apply List.ext_getElem?
    intro j;rw [List.getElem?_take];split
    ·rename_i hj
     rw [List.getElem?_drop,Array.getElem?_toList,h6 j hj]
    ·rename_i hj
     rw [List.getElem?_eq_none (by rw [aF];omega)]
   have e2:=List.take_append_drop (L.length*3) (cur.toList.drop o);rw [e1,List.drop_drop] at e2;rw [List.append_assoc,e2,List.take_append_drop]
  ·have e:=Array.length_toList (xs:=cur);rw [List.length_drop];omega
theorem HoldsK.join {W:World} {base:Nat} {L:List Op.Pk} {g cp:Nat} {pre post:List Value} (h2:W.heap[g]?=some (.cells (pre ++ ae L ++ post).toArray 85)) (h3:base≤g) (h4:L.length≤cp) (h5:cp*3≤L.length*3+post.length):HoldsK W base (.slice (some ⟨g,pre.length,none⟩) L.length cp) L:=by
 refine Or.inr ⟨g,_,cp,_,rfl,h2,h3,h4,?_,fun j hj=>?_⟩
 ·simp [aF];omega
 ·rw [List.getElem?_toArray,List.append_assoc,List.getElem?_append_right (by omega),Nat.add_sub_cancel_left,List.getElem?_append_left (by rw [aF];exact hj)]
theorem ff {W:World} {B:Nat} {X Y Z:List Value} {T:TypeId} (h:W.heap[B]?=some (.cells (X ++ Y ++ Z).toArray T)):W.there B X.length Y.length:=fun j hj=>by
 have:=aS h j Y[j] (List.getElem?_eq_getElem hj)
 rw [this];exact ⟨rfl,aX h _⟩
theorem fg {P:Program} (w:World) (dT sT ty elem:TypeId) (b o dLen dCap sb so sLen sCap n size:Nat) (cs:List Value)
  (hu:P.underlying dT=some (.slice elem)) (hs:(P.info? elem).map (·.size)=some size) (hn:Nat.min sLen dLen=n) (hl:cs.length=n*size)
  (hsrc:w.rangeAt sb so cs) (ht:w.there b o cs.length) (h1:∀ v ∈ cs,v.oneCell'=true) :
  (Builtin.copy_ #[dT,sT] ty #[.slice (some ⟨b,o,none⟩) dLen dCap,.slice (some ⟨sb,so,none⟩) sLen sCap]).run P w=.ok (goInt n) (w.setCells b o cs):=by
 have hld:=run_loadCells_list (P:=P) w ⟨sb,so,none⟩ cs (fun j v hv=>by
  rw [Addr.add_mid];exact hsrc j v hv)
 have hst:=run_storeCells_cells (P:=P) b o cs 0 w (fun j hj=>by simpa using (ht j hj).1) (fun j hj=>by simpa using (ht j hj).2) h1;rw [hl] at hld;cases hq:P.info? elem with
 | none=>simp [hq] at hs
 | some i =>
  have hi:i.size=size:=by simpa [hq] using hs
  simp [Builtin.copy_,run_underlying hu,Builtin.lenOf,Builtin.firstCells,sizeOf,typeInfo,hq,hi,hn,hld,hst]
theorem xT (a b:Option Addr) (la ca lb cb:Nat) (h1:(a:Option Addr)→(la cap:Nat)→(b:Option Addr)→(lb cap_1:Nat)→Sem Value) (h2:Array Value→Sem Value) :
  Extern.SlicesOverlaps.overlaps.match_4 (fun _=>Sem Value) #[.slice a la ca,.slice b lb cb] h1 h2=h1 a la ca b lb cb:=rfl
theorem rn (W:World) (g1 g2 o1 o2 n1 c1 n2 c2:Nat) (cu1 cu2:Array Value) (h1:W.heap[g1]?=some (.cells cu1 85)) (h2:W.heap[g2]?=some (.cells cu2 85)) (hne:g1≠g2) :
  (callFunc 89 #[.slice (some ⟨g1,o1,none⟩) n1 c1,.slice (some ⟨g2,o2,none⟩) n2 c2]).run prog W=.ok (.value (.bool false)) W:=by
 rw [run_callFunc_standIn func89 (by kernel_rfl) (by kernel_rfl) (by kernel_rfl) (e:=Extern.SlicesOverlaps.overlaps #[60,60] #[4]) (by kernel_rfl)];have f1:=aX h1 o1;have f2:=aX h2 o2;have hs:=Tryz.sizeOf85 W;delta Extern.SlicesOverlaps.overlaps
 dsimp only;rw [xT];have s1:W.shape? g1=some (85,cu1.size):=by simp [World.shape?,h1]
 have s2:W.shape? g2=some (85,cu2.size):=by simp [World.shape?,h2]
 have f3:=aX h1 cu1.size;have f4:=aX h2 cu2.size;have e0:(g1 == g2)=false:=by simpa using hne
 simp [run_underlying underlying60,hs,e0,Result.andThen,hne,f1,f2,f3,f4,s1,s2,noView,viewAt,mayBeOne,stringish,shape,Sem.run]
theorem iH (g o n cp i:Nat) (hi:i≤n) (hc:i<cp) (z:World):(Instr.slice 60 (.slice (some ⟨g,o,none⟩) n cp) (some (.int .i64 (i:Int))) none none).run prog z=.ok (.slice (some ⟨g,o+i*3,none⟩) (n - i) (cp - i)) z:=by
 have hs:=Tryz.sizeOf85 z;rw [run_slice_l (P:=prog) (w:=z) 60 (some ⟨g,o,none⟩) n cp (by rw [fp];exact underlying60) .i64 i (by omega) (by omega),fp,hs];have:¬ (cp=i):=by omega
 simp [Result.andThen,sliced,this,Addr.add]
theorem l_ (g o n cp j:Nat) (hj:j≤cp) (z:World):(Instr.slice 60 (.slice (some ⟨g,o,none⟩) n cp) none (some (.int .i64 (j:Int))) none).run prog z=.ok (.slice (some ⟨g,o,none⟩) j cp) z:=by
 have hs:=Tryz.sizeOf85 z;rw [run_slice_h (P:=prog) (w:=z) 60 (some ⟨g,o,none⟩) n cp (by rw [fp];exact underlying60) .i64 j (by omega) (by omega),fp,hs];simp [Result.andThen,sliced,Addr.add]
theorem j7 (W:World) (g o:Nat) (vs:List Value):W.grownBy (W.setCells g o vs) (some g):=by
 have hb:=cM (n:=0) (g:=g) (a:=W) (Nat.zero_le _) vs o W (zC 0 W);exact ⟨hb.os,hb.tape,hb.output,hb.size,fun k _ hne=>bu (fun e=>hne (by rw [e])) vs o W⟩
theorem nj {W W':World} {r:Option Nat} (h:W.drew.grownBy W' r):W.grownBy W' r:=⟨h.os,h.tape,h.output,h.size,h.block⟩
theorem rp {W W' W'':World} {r:Option Nat} (h:W.grownBy W' r) (k:W'.grownBy W'' r):W.grownBy W'' r :=
 ⟨k.os.trans h.os,k.tape.trans h.tape,k.output.trans h.output,zE h.size k.size,fun i hi hne=>(k.block i (Nat.lt_of_lt_of_le hi h.size) hne).trans (h.block i hi hne)⟩
theorem mc (p:Op.Pk):ae [p]=[.int .i64 p.code,.int .i64 p.id,.string p.data]:=rfl
theorem rq {W:World} {g:Nat} {pre post:List Value} {p q:Op.Pk} {r:List Op.Pk} (hg:W.heap[g]?=some (.cells (pre ++ ae (p :: r) ++ post).toArray 85)) (h3:3≤post.length) :
  ((W.setCells g (pre.length+6) (ae r)).setCells g (pre.length+3) (ae [q])).heap[g]?=some (.cells (pre ++ ae (p :: q :: r) ++ post.drop 3).toArray 85)∧W.rangeAt g (pre.length+3) (ae r)∧W.there g (pre.length+6) (ae r).length∧(W.setCells g (pre.length+6) (ae r)).there g (pre.length+3) 3:=by
 obtain ⟨D,hD⟩:∃ D,(ae r ++ post.take 3).take 3=D:=⟨_,rfl⟩;obtain ⟨Y,hY⟩:∃ Y,(ae r ++ post.take 3).drop 3=Y:=⟨_,rfl⟩;have l3:(post.take 3).length=3:=by rw [List.length_take];omega
 have lD:D.length=3:=by rw [← hD,List.length_take,List.length_append,l3];omega
 have lY:(ae r).length=Y.length:=by rw [← hY,List.length_drop,List.length_append,l3];omega
 have e1:pre ++ ae (p :: r) ++ post=(pre ++ ae [p] ++ D) ++ Y ++ post.drop 3:=by
  have a1:D ++ Y=ae r ++ post.take 3:=by rw [← hD,← hY];exact List.take_append_drop 3 _
  have a2:post=post.take 3 ++ post.drop 3:=(List.take_append_drop 3 post).symm;rw [show (pre ++ ae [p] ++ D) ++ Y ++ post.drop 3=pre ++ ae [p] ++ (D ++ Y) ++ post.drop 3 by simp,a1,show p :: r=[p] ++ r from rfl,aR];conv=>lhs;rw [a2]
  simp
 have l6:(pre ++ ae [p] ++ D).length=pre.length+6:=by rw [List.length_append,List.length_append,lD,mc];rfl
 have l7:(pre ++ ae [p]).length=pre.length+3:=by rw [List.length_append,mc];rfl
 have hg2:=hg;rw [e1] at hg2;have s1:=cH Y (ae r) _ _ W hg2 lY;have t1:=ff hg2;rw [l6] at s1 t1;have s1':(W.setCells g (pre.length+6) (ae r)).heap[g]?=some (.cells ((pre ++ ae [p]) ++ D ++ (ae r ++ post.drop 3)).toArray 85):=by
  rw [s1];congr 3;simp
 have s2:=cH D (ae [q]) _ _ _ s1' (by rw [lD];rfl);have t2:=ff s1';rw [l7] at s2 t2;rw [lD] at t2;rw [← lY] at t1;refine ⟨?_,?_,t1,t2⟩
 ·rw [s2];congr 3;rw [show p :: q :: r=[p] ++ [q] ++ r from rfl,aR,aR];simp
 ·have hg3:W.heap[g]?=some (.cells ((pre ++ ae [p]) ++ ae r ++ post).toArray 85):=by
   rw [hg];congr 3;rw [show p :: r=[p] ++ r from rfl,aR];simp
  have:=aS hg3
  rw [l7] at this;exact this
theorem rr {W:World} {g k:Nat} {pre post:List Value} {p:Op.Pk} {r:List Op.Pk} (hg:W.heap[g]?=some (.cells (pre ++ ae (p :: r) ++ post).toArray 85)) (hk:k≤1000) :
  ∃ c2 Z3 Zk R,(∀ ty,(Builtin.append_ #[60,3] ty #[.slice (some ⟨g,pre.length,none⟩) 1 (k+1),.int .i64 ((k+1:Nat):Int)]).run prog W=.ok (.slice (some ⟨W.heap.size,0,none⟩) (1+(k+1)) c2) (W.drew.alloc (.cells (ae [p] ++ Z3 ++ Zk ++ R).toArray 85)))∧Z3.length=3∧Zk.length=k*3∧k+2≤c2∧c2*3≤(k+2)*3+R.length:=by
 obtain ⟨i,hi,hz,hsz,hby⟩:=iT;have hg3:W.drew.heap[g]?=some (.cells (pre ++ ae [p] ++ (ae r ++ post)).toArray 85):=by
  have e:pre ++ ae (p :: r) ++ post=pre ++ ae [p] ++ (ae r ++ post):=by
   rw [show p :: r=[p] ++ r from rfl,aR];simp only [List.append_assoc]
  rw [← e];exact hg
 have hr:=aS hg3;have hold:(Builtin.firstCells i.size 1 (.slice (some ⟨g,pre.length,none⟩) 1 (k+1))).run prog W.drew=.ok (ae [p]).toArray W.drew:=by
  rw [hsz];exact run_firstCells_some W.drew 3 1 ⟨g,pre.length,none⟩ 1 (k+1) (ae [p]) rfl (fun j v hv=>by rw [Addr.add_mid];exact hr j v hv)
 have hcap:=grownCap_ge W (1+(k+1)) (k+1) 85;obtain ⟨c2,hc2⟩:∃ c2,grownCap W (1+(k+1)) (k+1) 85=c2:=⟨_,rfl⟩;obtain ⟨z,hzz⟩:∃ z:Array Value,(Value.agg #[.int .i64 0,.int .i64 0,.string ⟨#[]⟩]).cells=z:=⟨_,rfl⟩;have lz:z.size=3:=by rw [← hzz];rfl
 have lA:=size_zeroCells z (k+1);have lR:=size_zeroCells z (c2 - (1+(k+1)));rw [lz] at lA lR;have hn:=nextslicecap_le (need:=1+(k+1)) (old:=k+1) (by omega);refine ⟨c2,(Builtin.zeroCells z (k+1)).toList.take 3,(Builtin.zeroCells z (k+1)).toList.drop 3,(Builtin.zeroCells z (c2 - (1+(k+1)))).toList,fun ty=>?_,?_,?_,by omega,?_⟩
 ·have:=Lib.run_append_grow_zeros (P:=prog) W 60 3 ty 85 i _ .i64 .i64 underlying60 underlying3 hi hz (some ⟨g,pre.length,none⟩) 1 (k+1) (ae [p]) hold (k+1) (by omega) (by omega) (by omega) (by omega) (by rw [hby];omega) (by rw [hby];omega)
  rw [this,hc2,hzz];have e:(ae [p]).toArray ++ Builtin.zeroCells z (k+1) ++ Builtin.zeroCells z (c2 - (1+(k+1)))=(ae [p] ++ (Builtin.zeroCells z (k+1)).toList.take 3 ++ (Builtin.zeroCells z (k+1)).toList.drop 3 ++ (Builtin.zeroCells z (c2 - (1+(k+1)))).toList).toArray:=by
   apply Array.ext'
   simp only [Array.toList_append,List.append_assoc,List.take_append_drop]
  rw [e]
 ·rw [List.length_take,Array.length_toList,lA];omega
 ·rw [List.length_drop,Array.length_toList,lA];omega
 ·rw [Array.length_toList,lR];omega
theorem ti {W:World} {p q:Op.Pk} {r:List Op.Pk} {Z3 Zk R:List Value} (l3:Z3.length=3) (lk:Zk.length=r.length*3) :
  (((W.drew.alloc (.cells (ae [p] ++ Z3 ++ Zk ++ R).toArray 85)).setCells W.heap.size 3 (ae [q])).drew.setCells W.heap.size 6 (ae r)).heap[W.heap.size]?=some (.cells ([] ++ ae (p :: q :: r) ++ R).toArray 85)∧(W.drew.alloc (.cells (ae [p] ++ Z3 ++ Zk ++ R).toArray 85)).there W.heap.size 3 3∧((W.drew.alloc (.cells (ae [p] ++ Z3 ++ Zk ++ R).toArray 85)).setCells W.heap.size 3 (ae [q])).drew.there W.heap.size 6 (ae r).length:=by
 have h0:(W.drew.alloc (.cells (ae [p] ++ Z3 ++ Zk ++ R).toArray 85)).heap[W.heap.size]?=some (.cells (ae [p] ++ Z3 ++ (Zk ++ R)).toArray 85):=by
  rw [← List.append_assoc];exact zF W.drew _
 have s1:=cH Z3 (ae [q]) _ _ _ h0 (by rw [l3];rfl);have t1:=ff h0;have e3:(ae [p]).length=3:=rfl;rw [e3] at s1 t1;rw [l3] at t1;have s1':((W.drew.alloc (.cells (ae [p] ++ Z3 ++ Zk ++ R).toArray 85)).setCells W.heap.size 3 (ae [q])).drew.heap[W.heap.size]?=some (.cells ((ae [p] ++ ae [q]) ++ Zk ++ R).toArray 85):=by
  rw [show ((ae [p] ++ ae [q]) ++ Zk ++ R)=(ae [p] ++ ae [q] ++ (Zk ++ R)) by simp];exact s1
 have s2:=cH Zk (ae r) _ _ _ s1' (by rw [aF,lk]);have t2:=ff s1';have e6:(ae [p] ++ ae [q]).length=6:=rfl;rw [e6] at s2 t2;rw [lk,← aF] at t2;refine ⟨?_,t1,t2⟩;rw [s2,show p :: q :: r=[p] ++ [q] ++ r from rfl,aR,aR,List.nil_append]
theorem rt {W W':World} {ops:Array Oper} {rest:List Oper} {o:Oper} {a:Act} {Q:Exit→Act→World→Prop} (hgd:o.guard=none) (s x:Operand)
  (ho:o.op=.call { callee:=.builtin .append,args:=#[s,x],argTypes:=#[60,3] }) {sv xv v':Value} (hs:a.eval s=sv) (hx:a.eval x=xv)
  (hr:∀ ty,(Builtin.append_ #[60,3] ty #[sv,xv]).run prog W=.ok v' W') (h:wpList prog ops Q rest (a.put o.dst v') W'):wpList prog ops Q (o :: rest) a W:=by
 refine wpList_plain hgd fun K hK=>?_
 unfold Oper.wp execOp;simp only [ho,resolve,invoke,builtin,Sem.run_bind,Sem.run_pure,Result.andThen_ok,List.map_toArray,List.map_cons,List.map_nil,hs,hx,hr];exact hK _ _ h
theorem iI {base:Nat} {W:World} {v:Value} {p q:Op.Pk} {r:List Op.Pk} {N:Nat} (hk:HoldsK W base v (p :: r)) (hl:r.length<39) (hbs:base≤W.heap.size) (hN:W.heap[N]?=some (.cells #[.int .i64 q.code,.int .i64 q.id,.string q.data] 85)) (hap:v.ownBlock≠some N) :
  Calls prog 65 #[v,.int .i64 1,.slice (some ⟨N,0,none⟩) 1 1] W fun e W'=>∃ v',e=.returned v'∧HoldsK W' base v' (p :: q :: r)∧W.grownBy W' v.ownBlock∧∀ g,v'.ownBlock=some g→v.ownBlock=some g∨W.heap.size≤g:=by
 obtain ⟨g,pre,post,cp,hv,hg,hb,hc,hr⟩:=hk.split (by simp);have hP:HoldsP W (.slice (some ⟨N,0,none⟩) 1 1) [q]:=Or.inr ⟨N,1,_,rfl,hN,zD 3,fun j hj=>by
  have:j=0∨j=1∨j=2:=by simp at hj;omega
  rcases this with rfl | rfl | rfl<;>rfl⟩
 obtain ⟨c,ec⟩:∃ c,cp=c+1:=⟨cp - 1,by rw [List.length_cons] at hc;omega⟩;subst ec;rw [List.length_cons] at hv hc hr;obtain ⟨b1,hb1,hb2,hs1⟩:=kg g pre.length r.length c;subst hv;cases r with
 | nil =>
  have hs1':∀ z:World,(Instr.slice 60 (.slice (some ⟨g,pre.length,none⟩) 1 (c+1)) (some (.int .i64 1)) none none).run prog z=.ok (.slice (some b1) 0 c) z:=hs1;have HK:=aa hk;have HP:=aa hP;show Calls prog 65 #[.slice (some ⟨g,pre.length,none⟩) 1 (c+1),.int .i64 1,.slice (some ⟨N,0,none⟩) 1 1] W _
  clear hs1 hk hP;generalize hpo:pre.length=po at *;go_enter func65,ntmps65
  go_wp2_with (refine pw rfl _ _ rfl base _ _ [p] [q] rfl rfl (uh HK) (uh HP) (by simp) (by simp) hbs ?_;intro v' w' k1 k2 k3)
  go_ret
  exact ⟨_,rfl,k1,k2,k3⟩
 | cons p2 r2 =>
  have hk1:1≤(p2 :: r2).length:=by simp
  generalize hrr:p2 :: r2=r at *;clear hrr;have HK:=aa hk;clear hP;by_cases hroom:r.length+2≤c+1
  ·have h9:=rq (W:=W.drew) (q:=q) hg (by omega);have hNg:N≠g:=fun e=>hap (by rw [e];rfl)
   have hov:=fun n2 c2 o2=>rn W N g 0 o2 1 1 n2 c2 _ _ hN hg hNg
   have e13:=l_ g pre.length (r.length+1) (c+1) (r.length+2) hroom;have e14:=iH g pre.length (r.length+2) (c+1) 2 (by omega) (by omega);have e15:=iH g pre.length (r.length+2) (c+1) 1 (by omega) (by omega);have pinf:(prog.info? 85).map (·.size)=some 3:=by kernel_rfl
   have cp1:=fun ty=>fg (P:=prog) W.drew 60 60 ty 85 g (pre.length+6) r.length (c+1 - 2) g (pre.length+3) (r.length+1) (c+1 - 1) r.length 3 (ae r) underlying60 pinf (Nat.min_eq_right (by omega)) (aF r) h9.2.1 h9.2.2.1 (cL r)
   have cp2:=fun ty=>fg (P:=prog) (W.drew.setCells g (pre.length+6) (ae r)) 60 60 ty 85 g (pre.length+3) (r.length+1) (c+1 - 1) N 0 1 1 1 3 (ae [q]) underlying60 pinf (Nat.min_eq_left (by omega)) rfl (by
    have h0:(W.drew.setCells g (pre.length+6) (ae r)).heap[N]?=some (.cells ([] ++ ae [q] ++ []).toArray 85):=(bu hNg (ae r) _ W.drew).trans hN;exact aS h0) h9.2.2.2 (cL [q])
   simp only [Nat.add_sub_cancel,show c+1 - 2=c - 1 by omega,show r.length+2 - 1=r.length+1 by omega] at e14 e15 cp1 cp2;have e13':∀ z:World,(Instr.slice 60 (.slice (some ⟨g,pre.length,none⟩) (r.length+1) (c+1)) none (some (.int .i64 ((r.length:Int)+1+1))) none).run prog z=.ok (.slice (some ⟨g,pre.length,none⟩) (r.length+2) (c+1)) z:=fun z=>by
    rw [show ((r.length:Int)+1+1)=((r.length+2:Nat):Int) by omega];exact e13 z
   have HF:Hid (∃ v',Value.slice (some ⟨g,pre.length,none⟩) (r.length+2) (c+1)=v'∧HoldsK ((W.drew.setCells g (pre.length+6) (ae r)).setCells g (pre.length+3) (ae [q])) base v' (p :: q :: r)∧W.grownBy ((W.drew.setCells g (pre.length+6) (ae r)).setCells g (pre.length+3) (ae [q])) (some g)∧∀ g',v'.ownBlock=some g'→some g=some g'∨W.heap.size≤g'):=aa
    ⟨_,rfl,HoldsK.join h9.1 hb (by simp;omega) (by simp;omega),nj (rp (j7 _ _ _ _) (j7 _ _ _ _)),fun g' hg'=>Or.inl hg'⟩
   have e14':∀ z:World,(Instr.slice 60 (.slice (some ⟨g,pre.length,none⟩) (r.length+2) (c+1)) (some (.int .i64 2)) none none).run prog z=.ok (.slice (some ⟨g,pre.length+6,none⟩) r.length (c - 1)) z:=e14;have e15':∀ z:World,(Instr.slice 60 (.slice (some ⟨g,pre.length,none⟩) (r.length+2) (c+1)) (some (.int .i64 1)) none none).run prog z=.ok (.slice (some ⟨g,pre.length+3,none⟩) (r.length+1) c) z:=e15;clear e14 e15;clear h9 e13 hg hN hk hr hb1 hb2 HK hb hbs hap hNg pinf;generalize pre.length=po at *;generalize ae r=cr9 at *;generalize ae [q]=cq9 at *;generalize hk9:r.length=k at *;clear hk9;have k0:¬ ((k:Int)+1=1):=by omega
   have k1:¬ ((1:Int)=(k:Int)+1):=by omega
   have k2:¬ ((c:Int)+1<(k:Int)+1+1):=by omega
   go_enter func65,ntmps65
   go_upto_region 15 with fail
   have hw2:IntKind.i64.wrap 2=2:=by decide
   refine wp_region_held_drew (S:=fun _=>True) (by kernel_rfl) trivial (fun hHeld=>?_);refine tq 0 1 2 3 ?_;refine tq 4 5 6 7 ?_;refine r3 8 fun K hK=>?_
   go_simp;refine ro hK trivial fun _=>?_
   clear hK K;refine dn ?_ _;go_wp2
   go_ret
   obtain ⟨v',rfl,h⟩:=uh HF;exact ⟨_,rfl,h⟩
  ·have hck:c=r.length:=by omega
   subst hck;obtain ⟨c2,Z3,Zk,R,hap2,l3,lk,hc2,hR⟩:=rr (k:=r.length) hg (by omega);have M9:=ti (W:=W) (q:=q) (r:=r) (p:=p) (Z3:=Z3) (Zk:=Zk) (R:=R) l3 lk;have hgM:g<W.heap.size:=(ge.1 hg).1;have hNM:N<W.heap.size:=(ge.1 hN).1;obtain ⟨V,hV⟩:∃ V,W.drew.alloc (.cells (ae [p] ++ Z3 ++ Zk ++ R).toArray 85)=V:=⟨_,rfl⟩;rw [hV] at hap2 M9;have hVb:Below W.heap.size W V:=by rw [← hV];exact (zC _ _).drew.alloc (zD _) _
   have pinf:(prog.info? 85).map (·.size)=some 3:=by kernel_rfl
   have cp1:=fun ty=>fg (P:=prog) V 60 60 ty 85 W.heap.size 3 (r.length+1) (c2 - 1) N 0 1 1 1 3 (ae [q]) underlying60 pinf (Nat.min_eq_left (by omega)) rfl (by
    have h0:V.heap[N]?=some (.cells ([] ++ ae [q] ++ []).toArray 85):=(hVb.block N hNM).trans hN;exact aS h0) M9.2.1 (cL [q])
   have cp2:=fun ty=>fg (P:=prog) (V.setCells W.heap.size 3 (ae [q])).drew 60 60 ty 85 W.heap.size 6 r.length (c2 - 2) g (pre.length+3) r.length r.length r.length 3 (ae r) underlying60 pinf (Nat.min_self _) (aF r) (by
    have h0:(V.setCells W.heap.size 3 (ae [q])).heap[g]?=some (.cells ((pre ++ ae [p]) ++ ae r ++ post).toArray 85):=by
     have e:pre ++ ae (p :: r) ++ post=pre ++ ae [p] ++ ae r ++ post:=by
      rw [show p :: r=[p] ++ r from rfl,aR];simp only [List.append_assoc]
     rw [bu (by omega) _ _ _,hVb.block g hgM,hg,e]
    have h1:=aS h0;rw [List.length_append] at h1;exact h1) M9.2.2 (cL r)
   have e9:=l_ g pre.length (r.length+1) (r.length+1) 1 (by omega);have e10:=iH W.heap.size 0 (1+(r.length+1)) c2 1 (by omega) (by omega);have e11:=iH W.heap.size 0 (1+(r.length+1)) c2 2 (by omega) (by omega);rw [hb1 (by omega)] at hs1;have HF:Hid (∃ v',Value.slice (some ⟨W.heap.size,0,none⟩) (1+(r.length+1)) c2=v'∧HoldsK ((V.setCells W.heap.size 3 (ae [q])).drew.setCells W.heap.size 6 (ae r)) base v' (p :: q :: r)∧W.grownBy ((V.setCells W.heap.size 3 (ae [q])).drew.setCells W.heap.size 6 (ae r)) (some g)∧∀ g',v'.ownBlock=some g'→some g=some g'∨W.heap.size≤g'):=aa (by
    refine ⟨_,rfl,?_,?_,fun g' hg'=>Or.inr (by cases hg';exact zD _)⟩
    ·have:=HoldsK.join (base:=base) (L:=p :: q :: r) (pre:=[]) (post:=R) (cp:=c2) M9.1 hbs (by simp;omega) (by simp;omega)
     rw [show (p :: q :: r).length=1+(r.length+1) by simp;omega] at this;exact this
    ·have h1:=cM (g:=W.heap.size) (zD _) (ae [q]) 3 V hVb;have h2:=cM (g:=W.heap.size) (zD _) (ae r) 6 _ (h1.trans ((zC _ (V.setCells W.heap.size 3 (ae [q]))).drew.mono h1.size));exact ⟨h2.os,h2.tape,h2.output,h2.size,fun k hk _=>h2.block k hk⟩)
   clear M9 hg hN hk hr hb1 hb2 HK hb hbs hap pinf hVb hV hgM hNM hc l3 lk;have e9':∀ z:World,(Instr.slice 60 (.slice (some ⟨g,pre.length,none⟩) (r.length+1) (r.length+1)) none (some (.int .i64 1)) none).run prog z=.ok (.slice (some ⟨g,pre.length,none⟩) 1 (r.length+1)) z:=e9;have e10':∀ z:World,(Instr.slice 60 (.slice (some ⟨W.heap.size,0,none⟩) (1+(r.length+1)) c2) (some (.int .i64 1)) none none).run prog z=.ok (.slice (some ⟨W.heap.size,3,none⟩) (r.length+1) (c2 - 1)) z:=fun z=>by
    have:=e10 z
    rw [show 1+(r.length+1) - 1=r.length+1 by omega] at this;exact this
   have e11':∀ z:World,(Instr.slice 60 (.slice (some ⟨W.heap.size,0,none⟩) (1+(r.length+1)) c2) (some (.int .i64 2)) none none).run prog z=.ok (.slice (some ⟨W.heap.size,6,none⟩) r.length (c2 - 2)) z:=fun z=>by
    have:=e11 z
    rw [show 1+(r.length+1) - 2=r.length by omega] at this;exact this
   clear e9 e10 e11;have hap3:∀ ty,(Builtin.append_ #[60,3] ty #[.slice (some ⟨g,pre.length,none⟩) 1 (r.length+1),.int .i64 ((r.length:Int)+1)]).run prog W=.ok (.slice (some ⟨W.heap.size,0,none⟩) (1+(r.length+1)) c2) V:=hap2;clear hap2;generalize pre.length=po at *;generalize ae r=cr9 at *;generalize ae [q]=cq9 at *;generalize hk9:r.length=k at *;clear hk9;generalize W.heap.size=M at e10' e11' hap3 cp1 cp2 HF;generalize hm9:1+(k+1)=m at *;have hw2:IntKind.i64.wrap 2=2:=by decide
   have k0:¬ ((k:Int)+1=1):=by omega
   have k1:¬ ((1:Int)=(k:Int)+1):=by omega
   have k2:(k:Int)+1<(k:Int)+1+1:=by omega
   have k3:(k:Int)+1+1 - 1=(k:Int)+1:=by omega
   clear hm9;go_enter func65,ntmps65
   go_upto_region 11 with (refine rt rfl _ _ rfl rfl rfl hap3 ?_)
   refine wp_region_held_drew (S:=fun _=>True) (by kernel_rfl) trivial (fun hHeld=>?_);refine tq 0 1 2 3 ?_;refine tq 4 5 6 7 ?_;refine r3 8 fun K hK=>?_
   go_simp;refine ro hK trivial fun _=>?_
   clear hK K;refine dn ?_ _;go_wp2
   go_ret
   obtain ⟨v',rfl,h⟩:=uh HF;exact ⟨_,rfl,h⟩
end Go.Proofs.YtjdgiimfpkideaaGreatDoor
