/- slices.Insert of one sent frame behind the first of a row; what lay in memory stands but for that row. -/
import Derived.Test.YtkcghhkkepndnaaGreatDoorS17
import Derived.Lib.AppendZerosOnto
import Derived.Laws.StandIn
import Derived.Test.YtkcghhkkepndnaaGreatDoorShW
namespace Go.Proofs.YtkcghhkkepndnaaGreatDoor
open Go.RowKit
theorem HoldsK.split {W:World} {base:Nat} {v:Value} {L:List Sf} (h:HoldsK W base v L) (h0:L≠[]):∃ g pre post cp,v=.slice (some ⟨g,pre.length,none⟩) L.length cp∧W.heap[g]?=some (.cells (pre ++ sfcells L ++ post).toArray 82)∧base≤g∧L.length≤cp∧cp*2≤L.length*2+post.length:=by
 rcases h with ⟨_,e⟩ | ⟨g,o,cp,cur,rfl,h2,h3,h4,h5,h6⟩
 ·exact absurd e h0
 ·have hle:o+L.length*2≤cur.size:=by omega
  refine ⟨g,cur.toList.take o,cur.toList.drop (o+L.length*2),cp,?_,?_,h3,h4,?_⟩
  ·rw [List.length_take,Nat.min_eq_left (by simp;omega)]
  ·rw [h2]
   congr 2
   apply Array.ext'
   have e1:(cur.toList.drop o).take (L.length*2)=sfcells L:=by
    apply List.ext_getElem?
    intro j
    rw [List.getElem?_take]
    split
    ·rename_i hj
     rw [List.getElem?_drop,Array.getElem?_toList,h6 j hj]
    ·rename_i hj
     rw [List.getElem?_eq_none (by rw [sfcells_len];omega)]
   have e2:=List.take_append_drop (L.length*2) (cur.toList.drop o)
   rw [e1,List.drop_drop] at e2
   rw [List.append_assoc,e2,List.take_append_drop]
  ·have e:=Array.length_toList (xs:=cur)
   rw [List.length_drop]
   omega
theorem HoldsK.join {W:World} {base:Nat} {L:List Sf} {g cp:Nat} {pre post:List Value} (h2:W.heap[g]?=some (.cells (pre ++ sfcells L ++ post).toArray 82)) (h3:base≤g) (h4:L.length≤cp) (h5:cp*2≤L.length*2+post.length):HoldsK W base (.slice (some ⟨g,pre.length,none⟩) L.length cp) L:=by
 refine Or.inr ⟨g,_,cp,_,rfl,h2,h3,h4,?_,fun j hj=>?_⟩
 ·simp [sfcells_len];omega
 ·rw [List.getElem?_toArray,List.append_assoc,List.getElem?_append_right (by omega),Nat.add_sub_cancel_left,List.getElem?_append_left (by rw [sfcells_len];exact hj)]
theorem there_blk9 {W:World} {B:Nat} {X Y Z:List Value} {T:TypeId} (h:W.heap[B]?=some (.cells (X ++ Y ++ Z).toArray T)):W.there B X.length Y.length:=fun j hj=>by
 have:=range_blk h j Y[j] (List.getElem?_eq_getElem hj)
 rw [this]
 exact ⟨rfl,frz h _⟩
theorem run_copy_k {P:Program} (w:World) (dT sT ty elem:TypeId) (b o dLen dCap sb so sLen sCap n size:Nat) (cs:List Value)
  (hu:P.underlying dT=some (.slice elem)) (hs:(P.info? elem).map (·.size)=some size) (hn:Nat.min sLen dLen=n) (hl:cs.length=n*size)
  (hsrc:w.rangeAt sb so cs) (ht:w.there b o cs.length) (h1:∀ v ∈ cs,v.oneCell'=true) :
  (Builtin.copy_ #[dT,sT] ty #[.slice (some ⟨b,o,none⟩) dLen dCap,.slice (some ⟨sb,so,none⟩) sLen sCap]).run P w=.ok (goInt n) (w.setCells b o cs):=by
 have hld:=run_loadCells_list (P:=P) w ⟨sb,so,none⟩ cs (fun j v hv=>by
  rw [Addr.add_mid]
  exact hsrc j v hv)
 have hst:=run_storeCells_cells (P:=P) b o cs 0 w (fun j hj=>by simpa using (ht j hj).1) (fun j hj=>by simpa using (ht j hj).2) h1
 rw [hl] at hld
 cases hq:P.info? elem with
 | none=>simp [hq] at hs
 | some i =>
  have hi:i.size=size:=by simpa [hq] using hs
  simp [Builtin.copy_,run_underlying hu,Builtin.lenOf,Builtin.firstCells,sizeOf,typeInfo,hq,hi,hn,hld,hst]
theorem ov_m4 (a b:Option Addr) (la ca lb cb:Nat) (h1:(a:Option Addr)→(la cap:Nat)→(b:Option Addr)→(lb cap_1:Nat)→Sem Value) (h2:Array Value→Sem Value) :
  Extern.SlicesOverlaps.overlaps.match_4 (fun _=>Sem Value) #[.slice a la ca,.slice b lb cb] h1 h2=h1 a la ca b lb cb:=rfl
theorem ov_false (W:World) (g1 g2 o1 o2 n1 c1 n2 c2:Nat) (cu1 cu2:Array Value) (h1:W.heap[g1]?=some (.cells cu1 82)) (h2:W.heap[g2]?=some (.cells cu2 82)) (hne:g1≠g2) :
  (callFunc 90 #[.slice (some ⟨g1,o1,none⟩) n1 c1,.slice (some ⟨g2,o2,none⟩) n2 c2]).run Tryz.prog W=.ok (.value (.bool false)) W:=by
 rw [run_callFunc_standIn Tryz.func90 (by kernel_rfl) (by kernel_rfl) (by kernel_rfl) (e:=Extern.SlicesOverlaps.overlaps #[55,55] #[4]) (by kernel_rfl)]
 have f1:=frz h1 o1
 have f2:=frz h2 o2
 have hs:=Tryz.sizeOf82 W
 delta Extern.SlicesOverlaps.overlaps
 dsimp only
 rw [ov_m4]
 have s1:W.shape? g1=some (82,cu1.size):=by simp [World.shape?,h1]
 have s2:W.shape? g2=some (82,cu2.size):=by simp [World.shape?,h2]
 have f3:=frz h1 cu1.size
 have f4:=frz h2 cu2.size
 have e0:(g1 == g2)=false:=by simpa using hne
 simp [run_underlying Tryz.underlying55,hs,e0,Result.andThen,hne,f1,f2,f3,f4,s1,s2,noView,viewAt,mayBeOne,stringish,shape,Sem.run]
theorem slice_i (g o n cp i:Nat) (hi:i≤n) (hc:i<cp) (z:World):(Instr.slice 55 (.slice (some ⟨g,o,none⟩) n cp) (some (.int .i64 (i:Int))) none none).run Tryz.prog z=.ok (.slice (some ⟨g,o+i*2,none⟩) (n - i) (cp - i)) z:=by
 have hs:=Tryz.sizeOf82 z
 rw [run_slice_l (P:=Tryz.prog) (w:=z) 55 (some ⟨g,o,none⟩) n cp (by rw [elemSf];exact Tryz.underlying55) .i64 i (by omega) (by omega),elemSf,hs]
 have:¬ (cp=i):=by omega
 simp [Result.andThen,sliced,this,Addr.add]
theorem slice_to (g o n cp j:Nat) (hj:j≤cp) (z:World):(Instr.slice 55 (.slice (some ⟨g,o,none⟩) n cp) none (some (.int .i64 (j:Int))) none).run Tryz.prog z=.ok (.slice (some ⟨g,o,none⟩) j cp) z:=by
 have hs:=Tryz.sizeOf82 z
 rw [run_slice_h (P:=Tryz.prog) (w:=z) 55 (some ⟨g,o,none⟩) n cp (by rw [elemSf];exact Tryz.underlying55) .i64 j (by omega) (by omega),elemSf,hs]
 simp [Result.andThen,sliced,Addr.add]
theorem grown_set (W:World) (g o:Nat) (vs:List Value):W.grownBy (W.setCells g o vs) (some g):=by
 have hb:=below_set3 (n:=0) (g:=g) (a:=W) (Nat.zero_le _) vs o W (Below.refl 0 W)
 exact ⟨hb.os,hb.tape,hb.output,hb.size,fun k _ hne=>set_other3 (fun e=>hne (by rw [e])) vs o W⟩
theorem grown_drew {W W':World} {r:Option Nat} (h:W.drew.grownBy W' r):W.grownBy W' r:=⟨h.os,h.tape,h.output,h.size,h.block⟩
theorem grown_tr {W W' W'':World} {r:Option Nat} (h:W.grownBy W' r) (k:W'.grownBy W'' r):W.grownBy W'' r :=
 ⟨k.os.trans h.os,k.tape.trans h.tape,k.output.trans h.output,Nat.le_trans h.size k.size,fun i hi hne=>(k.block i (Nat.lt_of_lt_of_le hi h.size) hne).trans (h.block i hi hne)⟩
theorem sfcells3 (p:Sf):sfcells [p]=[.string p.text,.string p.bytes]:=rfl
theorem ins_room {W:World} {g:Nat} {pre post:List Value} {p q:Sf} {r:List Sf} (hg:W.heap[g]?=some (.cells (pre ++ sfcells (p :: r) ++ post).toArray 82)) (h3:2≤post.length) :
  ((W.setCells g (pre.length+4) (sfcells r)).setCells g (pre.length+2) (sfcells [q])).heap[g]?=some (.cells (pre ++ sfcells (p :: q :: r) ++ post.drop 2).toArray 82)∧W.rangeAt g (pre.length+2) (sfcells r)∧W.there g (pre.length+4) (sfcells r).length∧(W.setCells g (pre.length+4) (sfcells r)).there g (pre.length+2) 2:=by
 obtain ⟨D,hD⟩:∃ D,(sfcells r ++ post.take 2).take 2=D:=⟨_,rfl⟩
 obtain ⟨Y,hY⟩:∃ Y,(sfcells r ++ post.take 2).drop 2=Y:=⟨_,rfl⟩
 have l3:(post.take 2).length=2:=by rw [List.length_take];omega
 have lD:D.length=2:=by rw [← hD,List.length_take,List.length_append,l3];omega
 have lY:(sfcells r).length=Y.length:=by rw [← hY,List.length_drop,List.length_append,l3];omega
 have e1:pre ++ sfcells (p :: r) ++ post=(pre ++ sfcells [p] ++ D) ++ Y ++ post.drop 2:=by
  have a1:D ++ Y=sfcells r ++ post.take 2:=by rw [← hD,← hY];exact List.take_append_drop 2 _
  have a2:post=post.take 2 ++ post.drop 2:=(List.take_append_drop 2 post).symm
  rw [show (pre ++ sfcells [p] ++ D) ++ Y ++ post.drop 2=pre ++ sfcells [p] ++ (D ++ Y) ++ post.drop 2 by simp,a1,show p :: r=[p] ++ r from rfl,sfcells_append]
  conv=>lhs;rw [a2]
  simp
 have l6:(pre ++ sfcells [p] ++ D).length=pre.length+4:=by rw [List.length_append,List.length_append,lD,sfcells3];rfl
 have l7:(pre ++ sfcells [p]).length=pre.length+2:=by rw [List.length_append,sfcells3];rfl
 have hg2:=hg
 rw [e1] at hg2
 have s1:=set_blk Y (sfcells r) _ _ W hg2 lY
 have t1:=there_blk9 hg2
 rw [l6] at s1 t1
 have s1':(W.setCells g (pre.length+4) (sfcells r)).heap[g]?=some (.cells ((pre ++ sfcells [p]) ++ D ++ (sfcells r ++ post.drop 2)).toArray 82):=by
  rw [s1];congr 3;simp
 have s2:=set_blk D (sfcells [q]) _ _ _ s1' (by rw [lD];rfl)
 have t2:=there_blk9 s1'
 rw [l7] at s2 t2
 rw [lD] at t2
 rw [← lY] at t1
 refine ⟨?_,?_,t1,t2⟩
 ·rw [s2];congr 3
  rw [show p :: q :: r=[p] ++ [q] ++ r from rfl,sfcells_append,sfcells_append]
  simp
 ·have hg3:W.heap[g]?=some (.cells ((pre ++ sfcells [p]) ++ sfcells r ++ post).toArray 82):=by
   rw [hg];congr 3
   rw [show p :: r=[p] ++ r from rfl,sfcells_append]
   simp
  have:=range_blk hg3
  rw [l7] at this
  exact this
theorem app_grow {W:World} {g k:Nat} {pre post:List Value} {p:Sf} {r:List Sf} (hg:W.heap[g]?=some (.cells (pre ++ sfcells (p :: r) ++ post).toArray 82)) (hk:k≤1000) :
  ∃ c2 Z3 Zk R,(∀ ty,(Builtin.append_ #[55,3] ty #[.slice (some ⟨g,pre.length,none⟩) 1 (k+1),.int .i64 ((k+1:Nat):Int)]).run Tryz.prog W=.ok (.slice (some ⟨W.heap.size,0,none⟩) (1+(k+1)) c2) (W.drew.alloc (.cells (sfcells [p] ++ Z3 ++ Zk ++ R).toArray 82)))∧Z3.length=2∧Zk.length=k*2∧k+2≤c2∧c2*2≤(k+2)*2+R.length:=by
 obtain ⟨i,hi,hz,hsz,hby⟩:=sfinfo
 have hg3:W.drew.heap[g]?=some (.cells (pre ++ sfcells [p] ++ (sfcells r ++ post)).toArray 82):=by
  have e:pre ++ sfcells (p :: r) ++ post=pre ++ sfcells [p] ++ (sfcells r ++ post):=by
   rw [show p :: r=[p] ++ r from rfl,sfcells_append]
   simp only [List.append_assoc]
  rw [← e]
  exact hg
 have hr:=range_blk hg3
 have hold:(Builtin.firstCells i.size 1 (.slice (some ⟨g,pre.length,none⟩) 1 (k+1))).run Tryz.prog W.drew=.ok (sfcells [p]).toArray W.drew:=by
  rw [hsz]
  exact run_firstCells_some W.drew 2 1 ⟨g,pre.length,none⟩ 1 (k+1) (sfcells [p]) rfl (fun j v hv=>by rw [Addr.add_mid];exact hr j v hv)
 have hcap:=grownCap_ge W (1+(k+1)) (k+1) 82
 obtain ⟨c2,hc2⟩:∃ c2,grownCap W (1+(k+1)) (k+1) 82=c2:=⟨_,rfl⟩
 obtain ⟨z,hzz⟩:∃ z:Array Value,(Value.agg #[.string ⟨#[]⟩,.string ⟨#[]⟩]).cells=z:=⟨_,rfl⟩
 have lz:z.size=2:=by rw [← hzz];rfl
 have lA:=size_zeroCells z (k+1)
 have lR:=size_zeroCells z (c2 - (1+(k+1)))
 rw [lz] at lA lR
 have hn:=nextslicecap_le (need:=1+(k+1)) (old:=k+1) (by omega)
 refine ⟨c2,(Builtin.zeroCells z (k+1)).toList.take 2,(Builtin.zeroCells z (k+1)).toList.drop 2,(Builtin.zeroCells z (c2 - (1+(k+1)))).toList,fun ty=>?_,?_,?_,by omega,?_⟩
 ·have:=Lib.run_append_grow_zeros (P:=Tryz.prog) W 55 3 ty 82 i _ .i64 .i64 Tryz.underlying55 Tryz.underlying3 hi hz (some ⟨g,pre.length,none⟩) 1 (k+1) (sfcells [p]) hold (k+1) (by omega) (by omega) (by omega) (by omega) (by rw [hby];omega) (by rw [hby];omega)
  rw [this,hc2,hzz]
  have e:(sfcells [p]).toArray ++ Builtin.zeroCells z (k+1) ++ Builtin.zeroCells z (c2 - (1+(k+1)))=(sfcells [p] ++ (Builtin.zeroCells z (k+1)).toList.take 2 ++ (Builtin.zeroCells z (k+1)).toList.drop 2 ++ (Builtin.zeroCells z (c2 - (1+(k+1)))).toList).toArray:=by
   apply Array.ext'
   simp only [Array.toList_append,List.append_assoc,List.take_append_drop]
  rw [e]
 ·rw [List.length_take,Array.length_toList,lA];omega
 ·rw [List.length_drop,Array.length_toList,lA];omega
 ·rw [Array.length_toList,lR];omega
theorem ins_new {W:World} {p q:Sf} {r:List Sf} {Z3 Zk R:List Value} (l3:Z3.length=2) (lk:Zk.length=r.length*2) :
  (((W.drew.alloc (.cells (sfcells [p] ++ Z3 ++ Zk ++ R).toArray 82)).setCells W.heap.size 2 (sfcells [q])).drew.setCells W.heap.size 4 (sfcells r)).heap[W.heap.size]?=some (.cells ([] ++ sfcells (p :: q :: r) ++ R).toArray 82)∧(W.drew.alloc (.cells (sfcells [p] ++ Z3 ++ Zk ++ R).toArray 82)).there W.heap.size 2 2∧((W.drew.alloc (.cells (sfcells [p] ++ Z3 ++ Zk ++ R).toArray 82)).setCells W.heap.size 2 (sfcells [q])).drew.there W.heap.size 4 (sfcells r).length:=by
 have h0:(W.drew.alloc (.cells (sfcells [p] ++ Z3 ++ Zk ++ R).toArray 82)).heap[W.heap.size]?=some (.cells (sfcells [p] ++ Z3 ++ (Zk ++ R)).toArray 82):=by
  rw [← List.append_assoc]
  exact heap_alloc_new W.drew _
 have s1:=set_blk Z3 (sfcells [q]) _ _ _ h0 (by rw [l3];rfl)
 have t1:=there_blk9 h0
 have e3:(sfcells [p]).length=2:=rfl
 rw [e3] at s1 t1
 rw [l3] at t1
 have s1':((W.drew.alloc (.cells (sfcells [p] ++ Z3 ++ Zk ++ R).toArray 82)).setCells W.heap.size 2 (sfcells [q])).drew.heap[W.heap.size]?=some (.cells ((sfcells [p] ++ sfcells [q]) ++ Zk ++ R).toArray 82):=by
  rw [show ((sfcells [p] ++ sfcells [q]) ++ Zk ++ R)=(sfcells [p] ++ sfcells [q] ++ (Zk ++ R)) by simp]
  exact s1
 have s2:=set_blk Zk (sfcells r) _ _ _ s1' (by rw [sfcells_len,lk])
 have t2:=there_blk9 s1'
 have e6:(sfcells [p] ++ sfcells [q]).length=4:=rfl
 rw [e6] at s2 t2
 rw [lk,← sfcells_len] at t2
 refine ⟨?_,t1,t2⟩
 rw [s2,show p :: q :: r=[p] ++ [q] ++ r from rfl,sfcells_append,sfcells_append,List.nil_append]
theorem append_z {W W':World} {ops:Array Oper} {rest:List Oper} {o:Oper} {a:Act} {Q:Exit→Act→World→Prop} (hgd:o.guard=none) (s x:Operand)
  (ho:o.op=.call { callee:=.builtin .append,args:=#[s,x],argTypes:=#[55,3] }) {sv xv v':Value} (hs:a.eval s=sv) (hx:a.eval x=xv)
  (hr:∀ ty,(Builtin.append_ #[55,3] ty #[sv,xv]).run Tryz.prog W=.ok v' W') (h:wpList Tryz.prog ops Q rest (a.put o.dst v') W'):wpList Tryz.prog ops Q (o :: rest) a W:=by
 refine wpList_plain hgd fun K hK=>?_
 unfold Oper.wp execOp
 simp only [ho,resolve,invoke,builtin,Sem.run_bind,Sem.run_pure,Result.andThen_ok,List.map_toArray,List.map_cons,List.map_nil,hs,hx,hr]
 exact hK _ _ h
set_option maxHeartbeats 8000000 in
set_option maxRecDepth 100000 in
theorem iInsert {base:Nat} {W:World} {v:Value} {p q:Sf} {r:List Sf} {N:Nat} (hk:HoldsK W base v (p :: r)) (hl:r.length<39) (hbs:base≤W.heap.size) (hN:W.heap[N]?=some (.cells #[.string q.text,.string q.bytes] 82)) (hap:v.ownBlock≠some N) :
  Calls Tryz.prog 64 #[v,.int .i64 1,.slice (some ⟨N,0,none⟩) 1 1] W fun e W'=>∃ v',e=.returned v'∧HoldsK W' base v' (p :: q :: r)∧W.grownBy W' v.ownBlock∧∀ g,v'.ownBlock=some g→v.ownBlock=some g∨W.heap.size≤g:=by
 obtain ⟨g,pre,post,cp,hv,hg,hb,hc,hr⟩:=hk.split (by simp)
 have hP:HoldsP W (.slice (some ⟨N,0,none⟩) 1 1) [q]:=Or.inr ⟨N,1,_,rfl,hN,Nat.le_refl 2,fun j hj=>by
  have:j=0∨j=1:=by simp at hj;omega
  rcases this with rfl | rfl<;>rfl⟩
 obtain ⟨c,ec⟩:∃ c,cp=c+1:=⟨cp - 1,by rw [List.length_cons] at hc;omega⟩
 subst ec
 rw [List.length_cons] at hv hc hr
 obtain ⟨b1,hb1,hb2,hs1⟩:=slice_k g pre.length r.length c
 subst hv
 cases r with
 | nil =>
  have hs1':∀ z:World,(Instr.slice 55 (.slice (some ⟨g,pre.length,none⟩) 1 (c+1)) (some (.int .i64 1)) none none).run Tryz.prog z=.ok (.slice (some b1) 0 c) z:=hs1
  have HK:=hide hk
  have HP:=hide hP
  show Calls Tryz.prog 64 #[.slice (some ⟨g,pre.length,none⟩) 1 (c+1),.int .i64 1,.slice (some ⟨N,0,none⟩) 1 1] W _
  clear hs1 hk hP
  generalize hpo:pre.length=po at *
  go_enter Tryz.func64,Tryz.ntmps64
  go_wp2_with (refine append_k rfl _ _ rfl base _ _ [p] [q] rfl rfl (uh HK) (uh HP) (by simp) (by simp) hbs ?_;intro v' w' k1 k2 k3)
  go_ret
  exact ⟨_,rfl,k1,k2,k3⟩
 | cons p2 r2 =>
  have hk1:1≤(p2 :: r2).length:=by simp
  generalize hrr:p2 :: r2=r at *
  clear hrr
  have HK:=hide hk
  clear hP
  by_cases hroom:r.length+2≤c+1
  ·have h9:=ins_room (W:=W.drew) (q:=q) hg (by omega)
   have hNg:N≠g:=fun e=>hap (by rw [e];rfl)
   have hov:=fun n2 c2 o2=>ov_false W N g 0 o2 1 1 n2 c2 _ _ hN hg hNg
   have e13:=slice_to g pre.length (r.length+1) (c+1) (r.length+2) hroom
   have e14:=slice_i g pre.length (r.length+2) (c+1) 2 (by omega) (by omega)
   have e15:=slice_i g pre.length (r.length+2) (c+1) 1 (by omega) (by omega)
   have pinf:(Tryz.prog.info? 82).map (·.size)=some 2:=by kernel_rfl
   have cp1:=fun ty=>run_copy_k (P:=Tryz.prog) W.drew 55 55 ty 82 g (pre.length+4) r.length (c+1 - 2) g (pre.length+2) (r.length+1) (c+1 - 1) r.length 2 (sfcells r) Tryz.underlying55 pinf (Nat.min_eq_right (by omega)) (sfcells_len r) h9.2.1 h9.2.2.1 (sfcells_one r)
   have cp2:=fun ty=>run_copy_k (P:=Tryz.prog) (W.drew.setCells g (pre.length+4) (sfcells r)) 55 55 ty 82 g (pre.length+2) (r.length+1) (c+1 - 1) N 0 1 1 1 2 (sfcells [q]) Tryz.underlying55 pinf (Nat.min_eq_left (by omega)) rfl (by
    have h0:(W.drew.setCells g (pre.length+4) (sfcells r)).heap[N]?=some (.cells ([] ++ sfcells [q] ++ []).toArray 82):=(set_other3 hNg (sfcells r) _ W.drew).trans hN
    exact range_blk h0) h9.2.2.2 (sfcells_one [q])
   simp only [Nat.add_sub_cancel,show c+1 - 2=c - 1 by omega,show r.length+2 - 1=r.length+1 by omega] at e14 e15 cp1 cp2
   have e13':∀ z:World,(Instr.slice 55 (.slice (some ⟨g,pre.length,none⟩) (r.length+1) (c+1)) none (some (.int .i64 ((r.length:Int)+1+1))) none).run Tryz.prog z=.ok (.slice (some ⟨g,pre.length,none⟩) (r.length+2) (c+1)) z:=fun z=>by
    rw [show ((r.length:Int)+1+1)=((r.length+2:Nat):Int) by omega];exact e13 z
   have HF:Hid (∃ v',Value.slice (some ⟨g,pre.length,none⟩) (r.length+2) (c+1)=v'∧HoldsK ((W.drew.setCells g (pre.length+4) (sfcells r)).setCells g (pre.length+2) (sfcells [q])) base v' (p :: q :: r)∧W.grownBy ((W.drew.setCells g (pre.length+4) (sfcells r)).setCells g (pre.length+2) (sfcells [q])) (some g)∧∀ g',v'.ownBlock=some g'→some g=some g'∨W.heap.size≤g'):=hide
    ⟨_,rfl,HoldsK.join h9.1 hb (by simp;omega) (by simp;omega),grown_drew (grown_tr (grown_set _ _ _ _) (grown_set _ _ _ _)),fun g' hg'=>Or.inl hg'⟩
   have e14':∀ z:World,(Instr.slice 55 (.slice (some ⟨g,pre.length,none⟩) (r.length+2) (c+1)) (some (.int .i64 2)) none none).run Tryz.prog z=.ok (.slice (some ⟨g,pre.length+4,none⟩) r.length (c - 1)) z:=e14
   have e15':∀ z:World,(Instr.slice 55 (.slice (some ⟨g,pre.length,none⟩) (r.length+2) (c+1)) (some (.int .i64 1)) none none).run Tryz.prog z=.ok (.slice (some ⟨g,pre.length+2,none⟩) (r.length+1) c) z:=e15
   clear e14 e15
   clear h9 e13 hg hN hk hr hb1 hb2 HK hb hbs hap hNg pinf
   generalize pre.length=po at *
   generalize sfcells r=cr9 at *
   generalize sfcells [q]=cq9 at *
   generalize hk9:r.length=k at *
   clear hk9
   have k0:¬ ((k:Int)+1=1):=by omega
   have k1:¬ ((1:Int)=(k:Int)+1):=by omega
   have k2:¬ ((c:Int)+1<(k:Int)+1+1):=by omega
   go_enter Tryz.func64,Tryz.ntmps64
   go_upto_region 15 with fail
   have hw2:IntKind.i64.wrap 2=2:=by decide
   refine wp_region_held_drew (S:=fun _=>True) (by kernel_rfl) trivial (fun hHeld=>?_)
   refine t2 0 ?_
   refine t2 1 ?_
   refine t2 2 ?_
   refine t2 3 ?_
   refine t2 4 ?_
   refine t2 5 ?_
   refine t2 6 ?_
   refine t2 7 ?_
   refine r1 8 rfl (fun K hK=>?_)
   go_simp
   refine ro hK trivial fun _=>?_
   clear hK K
   refine dn ?_ _
   go_wp2
   go_ret
   obtain ⟨v',rfl,h⟩:=uh HF
   exact ⟨_,rfl,h⟩
  ·have hck:c=r.length:=by omega
   subst hck
   obtain ⟨c2,Z3,Zk,R,hap2,l3,lk,hc2,hR⟩:=app_grow (k:=r.length) hg (by omega)
   have M9:=ins_new (W:=W) (q:=q) (r:=r) (p:=p) (Z3:=Z3) (Zk:=Zk) (R:=R) l3 lk
   have hgM:g<W.heap.size:=(Array.getElem?_eq_some_iff.1 hg).1
   have hNM:N<W.heap.size:=(Array.getElem?_eq_some_iff.1 hN).1
   obtain ⟨V,hV⟩:∃ V,W.drew.alloc (.cells (sfcells [p] ++ Z3 ++ Zk ++ R).toArray 82)=V:=⟨_,rfl⟩
   rw [hV] at hap2 M9
   have hVb:Below W.heap.size W V:=by rw [← hV];exact (Below.refl _ _).drew.alloc (Nat.le_refl _) _
   have pinf:(Tryz.prog.info? 82).map (·.size)=some 2:=by kernel_rfl
   have cp1:=fun ty=>run_copy_k (P:=Tryz.prog) V 55 55 ty 82 W.heap.size 2 (r.length+1) (c2 - 1) N 0 1 1 1 2 (sfcells [q]) Tryz.underlying55 pinf (Nat.min_eq_left (by omega)) rfl (by
    have h0:V.heap[N]?=some (.cells ([] ++ sfcells [q] ++ []).toArray 82):=(hVb.block N hNM).trans hN
    exact range_blk h0) M9.2.1 (sfcells_one [q])
   have cp2:=fun ty=>run_copy_k (P:=Tryz.prog) (V.setCells W.heap.size 2 (sfcells [q])).drew 55 55 ty 82 W.heap.size 4 r.length (c2 - 2) g (pre.length+2) r.length r.length r.length 2 (sfcells r) Tryz.underlying55 pinf (Nat.min_self _) (sfcells_len r) (by
    have h0:(V.setCells W.heap.size 2 (sfcells [q])).heap[g]?=some (.cells ((pre ++ sfcells [p]) ++ sfcells r ++ post).toArray 82):=by
     have e:pre ++ sfcells (p :: r) ++ post=pre ++ sfcells [p] ++ sfcells r ++ post:=by
      rw [show p :: r=[p] ++ r from rfl,sfcells_append]
      simp only [List.append_assoc]
     rw [set_other3 (by omega) _ _ _,hVb.block g hgM,hg,e]
    have h1:=range_blk h0
    rw [List.length_append] at h1
    exact h1) M9.2.2 (sfcells_one r)
   have e9:=slice_to g pre.length (r.length+1) (r.length+1) 1 (by omega)
   have e10:=slice_i W.heap.size 0 (1+(r.length+1)) c2 1 (by omega) (by omega)
   have e11:=slice_i W.heap.size 0 (1+(r.length+1)) c2 2 (by omega) (by omega)
   rw [hb1 (by omega)] at hs1
   have HF:Hid (∃ v',Value.slice (some ⟨W.heap.size,0,none⟩) (1+(r.length+1)) c2=v'∧HoldsK ((V.setCells W.heap.size 2 (sfcells [q])).drew.setCells W.heap.size 4 (sfcells r)) base v' (p :: q :: r)∧W.grownBy ((V.setCells W.heap.size 2 (sfcells [q])).drew.setCells W.heap.size 4 (sfcells r)) (some g)∧∀ g',v'.ownBlock=some g'→some g=some g'∨W.heap.size≤g'):=hide (by
    refine ⟨_,rfl,?_,?_,fun g' hg'=>Or.inr (by cases hg';exact Nat.le_refl _)⟩
    ·have:=HoldsK.join (base:=base) (L:=p :: q :: r) (pre:=[]) (post:=R) (cp:=c2) M9.1 hbs (by simp;omega) (by simp;omega)
     rw [show (p :: q :: r).length=1+(r.length+1) by simp;omega] at this
     exact this
    ·have h1:=below_set3 (g:=W.heap.size) (Nat.le_refl _) (sfcells [q]) 2 V hVb
     have h2:=below_set3 (g:=W.heap.size) (Nat.le_refl _) (sfcells r) 4 _ (h1.trans ((Below.refl _ (V.setCells W.heap.size 2 (sfcells [q]))).drew.mono h1.size))
     exact ⟨h2.os,h2.tape,h2.output,h2.size,fun k hk _=>h2.block k hk⟩)
   clear M9 hg hN hk hr hb1 hb2 HK hb hbs hap pinf hVb hV hgM hNM hc l3 lk
   have e9':∀ z:World,(Instr.slice 55 (.slice (some ⟨g,pre.length,none⟩) (r.length+1) (r.length+1)) none (some (.int .i64 1)) none).run Tryz.prog z=.ok (.slice (some ⟨g,pre.length,none⟩) 1 (r.length+1)) z:=e9
   have e10':∀ z:World,(Instr.slice 55 (.slice (some ⟨W.heap.size,0,none⟩) (1+(r.length+1)) c2) (some (.int .i64 1)) none none).run Tryz.prog z=.ok (.slice (some ⟨W.heap.size,2,none⟩) (r.length+1) (c2 - 1)) z:=fun z=>by
    have:=e10 z
    rw [show 1+(r.length+1) - 1=r.length+1 by omega] at this
    exact this
   have e11':∀ z:World,(Instr.slice 55 (.slice (some ⟨W.heap.size,0,none⟩) (1+(r.length+1)) c2) (some (.int .i64 2)) none none).run Tryz.prog z=.ok (.slice (some ⟨W.heap.size,4,none⟩) r.length (c2 - 2)) z:=fun z=>by
    have:=e11 z
    rw [show 1+(r.length+1) - 2=r.length by omega] at this
    exact this
   clear e9 e10 e11
   have hap3:∀ ty,(Builtin.append_ #[55,3] ty #[.slice (some ⟨g,pre.length,none⟩) 1 (r.length+1),.int .i64 ((r.length:Int)+1)]).run Tryz.prog W=.ok (.slice (some ⟨W.heap.size,0,none⟩) (1+(r.length+1)) c2) V:=hap2
   clear hap2
   generalize pre.length=po at *
   generalize sfcells r=cr9 at *
   generalize sfcells [q]=cq9 at *
   generalize hk9:r.length=k at *
   clear hk9
   generalize W.heap.size=M at e10' e11' hap3 cp1 cp2 HF
   generalize hm9:1+(k+1)=m at *
   have hw2:IntKind.i64.wrap 2=2:=by decide
   have k0:¬ ((k:Int)+1=1):=by omega
   have k1:¬ ((1:Int)=(k:Int)+1):=by omega
   have k2:(k:Int)+1<(k:Int)+1+1:=by omega
   have k3:(k:Int)+1+1 - 1=(k:Int)+1:=by omega
   clear hm9
   go_enter Tryz.func64,Tryz.ntmps64
   go_upto_region 11 with (refine append_z rfl _ _ rfl rfl rfl hap3 ?_)
   refine wp_region_held_drew (S:=fun _=>True) (by kernel_rfl) trivial (fun hHeld=>?_)
   refine t2 0 ?_
   refine t2 1 ?_
   refine t2 2 ?_
   refine t2 3 ?_
   refine t2 4 ?_
   refine t2 5 ?_
   refine t2 6 ?_
   refine t2 7 ?_
   refine r1 8 rfl (fun K hK=>?_)
   go_simp
   refine ro hK trivial fun _=>?_
   clear hK K
   refine dn ?_ _
   go_wp2
   go_ret
   obtain ⟨v',rfl,h⟩:=uh HF
   exact ⟨_,rfl,h⟩
end Go.Proofs.YtkcghhkkepndnaaGreatDoor
