/- PkQ WpI Src SrcNew Edge SrcBytes SrcNigh SrcEa -/
import Derived.Test.YtahpjlbaagkdoaaGreatDoorS08
set_option maxHeartbeats 1000000
namespace Go.Proofs.YtahpjlbaagkdoaaGreatDoor
open Go.RowKit Go.Proofs.Tryz
def HoldsK (W:World) (base:Nat) (v:Value) (P:List Op.Pk):Prop :=
 (v=.slice none 0 0∧P=[])∨∃ g o cp cur,v=.slice (some ⟨g,o,none⟩) P.length cp∧W.heap[g]?=some (.cells cur 35)∧base≤g∧P.length≤cp∧o+cp*3≤cur.size∧∀ j,j<P.length*3→cur[o+j]?=(pkcells P)[j]?
theorem HoldsK.form {W:World} {base:Nat} {v:Value} {P:List Op.Pk} (h:HoldsK W base v P):∃ a c,v=.slice a P.length c:=by
 rcases h with ⟨rfl,rfl⟩ | ⟨g,o,cp,cur,rfl,_⟩
 ·exact ⟨_,_,rfl⟩
 ·exact ⟨_,_,rfl⟩
theorem HoldsK.keep {W W':World} {base:Nat} {v:Value} {P:List Op.Pk} (h:HoldsK W base v P) (k:∀ g cur,v.ownBlock=some g→base≤g→W.heap[g]?=some (.cells cur 35)→W'.heap[g]?=W.heap[g]?):HoldsK W' base v P :=
 h.imp id fun ⟨g,o,cp,cur,e,h2,h3,h4⟩=>⟨g,o,cp,cur,e,(k g cur (by rw [e];rfl) h3 h2).trans h2,h3,h4⟩
theorem HoldsK.own {W:World} {base:Nat} {v:Value} {P:List Op.Pk} (h:W.ownsRow base 35 3 v P.length (pkcells P)):HoldsK W base v P:=by
 rcases h.2 with ⟨h1,h2⟩ | ⟨g,cap,cur,h1,hb,h3,h4,_,h6,h7⟩
 ·exact Or.inl ⟨h1,List.eq_nil_of_length_eq_zero h2⟩
 ·refine Or.inr ⟨g,0,cap,cur,h1,h3,hb,h4,by omega,fun j hj=>?_⟩;rw [Nat.zero_add,← h7,List.getElem?_take,if_pos hj,Array.getElem?_toList]
theorem HoldsK.first {W:World} {base:Nat} {v:Value} {p:Op.Pk} {P:List Op.Pk} (h:HoldsK W base v (p :: P)):∃ g o cp,v=.slice (some ⟨g,o,none⟩) (P.length+1) (cp+1)∧W.cell? ⟨g,o,none⟩=some (.int .i64 p.code)∧W.cell? ⟨g,o+1,none⟩=some (.int .i64 p.id)∧W.cell? ⟨g,o+2,none⟩=some (.string p.data)∧HoldsK W base (.slice (some ⟨g,o+3,none⟩) P.length cp) P∧(cp=0→HoldsK W base (.slice (some ⟨g,o,none⟩) P.length 0) P):=by
 rcases h with ⟨_,e⟩ | ⟨g,o,cp,cur,rfl,h2,h3,h4,h5,h6⟩
 ·cases e
 ·rw [List.length_cons] at h4 h6 ⊢;obtain ⟨k,rfl⟩:∃ k,cp=k+1:=⟨cp - 1,by omega⟩;have e:pkcells (p :: P)=.int .i64 p.code :: .int .i64 p.id :: .string p.data :: pkcells P:=rfl;refine ⟨g,o,k,rfl,?_,?_,?_,Or.inr ⟨g,o+3,k,cur,rfl,h2,h3,by omega,by omega,fun j hj=>?_⟩,fun hk=>?_⟩
  ·rw [cr h2];exact h6 0 (by omega)
  ·rw [cr h2];exact h6 1 (by omega)
  ·rw [cr h2];exact h6 2 (by omega)
  ·have:=h6 (j+3) (by omega)
   rw [show o+3+j=o+(j+3) by omega,this,e];rfl
  ·have:P=[]:=List.eq_nil_of_length_eq_zero (by omega)
   subst this;exact Or.inr ⟨g,o,0,cur,rfl,h2,h3,Nat.le_refl _,by omega,fun j hj=>absurd hj (by simp)⟩
theorem pkcells_one (F:List Op.Pk):∀ u ∈ pkcells F,u.oneCell'=true:=by
 intro u hu;simp only [pkcells,List.mem_flatMap,List.mem_cons,List.not_mem_nil,or_false] at hu;obtain ⟨f,_,rfl | rfl | rfl⟩:=hu<;>rfl
theorem setCells_row3 {T:TypeId} {g:Nat}:∀ (vs:List Value) (o:Nat) (W:World) (cur:Array Value),W.heap[g]?=some (.cells cur T)→o+vs.length≤cur.size →
  ∃ cur',(W.setCells g o vs).heap[g]?=some (.cells cur' T)∧cur'.size=cur.size∧(∀ k,k<o→cur'[k]?=cur[k]?)∧∀ j,j<vs.length→cur'[o+j]?=vs[j]?
 | [],_,_,cur,h,_=>⟨cur,h,rfl,fun _ _=>rfl,fun j hj=>absurd hj (by simp)⟩
 | v :: vs,o,W,cur,h,hl=>by
  rw [List.length_cons] at hl;obtain ⟨cur',h1,h2,h3,h4⟩:=setCells_row3 vs (o+1) (W.setCell ⟨g,o,none⟩ v) (cur.setIfInBounds o v) (heap_setCell_same _ _ o _ _ v h) (by rw [Array.size_setIfInBounds];omega);refine ⟨cur',h1,by rw [h2,Array.size_setIfInBounds],fun k hk=>?_,fun j hj=>?_⟩
  ·rw [h3 k (by omega),Array.getElem?_setIfInBounds,if_neg (by omega)]
  ·cases j with
   | zero =>
    rw [Nat.add_zero,h3 o (by omega),Array.getElem?_setIfInBounds,if_pos rfl,if_pos (by omega)];rfl
   | succ j =>
    rw [List.length_cons] at hj;rw [show o+(j+1)=o+1+j by omega,h4 j (by omega)];rfl
theorem below_set3 {n g:Nat} {a:World} (hg:n≤g):∀ (vs:List Value) (o:Nat) (W:World),Below n a W→Below n a (W.setCells g o vs)
 | [],_,_,h=>h
 | v :: vs,o,W,h=>below_set3 hg vs (o+1) (W.setCell ⟨g,o,none⟩ v) (h.setCell (p:=⟨g,o,none⟩) hg v)
theorem set_other3 {g k:Nat} (hk:k≠g):∀ (vs:List Value) (o:Nat) (W:World),(W.setCells g o vs).heap[k]?=W.heap[k]?
 | [],_,_=>rfl
 | v :: vs,o,W=>(set_other3 hk vs (o+1) (W.setCell ⟨g,o,none⟩ v)).trans (Below.heap_setCell _ ⟨g,o,none⟩ _ _ hk)
theorem run_append_no3 {W:World} (ty:TypeId) (ad ad':Option Addr) (n cap c':Nat) (hc:n≤cap):(Builtin.append_ #[39,39] ty #[.slice ad n cap,.slice ad' 0 c']).run prog W=.ok (.slice ad n cap) W:=by
 obtain ⟨i,hi,hz,hsz,hby⟩:=pkinfo;cases ad<;>cases ad'<;>simp [Builtin.append_,run_underlying underlying39,sizeOf,typeInfo,hi,Builtin.lenOf,Builtin.firstCells,loadCells,loadCellsFrom,storeCells,hc]
theorem HoldsP.news {W:World} {F:List Op.Pk} {g cs:Nat} {cur:Array Value} (h1:W.heap[g]?=some (.cells cur 35)) (h2:∀ j,j<F.length*3→cur[j]?=(pkcells F)[j]?) (_:cs=cs):∀ j u,(pkcells F)[j]?=some u→W.cell? ((⟨g,0,none⟩:Addr).add j)=some u:=fun j u hu=>by
 have hj:j<F.length*3:=by have:=(List.getElem?_eq_some_iff.1 hu).1;rw [pkcells_len] at this;exact this
 rw [Addr.add_lit,Nat.zero_add,cr h1,h2 j hj];exact hu
theorem run_append_k {W:World} {base:Nat} {v s:Value} {P F:List Op.Pk} (ty:TypeId) (hv:HoldsK W base v P) (hs:HoldsP W s F) (hP:P.length≤1000000) (hF:F.length≤1000000) (hbase:base≤W.heap.size) :
  ∃ v' W',(Builtin.append_ #[39,39] ty #[v,s]).run prog W=.ok v' W'∧HoldsK W' base v' (P ++ F)∧W.grownBy W' v.ownBlock∧∀ g,v'.ownBlock=some g→v.ownBlock=some g∨W.heap.size≤g:=by
 obtain ⟨i,hi,hz,hsz,hby⟩:=pkinfo;rcases hs with ⟨ad,cs,rfl,rfl⟩ | ⟨g2,cs,cu,rfl,s2,s3,s4⟩
 ·rw [List.append_nil];rcases hv with ⟨rfl,rfl⟩ | ⟨g,o,cp,cur,rfl,h2,h3,h4,h5,h6⟩
  ·exact ⟨_,_,run_append_no3 ty none ad 0 0 cs (Nat.le_refl _),Or.inl ⟨rfl,rfl⟩,⟨rfl,rfl,rfl,Nat.le_refl _,fun _ _ _=>rfl⟩,fun _ h=>Or.inl h⟩
  ·exact ⟨_,_,run_append_no3 ty _ ad _ _ cs h4,Or.inr ⟨g,o,cp,cur,rfl,h2,h3,h4,h5,h6⟩,⟨rfl,rfl,rfl,Nat.le_refl _,fun _ _ _=>rfl⟩,fun _ h=>Or.inl h⟩
 ·have hnews:=HoldsP.news (cs:=cs) s2 s4 rfl;have grow:∀ (W':World) (v':Value),W'.ownsRow W.heap.size 35 3 v' (P.length+F.length) (pkcells P ++ pkcells F)→HoldsK W' base v' (P ++ F)∧∀ g,v'.ownBlock=some g→v.ownBlock=some g∨W.heap.size≤g:=fun W' v' r1=>by
   have ho:HoldsK W' W.heap.size v' (P ++ F):=HoldsK.own (by rw [List.length_append,pkcells_append];exact r1);refine ⟨ho.imp id fun ⟨g,o,cp,cur,e,h2,h3,h4⟩=>⟨g,o,cp,cur,e,h2,Nat.le_trans hbase h3,h4⟩,fun g hg=>Or.inr ?_⟩;rcases ho with ⟨e,_⟩ | ⟨g',o,cp,cur,e,h2,h3,_⟩
   ·rw [e] at hg;cases hg
   ·rw [e] at hg;cases hg;exact h3
  rcases hv with ⟨rfl,rfl⟩ | ⟨g,o,cp,cur,rfl,h2,h3,h4,h5,h6⟩
  ·obtain ⟨v',W',h1,r1,r2,_⟩:=run_append_own (P:=prog) W W.heap.size 39 ty 35 i _ 3 32 underlying39 hi hz hsz hby rfl (by decide) (.slice none 0 0) 0 (pkcells []) (World.ownsRow_nil _ _ _ _) ⟨g2,0,none⟩ F.length cs (pkcells F) (pkcells_len F) hnews (pkcells_one F) (by unfold maxLen;omega) (by omega) (Nat.le_refl _);have:=grow W' v' (by simpa using r1)
   exact ⟨v',W',h1,this.1,r2,this.2⟩
  ·by_cases hr:P.length+F.length≤cp
   ·have hcell:∀ j,j<(pkcells F).length→(W.cell? ⟨g,o+P.length*i.size+j,none⟩).isSome=true∧W.frozen? ⟨g,o+P.length*i.size+j,none⟩=false:=by
     intro j hj;rw [pkcells_len] at hj;have hc:o+P.length*3+j<cur.size:=by omega
     rw [hsz,cr h2,Array.getElem?_eq_getElem hc];exact ⟨rfl,frz h2 _⟩
    have hrun:=run_append_room_cells (P:=prog) W 39 ty 35 i underlying39 hi g o P.length cp ⟨g2,0,none⟩ F.length cs (pkcells F) (by rw [hsz,pkcells_len]) hnews (pkcells_one F) hr (fun j hj=>(hcell j hj).1) (fun j hj=>(hcell j hj).2);rw [hsz] at hrun;obtain ⟨cur',k1,k2,k3,k4⟩:=setCells_row3 (pkcells F) (o+P.length*3) W cur h2 (by rw [pkcells_len];omega);refine ⟨_,_,hrun,Or.inr ⟨g,o,cp,cur',by rw [List.length_append],k1,h3,by rw [List.length_append];exact hr,by rw [k2];exact h5,fun j hj=>?_⟩,?_,fun _ h=>Or.inl h⟩
    ·rw [List.length_append] at hj;rw [pkcells_append];by_cases ej:j<P.length*3
     ·rw [k3 _ (by omega),h6 j ej,List.getElem?_append_left (by rw [pkcells_len];exact ej)]
     ·have e5:o+j=o+P.length*3+(j - P.length*3):=by omega
      rw [List.getElem?_append_right (by rw [pkcells_len];omega),pkcells_len,e5];exact k4 (j - P.length*3) (by rw [pkcells_len];omega)
    ·have hb:=below_set3 (n:=0) (g:=g) (a:=W) (Nat.zero_le _) (pkcells F) (o+P.length*3) W (Below.refl 0 W);exact ⟨hb.os,hb.tape,hb.output,hb.size,fun k hkl hne=>set_other3 (fun e=>hne (by rw [e];rfl)) (pkcells F) _ _⟩
   ·obtain ⟨v',W',h1,r1,r2⟩:=run_append_arg_grows (P:=prog) W 39 ty 35 i _ 3 32 underlying39 hi hz hsz hby rfl (by decide) ⟨g,o,none⟩ P.length cp (pkcells P) (pkcells_len P) (fun j u hu=>by
      have hj:j<P.length*3:=by have:=(List.getElem?_eq_some_iff.1 hu).1;rw [pkcells_len] at this;exact this
      rw [Addr.add_lit,cr h2,h6 j hj];exact hu) ⟨g2,0,none⟩ F.length cs (pkcells F) (pkcells_len F) hnews (by omega) (by unfold maxLen;omega) (by omega)
    have:=grow W' v' r1
    exact ⟨v',W',h1,this.1,⟨r2.os,r2.tape,r2.output,r2.size,fun k hk _=>r2.block k hk (by simp)⟩,this.2⟩
theorem append_k {W:World} {ops:Array Oper} {rest:List Oper} {o:Oper} {a:Act} {Q:Exit→Act→World→Prop} (hgd:o.guard=none) (s x:Operand)
  (ho:o.op=.call { callee:=.builtin .append,args:=#[s,x],argTypes:=#[39,39] })
  (base:Nat) (v sv:Value) (P F:List Op.Pk) (hs:a.eval s=v) (hx:a.eval x=sv) (hv:HoldsK W base v P) (hsv:HoldsP W sv F) (hP:P.length≤1000000) (hF:F.length≤1000000) (hbase:base≤W.heap.size)
  (h:∀ v' w',HoldsK w' base v' (P ++ F)→W.grownBy w' v.ownBlock→(∀ g,v'.ownBlock=some g→v.ownBlock=some g∨W.heap.size≤g)→wpList prog ops Q rest (a.put o.dst v') w'):wpList prog ops Q (o :: rest) a W:=by
 refine wpList_plain hgd fun K hK=>?_
 obtain ⟨v',w',hr,h2,h3,h4⟩:=run_append_k (W:=W) o.type hv hsv hP hF hbase;unfold Oper.wp execOp;simp only [ho,resolve,invoke,builtin,Sem.run_bind,Sem.run_pure,Result.andThen_ok,List.map_toArray,List.map_cons,List.map_nil,hs,hx,hr];exact hK _ _ (h v' w' h2 h3 h4)
theorem HoldsK.fst {W:World} {base:Nat} {v:Value} {p:Op.Pk} {P:List Op.Pk} (h:HoldsK W base v (p :: P)):∃ g o cp cur,v=.slice (some ⟨g,o,none⟩) (P.length+1) (cp+1)∧W.heap[g]?=some (.cells cur 35)∧cur[o]?=some (.int .i64 p.code)∧cur[o+1]?=some (.int .i64 p.id)∧cur[o+2]?=some (.string p.data):=by
 rcases h with ⟨_,e⟩ | ⟨g,o,cp,cur,rfl,h2,h3,h4,h5,h6⟩
 ·cases e
 ·rw [List.length_cons] at h4 h6 ⊢;obtain ⟨k,rfl⟩:∃ k,cp=k+1:=⟨cp - 1,by omega⟩;exact ⟨g,o,k,cur,rfl,h2,h6 0 (by omega),h6 1 (by omega),h6 2 (by omega)⟩
theorem elemPk:prog.elem 39=35:=by kernel_rfl
theorem slice_k (g o n cp:Nat):∃ b:Addr,(0<cp→b=⟨g,o+3,none⟩)∧(b=⟨g,o+3,none⟩∨b=⟨g,o,none⟩)∧∀ z:World,(Instr.slice 39 (.slice (some ⟨g,o,none⟩) (n+1) (cp+1)) (some (.int .i64 1)) none none).run prog z=.ok (.slice (some b) n cp) z:=by
 refine ⟨if cp+1=1 then ⟨g,o,none⟩ else ⟨g,o+3,none⟩,fun h=>if_neg (by omega),?_,fun z=>?_⟩
 ·split
  ·exact Or.inr rfl
  ·exact Or.inl rfl
 ·have hs:=Tryz.sizeOf35 z;rw [run_slice_l (P:=prog) (w:=z) 39 (some ⟨g,o,none⟩) (n+1) (cp+1) (by rw [elemPk];exact underlying39) .i64 1 (by omega) (by omega),elemPk,hs];simp [Result.andThen,sliced];split<;>rfl
theorem HoldsK.tail {W:World} {base g o n cp:Nat} {Q:List Op.Pk} {b:Addr} (h:HoldsK W base (.slice (some ⟨g,o,none⟩) (n+1) (cp+1)) Q) (hb:0<cp→b=⟨g,o+3,none⟩) (hb2:b=⟨g,o+3,none⟩∨b=⟨g,o,none⟩):∃ p P,Q=p :: P∧P.length=n∧HoldsK W base (.slice (some b) n cp) P:=by
 obtain ⟨a,c,e⟩:=h.form;injection e with _ e _;match Q,h,e with
 | [],_,e=>simp at e
 | p :: P,h,e =>
  rw [List.length_cons] at e;have e':P.length=n:=by omega
  subst e';obtain ⟨g',o',cp',e1,_,_,_,h1,h2⟩:=h.first;injection e1 with e1 _ e2;injection e1 with e1;injection e1 with e1 e3 _;have e4:cp=cp':=by omega
  subst e1 e3 e4;refine ⟨p,P,rfl,rfl,?_⟩;by_cases hc:0<cp
  ·rw [hb hc];exact h1
  ·have hc0:cp=0:=by omega
   subst hc0;rcases hb2 with rfl | rfl
   ·exact h1
   ·exact h2 rfl
theorem count_set:∀ (L:List Bool) (i:Nat),L[i]?=some false→(L.set i true).count false+1=L.count false
 | [],_,h=>by simp at h
 | b :: L,0,h=>by
  simp at h;subst h;simp
 | b :: L,i+1,h=>by
  have:=count_set L i (by simpa using h)
  simp only [List.set_cons_succ,List.count_cons];omega
def aheadAll (ops:Array Oper):Bool:=(List.range ops.size).all fun i=>match ops[i]? with | some o=>o.after.all fun e=>decide (e.on<i) | none=>true
def waits (md:Region.Mode) (ops:Array Oper) (L:Array Bool) (i:Nat):Bool:=match ops[i]? with | some o=>o.after.all fun e=>!Region.binds md e || L.getD e.on false | none=>true
theorem first_false:∀ (L:List Bool),L.count false≠0→∃ i:Nat,L[i]?=some false∧∀ j:Nat,j<i→L[j]?=some true
 | [],h=>by simp at h
 | false :: L,_=>⟨0,rfl,fun j hj=>absurd hj (Nat.not_lt_zero _)⟩
 | true :: L,h=>by
  obtain ⟨i,h1,h2⟩:=first_false L (by simpa using h);refine ⟨i+1,by simpa using h1,fun j hj=>?_⟩;cases j with
  | zero=>rfl
  | succ j=>simpa using h2 j (by omega)
theorem ready_some {md:Region.Mode} {ops:Array Oper} {L:Array Bool} (ha:aheadAll ops=true) (hsz:L.size=ops.size) (h:L.toList.count false≠0):Region.ready md ops L≠[]:=by
 obtain ⟨i,h1,h2⟩:=first_false _ h;have hi:i<ops.size:=by
  rw [← hsz];have:=(List.getElem?_eq_some_iff.1 h1).1
  simpa using this
 refine List.ne_nil_of_mem (a:=i) (mem_ready.2 ⟨?_,ops[i],Array.getElem?_eq_getElem hi,fun e he _=>?_⟩)
 ·rw [Array.getElem?_toList] at h1;simp [h1]
 ·have:=List.all_eq_true.1 ha i (List.mem_range.2 hi)
  rw [Array.getElem?_eq_getElem hi] at this;have:=of_decide_eq_true (Array.all_eq_true_iff_forall_mem.1 this e he)
  have:=h2 e.on this
  rw [Array.getElem?_toList] at this;simp [this]
theorem wpAny_inv {P:Program} {md:Region.Mode} {ops:Array Oper} {Q:Exit→Act→World→Prop} (I:Array Bool→Act→World→Prop)
  (hd:∀ L a w,I L a w→L.toList.count false=0→Q .normal a w)
  (ha:aheadAll ops=true)
  (hs:∀ L a w i,I L a w→i<ops.size→L[i]?=some false→waits md ops L i=true→wpOp P ops Q i (fun a' w'=>I (L.setIfInBounds i true) a' w') a w) :
  ∀ (fuel:Nat) (L:Array Bool) (a:Act) (w:World),I L a w→L.size=ops.size→L.toList.count false≤fuel→wpAny P md ops Q fuel L a w
 | 0,L,a,w,h,hsz,hc=>by
  have h0:L.toList.count false=0:=by omega
  refine ⟨?_,hd L a w h h0⟩;refine List.eq_nil_iff_forall_not_mem.2 fun j hj=>?_
  obtain ⟨h1,_⟩:=mem_ready.1 hj;rw [List.count_eq_zero] at h0;apply h0
  by_cases hl:j<L.size
  ·have:L[j]=false:=by simpa [hl] using h1
   rw [← this];exact Array.mem_toList_iff.2 (Array.getElem_mem hl)
  ·simp [Nat.not_lt.1 hl] at h1
 | fuel+1,L,a,w,h,hsz,hc=>by
  refine ⟨fun hr=>?_,fun i hi=>?_⟩
  ·by_cases h0:L.toList.count false=0
   ·exact hd L a w h h0
   ·exact absurd hr (ready_some ha hsz h0)
  ·obtain ⟨h1,o,ho,h2⟩:=mem_ready.1 hi;have h3:L[i]?=some false:=by
    by_cases hl:i<L.size
    ·rw [Array.getElem?_eq_getElem hl];simpa [hl] using h1
    ·simp [Nat.not_lt.1 hl] at h1
   refine wpOp_mono (fun a' w' h4=>wpAny_inv I hd ha hs fuel _ a' w' h4 (by rw [Array.size_setIfInBounds];exact hsz) ?_) (hs L a w i h (ge.1 ho).1 h3 (by
    unfold waits;rw [ho];refine Array.all_eq_true_iff_forall_mem.2 fun e he=>?_
    cases hb:Region.binds md e
    ·rfl
    ·simpa using h2 e he hb))
   have:=count_set L.toList i (by simpa using h3)
   rw [Array.toList_setIfInBounds];omega
theorem wp_region_inv {P:Program} {id:Nat} {ops:Array Oper} {Q:Exit→Act→World→Prop} {a:Act} {w:World} (I:Array Bool→Act→World→Prop) (hm:P.follows .mixedOrders=true)
  (h0:I (Array.replicate ops.size false) a w.drew)
  (hd:∀ L a w,I L a w→L.toList.count false=0→Q .normal a w)
  (ha:aheadAll ops=true)
  (hs:∀ L a w i,I L a w→i<ops.size→L[i]?=some false→waits .any ops L i=true→wpOp P ops Q i (fun a' w'=>I (L.setIfInBounds i true) a' w') a w) :
  (Code.region id ops true).wp P Q a w :=
 wp_region_any hm (wpAny_inv I hd ha hs _ _ _ _ h0 (by simp) (by simp))
structure Touch (B:Nat) (w w':World):Prop where
 os:w'.os=w.os
 tape:w'.tape=w.tape
 output:w'.output=w.output
 size:w'.heap.size=w.heap.size
 block:∀ k,k≠B→w'.heap[k]?=w.heap[k]?
theorem Touch.refl (B:Nat) (w:World):Touch B w w:=⟨rfl,rfl,rfl,rfl,fun _ _=>rfl⟩
theorem Touch.trans {B:Nat} {a b c:World} (h:Touch B a b) (k:Touch B b c):Touch B a c :=
 ⟨k.os.trans h.os,k.tape.trans h.tape,k.output.trans h.output,k.size.trans h.size,fun i hi=>(k.block i hi).trans (h.block i hi)⟩
theorem Touch.drew {B:Nat} {a w:World} (h:Touch B a w):Touch B a w.drew:=⟨h.os,h.tape,h.output,h.size,h.block⟩
theorem Touch.setCell {B:Nat} {a w:World} (h:Touch B a w) (o:Nat) (v:Value):Touch B a (w.setCell ⟨B,o,none⟩ v):=by
 have hb:=(Below.refl 0 w).setCell (p:=⟨B,o,none⟩) (Nat.zero_le _) v;exact ⟨hb.os.trans h.os,hb.tape.trans h.tape,hb.output.trans h.output,by
  rw [← h.size];simp [World.setCell];done,fun k hk=>(Below.heap_setCell w ⟨B,o,none⟩ v k hk).trans (h.block k hk)⟩
theorem Touch.below {B:Nat} {w w':World} (h:Touch B w w'):Below B w w' :=
 ⟨h.os,h.tape,h.output,by rw [h.size];exact Nat.le_refl _,fun k hk=>h.block k (by omega)⟩
def Dat (w:World) (B:Nat) (sl:Value) (n:Nat):Prop :=
 (∃ a cap,sl=.slice a n cap)∧∀ i,i<n→∃ (b o cap x:Nat),sl=.slice (some ⟨b,o,none⟩) n cap∧b<B∧w.cell? ⟨b,o+i,none⟩=some (.int .u8 x)∧x<256
def Src (w:World) (B:Nat) (sl:Value) (n:Nat):Prop :=
 ∃ (p m z:Nat),p≤n∧m<18446744073709551616∧z≤12∧w.heap[B]?=some (.cells #[sl,.int .i64 p,.int .u64 m,.int .i64 z] 109)
theorem row4 {w:World} {B:Nat} {x0 x1 x2 x3:Value} {T:TypeId} (h:w.heap[B]?=some (.cells #[x0,x1,x2,x3] T)) :
  w.cell? ⟨B,0,none⟩=some x0∧w.cell? ⟨B,1,none⟩=some x1∧w.cell? ⟨B,2,none⟩=some x2∧w.cell? ⟨B,3,none⟩=some x3 ∧
  w.frozen? ⟨B,0,none⟩=false∧w.frozen? ⟨B,1,none⟩=false∧w.frozen? ⟨B,2,none⟩=false∧w.frozen? ⟨B,3,none⟩=false :=
 ⟨by rw [cell_of_row _ _ 0 _ _ (0,0) h];rfl,by rw [cell_of_row _ _ 1 _ _ (0,0) h];rfl,by rw [cell_of_row _ _ 2 _ _ (0,0) h];rfl,by rw [cell_of_row _ _ 3 _ _ (0,0) h];rfl,
  by simp [World.frozen?,h],by simp [World.frozen?,h],by simp [World.frozen?,h],by simp [World.frozen?,h]⟩
theorem set1 {w:World} {B:Nat} {x0 x1 x2 x3:Value} {T:TypeId} (h:w.heap[B]?=some (.cells #[x0,x1,x2,x3] T)) (v:Value):(w.setCell ⟨B,1,none⟩ v).heap[B]?=some (.cells #[x0,v,x2,x3] T):=by
 rw [heap_setCell_same w B 1 _ T v h];rfl
theorem set2 {w:World} {B:Nat} {x0 x1 x2 x3:Value} {T:TypeId} (h:w.heap[B]?=some (.cells #[x0,x1,x2,x3] T)) (v:Value):(w.setCell ⟨B,2,none⟩ v).heap[B]?=some (.cells #[x0,x1,v,x3] T):=by
 rw [heap_setCell_same w B 2 _ T v h];rfl
theorem set3 {w:World} {B:Nat} {x0 x1 x2 x3:Value} {T:TypeId} (h:w.heap[B]?=some (.cells #[x0,x1,x2,x3] T)) (v:Value):(w.setCell ⟨B,3,none⟩ v).heap[B]?=some (.cells #[x0,x1,x2,v] T):=by
 rw [heap_setCell_same w B 3 _ T v h];rfl
theorem xor64 (x y:Int):∃ m:Nat,m<18446744073709551616∧bits .xor .u64 x y=(m:Int):=by
 have h:=wf_bits .xor .u64 x y;have hw:0≤bits .xor .u64 x y∧bits .xor .u64 x y≤18446744073709551615:=by
  simpa [Lit.wf,IntKind.min,IntKind.max,IntKind.signed,IntKind.bits] using h
 obtain ⟨m,hm⟩:=Int.eq_ofNat_of_zero_le hw.1;exact ⟨m,by omega,hm⟩
theorem drawn (Y:Int) (most:Nat) (hY:0≤Y) (h1:1<most) (h2:most<4294967296):∃ r:Nat,wrap64 (Y.tmod (most:Int))=(r:Int)∧r<most:=by
 rw [Int.tmod_eq_emod_of_nonneg hY];have h3:0≤Y % (most:Int):=Int.emod_nonneg _ (by omega);have h4:Y % (most:Int)<most:=Int.emod_lt_of_pos _ (by omega);obtain ⟨r,hr⟩:=Int.eq_ofNat_of_zero_le h3;refine ⟨r,?_,by omega⟩;rw [hr];unfold wrap64;omega
theorem src_n0 (w:World) (B:Nat) (most:Int) (h:most≤1) :
  Calls prog 29 #[.pointer (some ⟨B,0,none⟩),.int .i64 most] w fun e w'=>e=.returned (.int .i64 0)∧w'=w:=by
 go_enter func29,ntmps29
 go_wp2
 go_ret
 exact ⟨rfl,rfl⟩
theorem src_n1 (w:World) (B:Nat) (sl:Value) (n p m z:Nat) (most:Nat) (h1:1<most) (h2:most<4294967296) (hn:n≤maxLen) (hp:p<n)
  (hB:w.heap[B]?=some (.cells #[sl,.int .i64 p,.int .u64 m,.int .i64 z] 109)) (hD:Dat w B sl n) :
  Calls prog 29 #[.pointer (some ⟨B,0,none⟩),.int .i64 most] w fun e w'=>∃ r m':Nat,e=.returned (.int .i64 r)∧r<most∧m' < 18446744073709551616 ∧
   w'.heap[B]?=some (.cells #[sl,.int .i64 (p+1:Nat),.int .u64 m',.int .i64 z] 109)∧Touch B w w':=by
 obtain ⟨b,o,cap,x,rfl,hb,hx,hx2⟩:=hD.2 p hp;unfold maxLen at hn;obtain ⟨c0,c1,c2,c3,f0,f1,f2,f3⟩:=row4 hB;have hbB:b≠B:=by omega
 have HB:=hide hB;clear hB hD;go_enter func29,ntmps29
 go_wp2_with fail
 go_region
 go_wp2_with fail
 go_region
 go_wp2_with fail
 refine gen_world (fun v=>v.heap[B]?=some (.cells #[.slice (some ⟨b,o,none⟩) n cap,.int .i64 (p+1:Nat),.int .u64 m,.int .i64 z] 109)∧Touch B w v)
  ⟨set1 (w:=w) (uh HB) _,((Touch.refl B w).setCell 1 _).drew.drew⟩ ?_
 clear c0 c1 c2 c3 f0 f1 f2 f3 HB hx;rintro v1 ⟨hB,t1⟩;obtain ⟨c0,c1,c2,c3,f0,f1,f2,f3⟩:=row4 hB;have HB:=hide hB;clear hB;go_region
 go_wp2_with fail
 obtain ⟨m1,hm1,e1⟩:=xor64 (m:Int) (IntKind.u64.wrap ((m:Int)*8192));rw [e1]
 refine gen_world (fun v=>v.heap[B]?=some (.cells #[.slice (some ⟨b,o,none⟩) n cap,.int .i64 (p+1:Nat),.int .u64 m1,.int .i64 z] 109)∧Touch B w v)
  ⟨set2 (w:=v1) (uh HB) _,(t1.setCell 2 _).drew⟩ ?_
 clear c0 c1 c2 c3 f0 f1 f2 f3 HB e1 t1;rintro v2 ⟨hB,t1⟩;obtain ⟨c0,c1,c2,c3,f0,f1,f2,f3⟩:=row4 hB;have HB:=hide hB;clear hB;go_region
 go_wp2_with fail
 obtain ⟨m2,hm2,e1⟩:=xor64 (m1:Int) ((m1:Int) / 128);rw [e1]
 refine gen_world (fun v=>v.heap[B]?=some (.cells #[.slice (some ⟨b,o,none⟩) n cap,.int .i64 (p+1:Nat),.int .u64 m2,.int .i64 z] 109)∧Touch B w v)
  ⟨set2 (w:=v2) (uh HB) _,(t1.setCell 2 _).drew⟩ ?_
 clear c0 c1 c2 c3 f0 f1 f2 f3 HB e1 t1;rintro v3 ⟨hB,t1⟩;obtain ⟨c0,c1,c2,c3,f0,f1,f2,f3⟩:=row4 hB;have HB:=hide hB;clear hB;go_region
 go_wp2_with fail
 obtain ⟨m3,hm3,e1⟩:=xor64 (m2:Int) (IntKind.u64.wrap ((m2:Int)*131072));rw [e1];go_ret
 have hB2:=set2 (w:=v3) (uh HB) (.int .u64 m3);have t2:=(t1.setCell 2 (.int .u64 m3)).drew;clear e1 c0 c1 c2 c3 f0 f1 f2 f3 HB t1;obtain ⟨r,hr1,hr2⟩:=drawn (IntKind.u64.wrap ((x:Int)+(m3:Int) / 1048576)) most (by rw [IntKind.wrap_u64];omega) h1 h2;exact ⟨r,m3,ret_int hr1,hr2,hm3,hB2,t2⟩
theorem src_n2 (w:World) (B:Nat) (sl:Value) (n p m z:Nat) (most:Nat) (h1:1<most) (h2:most<4294967296) (hp:p=n)
  (hB:w.heap[B]?=some (.cells #[sl,.int .i64 p,.int .u64 m,.int .i64 z] 109)) (hD:Dat w B sl n) :
  Calls prog 29 #[.pointer (some ⟨B,0,none⟩),.int .i64 most] w fun e w'=>∃ r m':Nat,e=.returned (.int .i64 r)∧r<most∧m' < 18446744073709551616 ∧
   w'.heap[B]?=some (.cells #[sl,.int .i64 p,.int .u64 m',.int .i64 z] 109)∧Touch B w w':=by
 obtain ⟨a,cap,rfl⟩:=hD.1;obtain ⟨c0,c1,c2,c3,f0,f1,f2,f3⟩:=row4 hB;have HB:=hide hB;have hpn:¬ ((p:Int)<(n:Int)):=by omega
 clear hB hD hp;go_enter func29,ntmps29
 go_wp2_with fail
 go_region
 go_wp2_with fail
 refine gen_world (fun v=>v.heap[B]?=some (.cells #[.slice a n cap,.int .i64 p,.int .u64 m,.int .i64 z] 109)∧Touch B w v)
  ⟨uh HB,(Touch.refl B w).drew⟩ ?_
 clear c0 c1 c2 c3 f0 f1 f2 f3 HB;rintro v1 ⟨hB,t1⟩;obtain ⟨c0,c1,c2,c3,f0,f1,f2,f3⟩:=row4 hB;have HB:=hide hB;clear hB;go_region
 go_wp2_with fail
 obtain ⟨m1,hm1,e1⟩:=xor64 (m:Int) (IntKind.u64.wrap ((m:Int)*8192));rw [e1]
 refine gen_world (fun v=>v.heap[B]?=some (.cells #[.slice a n cap,.int .i64 p,.int .u64 m1,.int .i64 z] 109)∧Touch B w v)
  ⟨set2 (w:=v1) (uh HB) _,(t1.setCell 2 _).drew⟩ ?_
 clear c0 c1 c2 c3 f0 f1 f2 f3 HB e1 t1;rintro v2 ⟨hB,t1⟩;obtain ⟨c0,c1,c2,c3,f0,f1,f2,f3⟩:=row4 hB;have HB:=hide hB;clear hB;go_region
 go_wp2_with fail
 obtain ⟨m2,hm2,e1⟩:=xor64 (m1:Int) ((m1:Int) / 128);rw [e1]
 refine gen_world (fun v=>v.heap[B]?=some (.cells #[.slice a n cap,.int .i64 p,.int .u64 m2,.int .i64 z] 109)∧Touch B w v)
  ⟨set2 (w:=v2) (uh HB) _,(t1.setCell 2 _).drew⟩ ?_
 clear c0 c1 c2 c3 f0 f1 f2 f3 HB e1 t1;rintro v3 ⟨hB,t1⟩;obtain ⟨c0,c1,c2,c3,f0,f1,f2,f3⟩:=row4 hB;have HB:=hide hB;clear hB;go_region
 go_wp2_with fail
 obtain ⟨m3,hm3,e1⟩:=xor64 (m2:Int) (IntKind.u64.wrap ((m2:Int)*131072));rw [e1];go_ret
 have hB2:=set2 (w:=v3) (uh HB) (.int .u64 m3);have t2:=(t1.setCell 2 (.int .u64 m3)).drew;clear e1 c0 c1 c2 c3 f0 f1 f2 f3 HB t1;obtain ⟨r,hr1,hr2⟩:=drawn (IntKind.u64.wrap ((m3:Int) / 1048576)) most (by rw [IntKind.wrap_u64];omega) h1 h2;exact ⟨r,m3,ret_int hr1,hr2,hm3,hB2,t2⟩
theorem src_n (w:World) (B:Nat) (sl:Value) (n:Nat) (most:Nat) (h2:most<4294967296) (hn:n≤maxLen) (hS:Src w B sl n) (hD:Dat w B sl n) :
  Calls prog 29 #[.pointer (some ⟨B,0,none⟩),.int .i64 most] w fun e w'=>∃ r:Nat,e=.returned (.int .i64 r)∧(r<most∨r=0)∧Src w' B sl n∧Touch B w w':=by
 obtain ⟨p,m,z,hp,hm,hz,hB⟩:=hS;by_cases h1:1<most
 ·by_cases hpn:p<n
  ·refine (src_n1 w B sl n p m z most h1 h2 hn hpn hB hD).mono ?_;rintro e w' ⟨r,m',he,hr,hm',hB',ht⟩;exact ⟨r,he,Or.inl hr,⟨p+1,m',z,by omega,hm',hz,hB'⟩,ht⟩
  ·refine (src_n2 w B sl n p m z most h1 h2 (by omega) hB hD).mono ?_;rintro e w' ⟨r,m',he,hr,hm',hB',ht⟩;exact ⟨r,he,Or.inl hr,⟨p,m',z,hp,hm',hz,hB'⟩,ht⟩
 ·refine (src_n0 w B most (by omega)).mono ?_;rintro e w' ⟨he,rfl⟩;exact ⟨0,he,Or.inr rfl,⟨p,m,z,hp,hm,hz,hB⟩,Touch.refl _ _⟩
theorem src_one (w:World) (B:Nat) (sl:Value) (n:Nat) (most:Nat) (h2:most<4294967296) (hn:n≤maxLen) (hS:Src w B sl n) (hD:Dat w B sl n) :
  Calls prog 26 #[.pointer (some ⟨B,0,none⟩),.int .i64 most] w fun e w'=>∃ b:Bool,e=.returned (.bool b)∧Src w' B sl n∧Touch B w w':=by
 have c:=src_n w B sl n most h2 hn hS hD;go_enter func26,ntmps26
 go_wp2_with fail
 refine c.mono ?_;rintro e w1 ⟨r,rfl,hr,hS1,ht1⟩;go_wp2
 go_ret
 exact ⟨_,rfl,hS1,ht1⟩
theorem Dat.below {w w':World} {B:Nat} {sl:Value} {n:Nat} (h:Dat w B sl n) (hb:Below B w w'):Dat w' B sl n :=
 ⟨h.1,fun i hi=>by
  obtain ⟨b,o,cap,x,h1,h2,h3,h4⟩:=h.2 i hi;exact ⟨b,o,cap,x,h1,h2,by rw [← h3];exact hb.cell (p:=⟨b,o+i,none⟩) h2,h4⟩⟩
theorem Src.same {w w':World} {B:Nat} {sl:Value} {n:Nat} (h:Src w B sl n) (hb:w'.heap[B]?=w.heap[B]?):Src w' B sl n:=by
 obtain ⟨p,m,z,h1,h2,h3,h4⟩:=h;exact ⟨p,m,z,h1,h2,h3,hb.trans h4⟩
theorem Src.lt {w:World} {B:Nat} {sl:Value} {n:Nat} (h:Src w B sl n):B<w.heap.size:=by
 obtain ⟨p,m,z,h1,h2,h3,h4⟩:=h;exact (ge.1 h4).1
theorem own_touch {w w':World} {B base:Nat} {e:TypeId} {size:Nat} {v:Value} {n:Nat} {xs:List Value} (h:w.ownsRow base e size v n xs) (ht:Touch B w w') (hb:B<base):w'.ownsRow base e size v n xs:=by
 refine ⟨h.1,?_⟩;rcases h.2 with h2 | ⟨g,cap,cur,h1,h2,h3,h4⟩
 ·exact Or.inl h2
 ·exact Or.inr ⟨g,cap,cur,h1,h2,(ht.block g (by omega)).trans h3,h4⟩
theorem mul64 (Y:Int):∃ m:Nat,m<18446744073709551616∧IntKind.u64.wrap Y=(m:Int):=by
 rw [IntKind.wrap_u64];obtain ⟨m,hm⟩:=Int.eq_ofNat_of_zero_le (Int.emod_nonneg Y (show (18446744073709551616:Int)≠0 by decide));exact ⟨m,by have:=Int.emod_lt_of_pos Y (show (0:Int)<18446744073709551616 by decide);omega,hm⟩
theorem Dat.mono {w:World} {B B':Nat} {sl:Value} {n:Nat} (h:Dat w B sl n) (hb:B≤B'):Dat w B' sl n :=
 ⟨h.1,fun i hi=>by
  obtain ⟨b,o,cap,x,h1,h2,h3,h4⟩:=h.2 i hi;exact ⟨b,o,cap,x,h1,by omega,h3,h4⟩⟩
theorem src_new (w:World) (sl:Value) (n:Nat) (hn:n≤maxLen) (hD:Dat w w.heap.size sl n) :
  Calls prog 24 #[sl] w fun e w'=>e=.returned (.pointer (some ⟨w.heap.size,0,none⟩))∧Src w' w.heap.size sl n∧Below w.heap.size w w':=by
 obtain ⟨sa,scap,rfl⟩:=hD.1;unfold maxLen at hn;go_enter func24,ntmps24
 go_wp2_with fail
 go_loopw [4] (fun i wr=>∃ (j m:Nat),j≤n∧j≤64∧i=.int .i64 j∧m<18446744073709551616∧wr.heap[w.heap.size]?=some (.cells #[.slice sa n scap,.int .i64 0,.int .u64 m,.int .i64 0] 109)∧Below w.heap.size w wr) (fun i _=>64 - (intOf i).toNat)
 case atStart=>exact ⟨0,88172645463325252,by omega,by omega,rfl,by decide,heap_alloc_last w _,(Below.refl _ _).alloc (Nat.le_refl _) _⟩
 case round =>
  obtain ⟨j,m,hj1,hj2,rfl,hm,hB,hb1⟩:=hrel;obtain ⟨c0,c1,c2,c3,f0,f1,f2,f3⟩:=row4 hB;have HB:=hide hB;clear hB;by_cases hlt:j<n∧j<64
  ·obtain ⟨hlt1,hlt2⟩:=hlt;obtain ⟨b,o,cap,x,hsl,hbb,hx,hx2⟩:=(hD.below hb1).2 j hlt1;obtain ⟨rfl,rfl⟩:sa=some ⟨b,o,none⟩∧cap=scap:=by
    simp only [Value.slice.injEq,true_and] at hsl;exact ⟨hsl.1,hsl.2.symm⟩
   have d1:decide ((j:Int)<(n:Int))=true:=decide_eq_true (by omega);have d2:decide ((j:Int)<64)=true:=decide_eq_true (by omega);have hne:b≠w.heap.size:=by omega
   clear hsl;have HD:=hide hD;clear hD;go_wp2_with fail
   go_region
   go_wp2
   obtain ⟨m2,hm2,e2⟩:=mul64 (bits .xor .u64 (m:Int) (x:Int)*1099511628211);go_roundw
   case rel =>
    refine ⟨j+1,m2,by omega,by omega,by go_num,hm2,?_,?_⟩
    ·rw [← e2];exact set2 (w:=wr) (uh HB) _
    ·exact (hb1.setCell (p:=⟨w.heap.size,2,none⟩) (Nat.le_refl _) _).drew
   case measure=>simp [intOf];omega
  ·by_cases hlt1:j<n
   ·have d1:decide ((j:Int)<(n:Int))=true:=decide_eq_true (by omega);have d2:decide ((j:Int)<64)=false:=decide_eq_false (by omega);by_cases h12:12<n / 20
    ·have h12':(12:Int)<(n:Int) / 20:=by omega
     go_wp2
     go_ret
     exact ⟨rfl,⟨0,m,12,Nat.zero_le _,hm,by omega,set3 (w:=wr.setCell ⟨w.heap.size,3,none⟩ _) (set3 (w:=wr) (uh HB) _) _⟩,(hb1.setCell (p:=⟨w.heap.size,3,none⟩) (Nat.le_refl _) _).setCell (p:=⟨w.heap.size,3,none⟩) (Nat.le_refl _) _⟩
    ·have h12':¬ ((12:Int)<(n:Int) / 20):=by omega
     go_wp2
     go_ret
     exact ⟨rfl,⟨0,m,n / 20,Nat.zero_le _,hm,by omega,set3 (w:=wr) (uh HB) _⟩,hb1.setCell (p:=⟨w.heap.size,3,none⟩) (Nat.le_refl _) _⟩
   ·have d1:decide ((j:Int)<(n:Int))=false:=decide_eq_false (by omega);have h12':¬ ((12:Int)<(n:Int) / 20):=by omega
    go_wp2
    go_ret
    exact ⟨rfl,⟨0,m,n / 20,Nat.zero_le _,hm,by omega,set3 (w:=wr) (uh HB) _⟩,hb1.setCell (p:=⟨w.heap.size,3,none⟩) (Nat.le_refl _) _⟩
def okI64:Value→Bool
 | .int .i64 n=>decide (-9223372036854775808≤n∧n≤9223372036854775807)
 | _=>false
theorem okI64_get {v:Value} (h:okI64 v=true):∃ x:Int,v=.int .i64 x∧-9223372036854775808≤x∧x≤9223372036854775807:=by
 unfold okI64 at h;split at h
 ·exact ⟨_,rfl,by simpa using h⟩
 ·cases h
theorem lit_cell {w:World} {g:Nat} {cs:Array Value} {T:TypeId} (h:w.heap[g]?=some (.cells cs T)) (ha:∀ v ∈ cs.toList,okI64 v=true) (r:Nat) (hr:r<cs.size) :
  ∃ x:Int,w.cell? ⟨g,r,none⟩=some (.int .i64 x)∧-9223372036854775808≤x∧x≤9223372036854775807:=by
 obtain ⟨x,hx,h1,h2⟩:=okI64_get (ha cs[r] (by simp));exact ⟨x,by rw [cell_of_row w g r cs T (0,0) h,Array.getElem?_eq_getElem hr,hx],h1,h2⟩
structure Nigh (B:Nat) (w w':World):Prop where
 os:w'.os=w.os
 tape:w'.tape=w.tape
 output:w'.output=w.output
 size:w.heap.size≤w'.heap.size
 block:∀ g,g<w.heap.size→g≠B→w'.heap[g]?=w.heap[g]?
theorem Nigh.refl (B:Nat) (w:World):Nigh B w w:=⟨rfl,rfl,rfl,Nat.le_refl _,fun _ _ _=>rfl⟩
theorem Nigh.trans {B:Nat} {a b c:World} (h:Nigh B a b) (k:Nigh B b c):Nigh B a c :=
 ⟨k.os.trans h.os,k.tape.trans h.tape,k.output.trans h.output,Nat.le_trans h.size k.size,fun g hg hne=>(k.block g (Nat.lt_of_lt_of_le hg h.size) hne).trans (h.block g hg hne)⟩
theorem Nigh.of_touch {B:Nat} {w w':World} (h:Touch B w w'):Nigh B w w':=⟨h.os,h.tape,h.output,Nat.le_of_eq h.size.symm,fun g _ hne=>h.block g hne⟩
theorem Nigh.of_below {B:Nat} {w w':World} (h:Below w.heap.size w w'):Nigh B w w':=⟨h.os,h.tape,h.output,h.size,fun g hg _=>h.block g hg⟩
theorem Nigh.alloc {B:Nat} {a w:World} (h:Nigh B a w) (o:Obj):Nigh B a (w.alloc o):=h.trans (Nigh.of_below ((Below.refl _ _).alloc (Nat.le_refl _) o))
theorem Nigh.grown {B:Nat} {a w w':World} {row:Option Nat} (h:Nigh B a w) (hg:w.grownBy w' row) (hr:∀ q,row=some q→a.heap.size≤q):Nigh B a w' :=
 ⟨hg.os.trans h.os,hg.tape.trans h.tape,hg.output.trans h.output,Nat.le_trans h.size hg.size,fun g hgl hne=>(hg.block g (Nat.lt_of_lt_of_le hgl h.size) fun e=>by have:=hr g e.symm;omega).trans (h.block g hgl hne)⟩
theorem Nigh.setCell {B:Nat} {a w:World} (h:Nigh B a w) (p:Addr) (v:Value) (hp:a.heap.size≤p.block):Nigh B a (w.setCell p v) :=
 ⟨h.os,h.tape,h.output,by simpa [World.setCell] using h.size,fun g hgl hne=>(Below.heap_setCell _ _ _ _ (by omega)).trans (h.block g hgl hne)⟩
theorem Nigh.below {B:Nat} {w w':World} (h:Nigh B w w') (hB:B≤w.heap.size):Below B w w':=⟨h.os,h.tape,h.output,h.size,fun g hg=>h.block g (by omega) (by omega)⟩
theorem src_bytes_n (w:World) (B:Nat) (sl:Value) (n:Nat) (k:Nat) (hk:k<100000) (hn:n≤maxLen) (hS:Src w B sl n) (hD:Dat w B sl n) :
  Calls prog 67 #[.pointer (some ⟨B,0,none⟩),.int .i64 k] w fun e w'=>∃ xs:List Int,e=.returned (.string (strOfNums xs))∧xs.length=k∧Src w' B sl n∧Nigh B w w':=by
 have hBw:=hS.lt;obtain ⟨ui,hi1,hi2,hi3,hi4⟩:=u8info;go_enter func67,ntmps67
 go_wp2_with fail
 go_loopw [5,6] (fun v i wr=>∃ (j:Nat) (xs:List Int),j≤k∧i=.int .i64 j∧xs.length=j∧wr.ownsRow w.heap.size 5 1 v j (xs.map (Value.int .u8))∧Src wr B sl n∧Nigh B w wr) (fun _ i _=>k - (intOf i).toNat)
 case atStart =>
  refine ⟨0,[],Nat.zero_le _,rfl,rfl,?_,hS.same (Below.heap_alloc _ _ _ hBw),(Nigh.refl _ _).alloc _⟩;exact World.ownsRow_lit w #[] 0 (by omega) (Nat.zero_le _) rfl
 case round =>
  obtain ⟨j,xs,hj,rfl,hxl,hown,hS1,hb1⟩:=hrel;by_cases hlt:j<k
  ·have hlt':(j:Int)<(k:Int):=by omega
   have c:=src_n wr B sl n 256 (by decide) hn hS1 (hD.below (hb1.below (by omega)));have HO:=hide hown;clear hown;go_wp2_with fail
   refine c.mono ?_;rintro e w1 ⟨r,rfl,hr,hS2,ht2⟩;have hr2:r<256:=by omega
   have ho2:=(own_touch (uh HO) ht2 (by omega)).alloc (.cells #[.int .u8 r] 5);have hb2:Nigh B w w1:=hb1.trans (Nigh.of_touch ht2);have hsz2:=hb2.size;have HO2:=hide ho2;have HS2:=hide hS2;have HT2:=hide ht2;clear ho2 hS2 ht2 c hS1
   go_wp2_with (first
    | (at_builtin;refine wpList_append_own _ rfl _ _ 22 rfl w.heap.size 5 ui (.int .u8 0) 1 1 underlying22 hi1 hi2 hi3 hi4 rfl (by decide) u5 j (xs.map (Value.int .u8)) rfl (uh HO2) ⟨w1.heap.size,0,none⟩ 1 1 [.int .u8 r] rfl rfl ?news ?ones ?len ?bytes ?base ?_))
   case news =>
    intro i u hu;match i,hu with
    | 0,hu =>
     have e:(⟨w1.heap.size,0,none⟩:Addr).add 0=⟨w1.heap.size,0,none⟩:=by simp [Addr.add]
     rw [e,World.cell?_alloc_at _ _ _ _ rfl,← hu];rfl
   case ones =>
    intro u hu;simp only [List.mem_singleton] at hu;subst hu;rfl
   case len=>unfold maxLen;omega
   case bytes=>omega
   case base=>have:=(uh HS2).lt;simp;omega
   rintro v' w2 hown2 hg2 _;have hown3:w2.ownsRow w.heap.size 5 1 v' (j+1) ((xs ++ [(r:Int)]).map (Value.int .u8)):=by rw [List.map_append];exact hown2
   have hlt2:=(uh HS2).lt;have hne:some B≠u5.ownBlock:=fun h=>by
    have:=World.ownsRow.lt (uh HO2) B h.symm
    omega
   have hS3:Src w2 B sl n:=(uh HS2).same (by
    rw [hg2.block B (by simp;omega) hne];exact Below.heap_alloc _ _ _ hlt2)
   have hb3:Nigh B w w2:=(hb2.alloc _).grown hg2 (fun q hq=>(World.ownsRow.lt (uh HO2) q hq).1);have HO3:=hide hown3;have HS3:=hide hS3;clear hown2 hown3 hg2 hne hS3;go_wp2
   go_roundw
   case rel=>exact ⟨j+1,xs ++ [(r:Int)],by omega,by go_num,by simp [hxl],uh HO3,uh HS3,hb3⟩
   case measure=>simp [intOf];omega
  ·have hlt':¬ ((j:Int)<(k:Int)):=by omega
   have hcv:=conv_own hown;go_wp2
   go_ret
   exact ⟨xs,rfl,by omega,hS1,hb1⟩
theorem src_edge_n (w:World) (B:Nat) (sl:Value) (n:Nat) (hn:n≤maxLen) (hS:Src w B sl n) (hD:Dat w B sl n) :
  Calls prog 27 #[.pointer (some ⟨B,0,none⟩)] w fun e w'=>∃ x:Int,e=.returned (.int .i64 x)∧-9223372036854775808≤x∧x≤9223372036854775807∧Src w' B sl n∧Nigh B w w':=by
 have hBw:=hS.lt;have HS:=hide hS;have HD:=hide hD;clear hS hD;go_enter func27,ntmps27
 go_wp2_with fail
 refine (src_n _ B sl n 14 (by decide) hn ((uh HS).same (Below.heap_alloc _ _ _ hBw)) ((uh HD).below ((Below.refl _ _).alloc (by omega) _))).mono ?_;rintro e w1 ⟨r,rfl,hr,hS1,ht1⟩;have hr2:r<14:=by omega
 obtain ⟨x,hx,hx1,hx2⟩:=lit_cell ((ht1.block w.heap.size (by omega)).trans (heap_alloc_last w _)) (by decide) r (by simpa using hr2);have hb2:Nigh B w w1:=((Nigh.refl _ _).alloc _).trans (Nigh.of_touch ht1);clear ht1 hr;have HS1:=hide hS1;clear hS1;go_wp2
 go_ret
 exact ⟨x,rfl,hx1,hx2,uh HS1,hb2⟩
theorem src_accm_n (w:World) (B:Nat) (sl:Value) (n:Nat) (hn:n≤maxLen) (hS:Src w B sl n) (hD:Dat w B sl n) :
  Calls prog 105 #[.pointer (some ⟨B,0,none⟩)] w fun e w'=>∃ x:Int,e=.returned (.int .i64 x)∧-9223372036854775808≤x∧x≤9223372036854775807∧Src w' B sl n∧Nigh B w w':=by
 have HD:=hide hD;have hB0:=hS.lt;have c:=src_one w B sl n 10 (by decide) hn hS hD;clear hS hD;go_enter func105,ntmps105
 go_wp2_with fail
 refine c.mono ?_;rintro e w1 ⟨b,rfl,hS1,ht1⟩;have hn1:Nigh B w w1:=Nigh.of_touch ht1;have hb1:Below B w w1:=ht1.below;have HS1:=hide hS1;have hBw1:=hS1.lt;clear hS1 ht1 c;cases b
 ·go_wp2_with fail
  refine (src_n _ B sl n 4 (by decide) hn ((uh HS1).same (Below.heap_alloc _ _ _ hBw1)) ((uh HD).below (hb1.alloc (by omega) _))).mono ?_;rintro e w3 ⟨r,rfl,hr,hS3,ht3⟩;have hr2:r<4:=by omega
  obtain ⟨y,hy,hy1,hy2⟩:=lit_cell ((ht3.block w1.heap.size (by omega)).trans (heap_alloc_last w1 _)) (by decide) r (by simpa using hr2);have hb4:Nigh B w w3:=(hn1.alloc _).trans (Nigh.of_touch ht3);have HS3:=hide hS3;clear hS3 ht3 hr;go_wp2
  go_ret
  exact ⟨y,rfl,hy1,hy2,uh HS3,hb4⟩
 ·go_wp2_with fail
  refine (src_edge_n w1 B sl n hn (uh HS1) ((uh HD).below hb1)).mono ?_;rintro e w2 ⟨x,rfl,hx1,hx2,hS2,hb2⟩;have hBw:=hS2.lt;have HS2:=hide hS2;clear hS2;go_wp2_with fail
  have hn3:=hn1.trans hb2;have hb3:=hn3.below (by omega);refine (src_n _ B sl n 4 (by decide) hn ((uh HS2).same (Below.heap_alloc _ _ _ hBw)) ((uh HD).below (hb3.alloc (by omega) _))).mono ?_;rintro e w3 ⟨r,rfl,hr,hS3,ht3⟩;have hr2:r<4:=by omega
  obtain ⟨y,hy,hy1,hy2⟩:=lit_cell ((ht3.block w2.heap.size (by omega)).trans (heap_alloc_last w2 _)) (by
   intro v hv;simp only [List.mem_cons,List.not_mem_nil,or_false] at hv;rcases hv with rfl | rfl | rfl | rfl;all_goals simp [okI64,hx1,hx2]) r (by simpa using hr2)
  have hb4:Nigh B w w3:=(hn3.alloc _).trans (Nigh.of_touch ht3);have HS3:=hide hS3;clear hS3 ht3 hr;go_wp2
  go_ret
  exact ⟨y,rfl,hy1,hy2,uh HS3,hb4⟩
end Go.Proofs.YtahpjlbaagkdoaaGreatDoor
