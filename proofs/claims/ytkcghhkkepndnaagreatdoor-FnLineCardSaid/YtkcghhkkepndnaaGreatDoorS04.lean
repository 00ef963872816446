/- Rows of sent frames at any offset, with the room behind them: held, and appended to; what lay in memory stands but for that row; no condition but those named. Numbered frames: which are right, and their bytes, the program's walks and the model's; no condition. The map of texts that were sent, by their numbers: what it holds; put, looked up, deleted, cleared, counted; no condition but those named. Texts that were handed in: the law's own copies, their letters counted; what lay in memory stands. The law's words on rows of texts: two held against each other, marked by numbers, and whether the marks are there; what lay in memory stands but for the marked row. Two rows of texts compared by the law (lwTexts): those of the same texts are the same; what lay in memory stands. -/
import Derived.Test.YtkcghhkkepndnaaGreatDoorS00
import Derived.Test.YtkcghhkkepndnaaGreatDoorS01
import Derived.ArgAppend
import Derived.MapKept
import Derived.Deep.WholeRow
import Derived.Deep.RegionHeld
import Derived.Test.YtkcghhkkepndnaaGreatDoorShW
namespace Go.Proofs.YtkcghhkkepndnaaGreatDoor
open Go.RowKit
structure Sf where
 text:ByteArray
 bytes:ByteArray
def sfcells (fs:List Sf):List Value:=fs.flatMap fun f=>[.string f.text,.string f.bytes]
theorem sfcells_len (fs:List Sf):(sfcells fs).length=fs.length*2:=by
 induction fs with
 | nil=>rfl
 | cons f fs ih=>simp [sfcells] at ih ⊢;omega
theorem sfcells_append (fs gs:List Sf):sfcells (fs ++ gs)=sfcells fs ++ sfcells gs:=by simp [sfcells]
theorem sfinfo:∃ i,Tryz.prog.info? 82=some i∧i.zero=some (.agg #[.string ⟨#[]⟩,.string ⟨#[]⟩])∧i.size=2∧i.bytes=32:=by
 have h:(Tryz.prog.info? 82).map (fun i=>(i.zero,i.size,i.bytes))=some (some (.agg #[.string ⟨#[]⟩,.string ⟨#[]⟩]),2,32):=by kernel_rfl
 obtain ⟨i,hi,hzz⟩:=Option.map_eq_some_iff.1 h
 simp only [Prod.mk.injEq] at hzz
 exact ⟨i,hi,hzz.1,hzz.2.1,hzz.2.2⟩
def HoldsP (w:World) (v:Value) (F:List Sf):Prop :=
 (∃ ad cp,v=.slice ad 0 cp∧F=[])∨∃ g cp cur,v=.slice (some ⟨g,0,none⟩) F.length cp∧w.heap[g]?=some (.cells cur 82)∧F.length*2≤cur.size∧∀ j,j<F.length*2→cur[j]?=(sfcells F)[j]?
theorem HoldsP.own {w:World} {base:Nat} {v:Value} {F:List Sf} (h:w.ownsRow base 82 2 v F.length (sfcells F)):HoldsP w v F:=by
 rcases h.2 with ⟨h1,h2⟩ | ⟨g,cap,cur,h1,_,h3,h4,_,h6,h7⟩
 ·exact Or.inl ⟨_,_,h1,List.eq_nil_of_length_eq_zero h2⟩
 ·refine Or.inr ⟨g,cap,cur,h1,h3,by rw [h6];omega,fun j hj=>?_⟩
  rw [← h7,List.getElem?_take,if_pos hj,Array.getElem?_toList]
theorem HoldsP.below {n:Nat} {w w':World} {v:Value} {F:List Sf} (h:HoldsP w v F) (hb:Below n w w') (hn:n=w.heap.size):HoldsP w' v F:=by
 subst hn
 exact h.imp id fun ⟨g,cp,cur,h1,h2,h3⟩=>⟨g,cp,cur,h1,(hb.block g (Array.getElem?_eq_some_iff.1 h2).1).trans h2,h3⟩
theorem HoldsP.form {w:World} {v:Value} {F:List Sf} (h:HoldsP w v F):∃ ad cp,v=.slice ad F.length cp:=by
 rcases h with ⟨ad,cp,h1,h2⟩ | ⟨g,cp,cur,h1,_⟩
 ·exact ⟨ad,cp,by rw [h1,h2];rfl⟩
 ·exact ⟨_,_,h1⟩
theorem HoldsP.other {w w':World} {v:Value} {F:List Sf} (h:HoldsP w v F) (hw:∀ g,v.ownBlock=some g→w'.heap[g]?=w.heap[g]?):HoldsP w' v F:=by
 rcases h with ⟨ad,cp,e,e0⟩ | ⟨g,cp,cur,e,q1,q2⟩
 ·exact Or.inl ⟨ad,cp,e,e0⟩
 ·exact Or.inr ⟨g,cp,cur,e,(hw g (by rw [e];rfl)).trans q1,q2⟩
theorem HoldsP.lt {w:World} {v:Value} {F:List Sf} (h:HoldsP w v F) (hF:F≠[]) (g:Nat) (hg:v.ownBlock=some g):g<w.heap.size:=by
 rcases h with ⟨_,_,_,e⟩ | ⟨g',cp,cur,e,q1,_⟩
 ·exact absurd e hF
 ·rw [e] at hg
  cases hg
  exact (Array.getElem?_eq_some_iff.1 q1).1
def HoldsK (W:World) (base:Nat) (v:Value) (P:List Sf):Prop :=
 (v=.slice none 0 0∧P=[])∨∃ g o cp cur,v=.slice (some ⟨g,o,none⟩) P.length cp∧W.heap[g]?=some (.cells cur 82)∧base≤g∧P.length≤cp∧o+cp*2≤cur.size∧∀ j,j<P.length*2→cur[o+j]?=(sfcells P)[j]?
theorem HoldsK.form {W:World} {base:Nat} {v:Value} {P:List Sf} (h:HoldsK W base v P):∃ a c,v=.slice a P.length c:=by
 rcases h with ⟨rfl,rfl⟩ | ⟨g,o,cp,cur,rfl,_⟩
 ·exact ⟨_,_,rfl⟩
 ·exact ⟨_,_,rfl⟩
theorem HoldsK.keep {W W':World} {base:Nat} {v:Value} {P:List Sf} (h:HoldsK W base v P) (k:∀ g cur,v.ownBlock=some g→base≤g→W.heap[g]?=some (.cells cur 82)→W'.heap[g]?=W.heap[g]?):HoldsK W' base v P :=
 h.imp id fun ⟨g,o,cp,cur,e,h2,h3,h4⟩=>⟨g,o,cp,cur,e,(k g cur (by rw [e];rfl) h3 h2).trans h2,h3,h4⟩
theorem HoldsK.own {W:World} {base:Nat} {v:Value} {P:List Sf} (h:W.ownsRow base 82 2 v P.length (sfcells P)):HoldsK W base v P:=by
 rcases h.2 with ⟨h1,h2⟩ | ⟨g,cap,cur,h1,hb,h3,h4,_,h6,h7⟩
 ·exact Or.inl ⟨h1,List.eq_nil_of_length_eq_zero h2⟩
 ·refine Or.inr ⟨g,0,cap,cur,h1,h3,hb,h4,by omega,fun j hj=>?_⟩
  rw [Nat.zero_add,← h7,List.getElem?_take,if_pos hj,Array.getElem?_toList]
theorem HoldsK.first {W:World} {base:Nat} {v:Value} {p:Sf} {P:List Sf} (h:HoldsK W base v (p :: P)):∃ g o cp,v=.slice (some ⟨g,o,none⟩) (P.length+1) (cp+1)∧W.cell? ⟨g,o,none⟩=some (.string p.text)∧W.cell? ⟨g,o+1,none⟩=some (.string p.bytes)∧HoldsK W base (.slice (some ⟨g,o+2,none⟩) P.length cp) P∧(cp=0→HoldsK W base (.slice (some ⟨g,o,none⟩) P.length 0) P):=by
 rcases h with ⟨_,e⟩ | ⟨g,o,cp,cur,rfl,h2,h3,h4,h5,h6⟩
 ·cases e
 ·rw [List.length_cons] at h4 h6 ⊢
  obtain ⟨k,rfl⟩:∃ k,cp=k+1:=⟨cp - 1,by omega⟩
  have e:sfcells (p :: P)=.string p.text :: .string p.bytes :: sfcells P:=rfl
  refine ⟨g,o,k,rfl,?_,?_,Or.inr ⟨g,o+2,k,cur,rfl,h2,h3,by omega,by omega,fun j hj=>?_⟩,fun hk=>?_⟩
  ·rw [cell_of_row _ _ _ _ _ _ h2];exact h6 0 (by omega)
  ·rw [cell_of_row _ _ _ _ _ _ h2];exact h6 1 (by omega)
  ·have:=h6 (j+2) (by omega)
   rw [show o+2+j=o+(j+2) by omega,this,e]
   rfl
  ·have:P=[]:=List.eq_nil_of_length_eq_zero (by omega)
   subst this
   exact Or.inr ⟨g,o,0,cur,rfl,h2,h3,Nat.le_refl _,by omega,fun j hj=>absurd hj (by simp)⟩
theorem sfcells_one (F:List Sf):∀ u ∈ sfcells F,u.oneCell'=true:=by
 intro u hu
 simp only [sfcells,List.mem_flatMap,List.mem_cons,List.not_mem_nil,or_false] at hu
 obtain ⟨f,_,rfl | rfl⟩:=hu<;>rfl
theorem setCells_row2 {T:TypeId} {g:Nat}:∀ (vs:List Value) (o:Nat) (W:World) (cur:Array Value),W.heap[g]?=some (.cells cur T)→o+vs.length≤cur.size →
  ∃ cur',(W.setCells g o vs).heap[g]?=some (.cells cur' T)∧cur'.size=cur.size∧(∀ k,k<o→cur'[k]?=cur[k]?)∧∀ j,j<vs.length→cur'[o+j]?=vs[j]?
 | [],_,_,cur,h,_=>⟨cur,h,rfl,fun _ _=>rfl,fun j hj=>absurd hj (by simp)⟩
 | v :: vs,o,W,cur,h,hl=>by
  rw [List.length_cons] at hl
  obtain ⟨cur',h1,h2,h3,h4⟩:=setCells_row2 vs (o+1) (W.setCell ⟨g,o,none⟩ v) (cur.setIfInBounds o v) (heap_setCell_same _ _ o _ _ v h) (by rw [Array.size_setIfInBounds];omega)
  refine ⟨cur',h1,by rw [h2,Array.size_setIfInBounds],fun k hk=>?_,fun j hj=>?_⟩
  ·rw [h3 k (by omega),Array.getElem?_setIfInBounds,if_neg (by omega)]
  ·cases j with
   | zero =>
    rw [Nat.add_zero,h3 o (by omega),Array.getElem?_setIfInBounds,if_pos rfl,if_pos (by omega)]
    rfl
   | succ j =>
    rw [List.length_cons] at hj
    rw [show o+(j+1)=o+1+j by omega,h4 j (by omega)]
    rfl
theorem below_set3 {n g:Nat} {a:World} (hg:n≤g):∀ (vs:List Value) (o:Nat) (W:World),Below n a W→Below n a (W.setCells g o vs)
 | [],_,_,h=>h
 | v :: vs,o,W,h=>below_set3 hg vs (o+1) (W.setCell ⟨g,o,none⟩ v) (h.setCell (p:=⟨g,o,none⟩) hg v)
theorem set_other3 {g k:Nat} (hk:k≠g):∀ (vs:List Value) (o:Nat) (W:World),(W.setCells g o vs).heap[k]?=W.heap[k]?
 | [],_,_=>rfl
 | v :: vs,o,W=>(set_other3 hk vs (o+1) (W.setCell ⟨g,o,none⟩ v)).trans (Below.heap_setCell _ ⟨g,o,none⟩ _ _ hk)
theorem run_append_no2 {W:World} (ty:TypeId) (ad ad':Option Addr) (n cap c':Nat) (hc:n≤cap):(Builtin.append_ #[55,55] ty #[.slice ad n cap,.slice ad' 0 c']).run Tryz.prog W=.ok (.slice ad n cap) W:=by
 obtain ⟨i,hi,hz,hsz,hby⟩:=sfinfo
 cases ad<;>cases ad'<;>simp [Builtin.append_,run_underlying Tryz.underlying55,sizeOf,typeInfo,hi,Builtin.lenOf,Builtin.firstCells,loadCells,loadCellsFrom,storeCells,hc]
theorem HoldsP.news {W:World} {F:List Sf} {g cs:Nat} {cur:Array Value} (h1:W.heap[g]?=some (.cells cur 82)) (h2:∀ j,j<F.length*2→cur[j]?=(sfcells F)[j]?) (_:cs=cs):∀ j u,(sfcells F)[j]?=some u→W.cell? ((⟨g,0,none⟩:Addr).add j)=some u:=fun j u hu=>by
 have hj:j<F.length*2:=by have:=(List.getElem?_eq_some_iff.1 hu).1;rw [sfcells_len] at this;exact this
 rw [Addr.add_lit,Nat.zero_add,cell_of_row _ _ _ _ _ _ h1,h2 j hj]
 exact hu
theorem run_append_k {W:World} {base:Nat} {v s:Value} {P F:List Sf} (ty:TypeId) (hv:HoldsK W base v P) (hs:HoldsP W s F) (hP:P.length≤1000000) (hF:F.length≤1000000) (hbase:base≤W.heap.size) :
  ∃ v' W',(Builtin.append_ #[55,55] ty #[v,s]).run Tryz.prog W=.ok v' W'∧HoldsK W' base v' (P ++ F)∧W.grownBy W' v.ownBlock∧∀ g,v'.ownBlock=some g→v.ownBlock=some g∨W.heap.size≤g:=by
 obtain ⟨i,hi,hz,hsz,hby⟩:=sfinfo
 rcases hs with ⟨ad,cs,rfl,rfl⟩ | ⟨g2,cs,cu,rfl,s2,s3,s4⟩
 ·rw [List.append_nil]
  rcases hv with ⟨rfl,rfl⟩ | ⟨g,o,cp,cur,rfl,h2,h3,h4,h5,h6⟩
  ·exact ⟨_,_,run_append_no2 ty none ad 0 0 cs (Nat.le_refl _),Or.inl ⟨rfl,rfl⟩,⟨rfl,rfl,rfl,Nat.le_refl _,fun _ _ _=>rfl⟩,fun _ h=>Or.inl h⟩
  ·exact ⟨_,_,run_append_no2 ty _ ad _ _ cs h4,Or.inr ⟨g,o,cp,cur,rfl,h2,h3,h4,h5,h6⟩,⟨rfl,rfl,rfl,Nat.le_refl _,fun _ _ _=>rfl⟩,fun _ h=>Or.inl h⟩
 ·have hnews:=HoldsP.news (cs:=cs) s2 s4 rfl
  have grow:∀ (W':World) (v':Value),W'.ownsRow W.heap.size 82 2 v' (P.length+F.length) (sfcells P ++ sfcells F)→HoldsK W' base v' (P ++ F)∧∀ g,v'.ownBlock=some g→v.ownBlock=some g∨W.heap.size≤g:=fun W' v' r1=>by
   have ho:HoldsK W' W.heap.size v' (P ++ F):=HoldsK.own (by rw [List.length_append,sfcells_append];exact r1)
   refine ⟨ho.imp id fun ⟨g,o,cp,cur,e,h2,h3,h4⟩=>⟨g,o,cp,cur,e,h2,Nat.le_trans hbase h3,h4⟩,fun g hg=>Or.inr ?_⟩
   rcases ho with ⟨e,_⟩ | ⟨g',o,cp,cur,e,h2,h3,_⟩
   ·rw [e] at hg;cases hg
   ·rw [e] at hg;cases hg;exact h3
  rcases hv with ⟨rfl,rfl⟩ | ⟨g,o,cp,cur,rfl,h2,h3,h4,h5,h6⟩
  ·obtain ⟨v',W',h1,r1,r2,_⟩:=run_append_own (P:=Tryz.prog) W W.heap.size 55 ty 82 i _ 2 32 Tryz.underlying55 hi hz hsz hby rfl (by decide) (.slice none 0 0) 0 (sfcells []) (World.ownsRow_nil _ _ _ _) ⟨g2,0,none⟩ F.length cs (sfcells F) (sfcells_len F) hnews (sfcells_one F) (by unfold maxLen;omega) (by omega) (Nat.le_refl _)
   have:=grow W' v' (by simpa using r1)
   exact ⟨v',W',h1,this.1,r2,this.2⟩
  ·by_cases hr:P.length+F.length≤cp
   ·have hcell:∀ j,j<(sfcells F).length→(W.cell? ⟨g,o+P.length*i.size+j,none⟩).isSome=true∧W.frozen? ⟨g,o+P.length*i.size+j,none⟩=false:=by
     intro j hj
     rw [sfcells_len] at hj
     have hc:o+P.length*2+j<cur.size:=by omega
     rw [hsz,cell_of_row _ _ _ _ _ _ h2,Array.getElem?_eq_getElem hc]
     exact ⟨rfl,frz h2 _⟩
    have hrun:=run_append_room_cells (P:=Tryz.prog) W 55 ty 82 i Tryz.underlying55 hi g o P.length cp ⟨g2,0,none⟩ F.length cs (sfcells F) (by rw [hsz,sfcells_len]) hnews (sfcells_one F) hr (fun j hj=>(hcell j hj).1) (fun j hj=>(hcell j hj).2)
    rw [hsz] at hrun
    obtain ⟨cur',k1,k2,k3,k4⟩:=setCells_row2 (sfcells F) (o+P.length*2) W cur h2 (by rw [sfcells_len];omega)
    refine ⟨_,_,hrun,Or.inr ⟨g,o,cp,cur',by rw [List.length_append],k1,h3,by rw [List.length_append];exact hr,by rw [k2];exact h5,fun j hj=>?_⟩,?_,fun _ h=>Or.inl h⟩
    ·rw [List.length_append] at hj
     rw [sfcells_append]
     by_cases ej:j<P.length*2
     ·rw [k3 _ (by omega),h6 j ej,List.getElem?_append_left (by rw [sfcells_len];exact ej)]
     ·have e5:o+j=o+P.length*2+(j - P.length*2):=by omega
      rw [List.getElem?_append_right (by rw [sfcells_len];omega),sfcells_len,e5]
      exact k4 (j - P.length*2) (by rw [sfcells_len];omega)
    ·have hb:=below_set3 (n:=0) (g:=g) (a:=W) (Nat.zero_le _) (sfcells F) (o+P.length*2) W (Below.refl 0 W)
     exact ⟨hb.os,hb.tape,hb.output,hb.size,fun k hkl hne=>set_other3 (fun e=>hne (by rw [e];rfl)) (sfcells F) _ _⟩
   ·obtain ⟨v',W',h1,r1,r2⟩:=run_append_arg_grows (P:=Tryz.prog) W 55 ty 82 i _ 2 32 Tryz.underlying55 hi hz hsz hby rfl (by decide) ⟨g,o,none⟩ P.length cp (sfcells P) (sfcells_len P) (fun j u hu=>by
      have hj:j<P.length*2:=by have:=(List.getElem?_eq_some_iff.1 hu).1;rw [sfcells_len] at this;exact this
      rw [Addr.add_lit,cell_of_row _ _ _ _ _ _ h2,h6 j hj]
      exact hu) ⟨g2,0,none⟩ F.length cs (sfcells F) (sfcells_len F) hnews (by omega) (by unfold maxLen;omega) (by omega)
    have:=grow W' v' r1
    exact ⟨v',W',h1,this.1,⟨r2.os,r2.tape,r2.output,r2.size,fun k hk _=>r2.block k hk (by simp)⟩,this.2⟩
theorem append_k {W:World} {ops:Array Oper} {rest:List Oper} {o:Oper} {a:Act} {Q:Exit→Act→World→Prop} (hgd:o.guard=none) (s x:Operand)
  (ho:o.op=.call { callee:=.builtin .append,args:=#[s,x],argTypes:=#[55,55] })
  (base:Nat) (v sv:Value) (P F:List Sf) (hs:a.eval s=v) (hx:a.eval x=sv) (hv:HoldsK W base v P) (hsv:HoldsP W sv F) (hP:P.length≤1000000) (hF:F.length≤1000000) (hbase:base≤W.heap.size)
  (h:∀ v' w',HoldsK w' base v' (P ++ F)→W.grownBy w' v.ownBlock→(∀ g,v'.ownBlock=some g→v.ownBlock=some g∨W.heap.size≤g)→wpList Tryz.prog ops Q rest (a.put o.dst v') w'):wpList Tryz.prog ops Q (o :: rest) a W:=by
 refine wpList_plain hgd fun K hK=>?_
 obtain ⟨v',w',hr,h2,h3,h4⟩:=run_append_k (W:=W) o.type hv hsv hP hF hbase
 unfold Oper.wp execOp
 simp only [ho,resolve,invoke,builtin,Sem.run_bind,Sem.run_pure,Result.andThen_ok,List.map_toArray,List.map_cons,List.map_nil,hs,hx,hr]
 exact hK _ _ (h v' w' h2 h3 h4)
theorem HoldsK.fst {W:World} {base:Nat} {v:Value} {p:Sf} {P:List Sf} (h:HoldsK W base v (p :: P)):∃ g o cp cur,v=.slice (some ⟨g,o,none⟩) (P.length+1) (cp+1)∧W.heap[g]?=some (.cells cur 82)∧cur[o]?=some (.string p.text)∧cur[o+1]?=some (.string p.bytes):=by
 rcases h with ⟨_,e⟩ | ⟨g,o,cp,cur,rfl,h2,h3,h4,h5,h6⟩
 ·cases e
 ·rw [List.length_cons] at h4 h6 ⊢
  obtain ⟨k,rfl⟩:∃ k,cp=k+1:=⟨cp - 1,by omega⟩
  exact ⟨g,o,k,cur,rfl,h2,h6 0 (by omega),h6 1 (by omega)⟩
theorem elemSf:Tryz.prog.elem 55=82:=by kernel_rfl
theorem slice_k (g o n cp:Nat):∃ b:Addr,(0<cp→b=⟨g,o+2,none⟩)∧(b=⟨g,o+2,none⟩∨b=⟨g,o,none⟩)∧∀ z:World,(Instr.slice 55 (.slice (some ⟨g,o,none⟩) (n+1) (cp+1)) (some (.int .i64 1)) none none).run Tryz.prog z=.ok (.slice (some b) n cp) z:=by
 refine ⟨if cp+1=1 then ⟨g,o,none⟩ else ⟨g,o+2,none⟩,fun h=>if_neg (by omega),?_,fun z=>?_⟩
 ·split
  ·exact Or.inr rfl
  ·exact Or.inl rfl
 ·have hs:=Tryz.sizeOf82 z
  rw [run_slice_l (P:=Tryz.prog) (w:=z) 55 (some ⟨g,o,none⟩) (n+1) (cp+1) (by rw [elemSf];exact Tryz.underlying55) .i64 1 (by omega) (by omega),elemSf,hs]
  simp [Result.andThen,sliced]
  split<;>rfl
theorem HoldsK.tail {W:World} {base g o n cp:Nat} {Q:List Sf} {b:Addr} (h:HoldsK W base (.slice (some ⟨g,o,none⟩) (n+1) (cp+1)) Q) (hb:0<cp→b=⟨g,o+2,none⟩) (hb2:b=⟨g,o+2,none⟩∨b=⟨g,o,none⟩):∃ p P,Q=p :: P∧P.length=n∧HoldsK W base (.slice (some b) n cp) P:=by
 obtain ⟨a,c,e⟩:=h.form
 injection e with _ e _
 match Q,h,e with
 | [],_,e=>simp at e
 | p :: P,h,e =>
  rw [List.length_cons] at e
  have e':P.length=n:=by omega
  subst e'
  obtain ⟨g',o',cp',e1,_,_,h1,h2⟩:=h.first
  injection e1 with e1 _ e2
  injection e1 with e1
  injection e1 with e1 e3 _
  have e4:cp=cp':=by omega
  subst e1 e3 e4
  refine ⟨p,P,rfl,rfl,?_⟩
  by_cases hc:0<cp
  ·rw [hb hc];exact h1
  ·have hc0:cp=0:=by omega
   subst hc0
   rcases hb2 with rfl | rfl
   ·exact h1
   ·exact h2 rfl
structure Nb where
 kind:Int
 ns:Int
 nr:Int
 text:ByteArray
abbrev nbV (f:Nb):Value:=.agg #[.int .i64 f.kind,.int .i64 f.ns,.int .i64 f.nr,.string f.text]
def nbOk (f:Nb):Bool:=decide ((0≤f.nr∧f.nr≤7)∧((f.kind=1∧(0≤f.ns∧f.ns≤7)∧f.text.size≤200)∨((f.kind=2∨f.kind=3)∧f.ns=0∧f.text.size=0)))
theorem nb_ways (f:Nb) (P:Prop)
  (h0:¬ (0≤f.nr∧f.nr≤7)→nbOk f=false→P)
  (h1:(0≤f.nr∧f.nr≤7)→f.kind=1→¬ (0≤f.ns∧f.ns≤7)→nbOk f=false→P)
  (h2:(0≤f.nr∧f.nr≤7)→f.kind=1→(0≤f.ns∧f.ns≤7)→¬ (f.text.size≤200)→nbOk f=false→P)
  (h3:(0≤f.nr∧f.nr≤7)→f.kind=1→(0≤f.ns∧f.ns≤7)→f.text.size≤200→nbOk f=true→P)
  (h4:(0≤f.nr∧f.nr≤7)→f.kind=2∨f.kind=3→f.ns≠0→nbOk f=false→P)
  (h5:(0≤f.nr∧f.nr≤7)→f.kind=2∨f.kind=3→f.ns=0→f.text.size≠0→nbOk f=false→P)
  (h6:(0≤f.nr∧f.nr≤7)→f.kind=2∨f.kind=3→f.ns=0→f.text.size=0→nbOk f=true→P)
  (h7:(0≤f.nr∧f.nr≤7)→f.kind≠1→f.kind≠2→f.kind≠3→nbOk f=false→P):P:=by
 by_cases a:0≤f.nr∧f.nr≤7
 ·by_cases k1:f.kind=1
  ·by_cases b:0≤f.ns∧f.ns≤7
   ·by_cases c:f.text.size≤200
    ·exact h3 a k1 b c (decide_eq_true (by omega))
    ·exact h2 a k1 b c (decide_eq_false (by omega))
   ·exact h1 a k1 b (decide_eq_false (by omega))
  ·by_cases k2:f.kind=2∨f.kind=3
   ·by_cases b:f.ns=0
    ·by_cases c:f.text.size=0
     ·exact h6 a k2 b c (decide_eq_true (by omega))
     ·exact h5 a k2 b c (decide_eq_false (by omega))
    ·exact h4 a k2 b (decide_eq_false (by omega))
   ·exact h7 a k1 (by omega) (by omega) (decide_eq_false (by omega))
 ·exact h0 a (decide_eq_false (by omega))
set_option maxHeartbeats 400000 in
theorem iWithin (x lo hi:Int) (w:World):Calls Tryz.prog 36 #[.int .i64 x,.int .i64 lo,.int .i64 hi] w fun e w'=>e=.returned (.bool (decide (lo≤x) && decide (x≤hi)))∧w'=w:=by
 by_cases h1:lo≤x
 ·have d1:decide (lo≤x)=true:=decide_eq_true h1
  rw [d1,Bool.true_and]
  go_enter Tryz.func36,Tryz.ntmps36
  go_wp2
  go_ret
  exact ⟨rfl,rfl⟩
 ·have d1:decide (lo≤x)=false:=decide_eq_false h1
  rw [d1,Bool.false_and]
  go_enter Tryz.func36,Tryz.ntmps36
  go_wp2
  go_ret
  exact ⟨rfl,rfl⟩
set_option maxHeartbeats 400000 in
theorem sWithin (x lo hi:Int) (w:World):Calls Tryz.prog 29 #[.int .i64 x,.int .i64 lo,.int .i64 hi] w fun e w'=>e=.returned (.bool (decide (lo≤x) && decide (x≤hi)))∧w'=w:=by
 by_cases h1:lo≤x
 ·have d1:decide (lo≤x)=true:=decide_eq_true h1
  rw [d1,Bool.true_and]
  go_enter Tryz.func29,Tryz.ntmps29
  go_wp2
  go_ret
  exact ⟨rfl,rfl⟩
 ·have d1:decide (lo≤x)=false:=decide_eq_false h1
  rw [d1,Bool.false_and]
  go_enter Tryz.func29,Tryz.ntmps29
  go_wp2
  go_ret
  exact ⟨rfl,rfl⟩
set_option maxHeartbeats 400000 in
theorem iNumber (x:Int) (w:World):Calls Tryz.prog 82 #[.int .i64 x] w fun e w'=>e=.returned (.bool (decide (0≤x) && decide (x≤7)))∧w'=w:=by
 have C:=hide fun v=>iWithin x 0 7 v
 go_enter Tryz.func82,Tryz.ntmps82
 go_wp2_with fail
 refine (uh C _).mono ?_
 rintro e w2 ⟨rfl,hw⟩
 replace hw:=hw.symm
 subst hw
 go_wp2
 go_ret
 exact ⟨rfl,rfl⟩
set_option maxHeartbeats 400000 in
theorem sNumber (x:Int) (w:World):Calls Tryz.prog 97 #[.int .i64 x] w fun e w'=>e=.returned (.bool (decide (0≤x) && decide (x≤7)))∧w'=w:=by
 have C:=hide fun v=>sWithin x 0 7 v
 go_enter Tryz.func97,Tryz.ntmps97
 go_wp2_with fail
 refine (uh C _).mono ?_
 rintro e w2 ⟨rfl,hw⟩
 replace hw:=hw.symm
 subst hw
 go_wp2
 go_ret
 exact ⟨rfl,rfl⟩
theorem in7 {x:Int} (h:0≤x∧x≤7):(decide (0≤x) && decide (x≤7))=true:=by simp;omega
theorem out7 {x:Int} (h:¬ (0≤x∧x≤7)):(decide (0≤x) && decide (x≤7))=false:=by simp;omega
theorem empty_of {t:ByteArray} (h:t.size=0):t=⟨#[]⟩:=by
 apply ByteArray.ext
 exact Array.eq_empty_of_size_eq_zero h
theorem nonempty_of {t:ByteArray} (h:t.size≠0):t.toList.isEmpty=false:=by
 rw [ByteArray.toList_eq]
 cases hq:t.data.toList with
 | nil=>exact absurd (by have:=congrArg List.length hq;simpa using this) h
 | cons a l=>rfl
def sentL:Int→List ByteArray→List (Value × Value)
 | _,[]=>[]
 | a,t :: S=>(.int .i64 a,.agg #[.string t]) :: sentL ((a+1) % 8) S
theorem sentL_len (a:Int) (S:List ByteArray):(sentL a S).length=S.length:=by
 induction S generalizing a with
 | nil=>rfl
 | cons t S ih=>simp [sentL,ih]
theorem sentL_snoc (a:Int) (S:List ByteArray) (t:ByteArray) (ha:0≤a∧a≤7):sentL a (S ++ [t])=sentL a S ++ [(.int .i64 ((a+S.length) % 8),.agg #[.string t])]:=by
 induction S generalizing a with
 | nil =>
  simp [sentL]
  omega
 | cons u S ih =>
  show (_ :: sentL _ (S ++ [t]))=_
  rw [ih ((a+1) % 8) (by omega)]
  simp [sentL]
  omega
def findP (k:Int):List (Value × Value)→Nat→Option (Option (Nat × Value))
 | [],_=>some none
 | (x,v) :: ps,i =>
  match Instr.sameNow (.int .i64) (.int .i64 k) x with
  | some true=>some (some (i,v))
  | some false=>findP k ps (i+1)
  | none=>none
theorem find_pairs (k:Int) (es:List MapEntry) (i:Nat):Instr.findNow (.int .i64) (.int .i64 k) es i=findP k (es.map fun e=>(e.key,e.val)) i:=by
 induction es generalizing i with
 | nil=>rfl
 | cons e es ih =>
  show (match Instr.sameNow (.int .i64) (.int .i64 k) e.key with | some true=>_ | some false=>_ | none=>_)=_
  simp only [List.map_cons,findP]
  rw [ih]
theorem find_no (k a:Int) (S:List ByteArray) (i:Nat) (_ha:0≤a∧a≤7) (hk:k=(a+S.length) % 8) (hS:S.length≤7):∀ (T:List ByteArray) (d:Nat),T.length+d=S.length→findP k (sentL ((a+d) % 8) T) i=some none:=by
 intro T
 induction T generalizing i with
 | nil=>intro d _;rfl
 | cons t T ih =>
  intro d hd
  rw [List.length_cons] at hd
  have hne:¬ (k=(a+d) % 8):=by omega
  simp only [sentL,findP,Instr.sameNow]
  rw [show (k == (a+(d:Int)) % 8)=false from beq_eq_false_iff_ne.2 hne]
  have:=ih (i+1) (d+1) (by omega)
  rw [show ((a+((d+1:Nat):Int)) % 8)=((a+(d:Int)) % 8+1) % 8 by omega] at this
  exact this
theorem find_at (a:Int) (ha:0≤a∧a≤7):∀ (S:List ByteArray) (j i:Nat) (hj:j<S.length),S.length≤8→findP ((a+j) % 8) (sentL a S) i=some (some (i+j,.agg #[.string S[j]])):=by
 intro S j
 induction j generalizing a S with
 | zero =>
  intro i hj _
  cases S with
  | nil=>simp at hj
  | cons t S =>
   simp only [sentL,findP,Instr.sameNow]
   rw [show ((a+((0:Nat):Int)) % 8 == a)=true from beq_iff_eq.2 (by omega)]
   rfl
 | succ j ih =>
  intro i hj h8
  cases S with
  | nil=>simp at hj
  | cons t S =>
   rw [List.length_cons] at hj h8
   simp only [sentL,findP,Instr.sameNow]
   rw [show ((a+((j+1:Nat):Int)) % 8 == a)=false from beq_eq_false_iff_ne.2 (by omega)]
   have:=ih ((a+1) % 8) (by omega) S (i+1) (by omega) (by omega)
   rw [show (((a+1) % 8+(j:Int)) % 8)=((a+((j+1:Nat):Int)) % 8) by omega] at this
   rw [show i+(j+1)=i+1+j by omega]
   exact this
def MapH (w:World) (M:Nat) (a:Int) (S:List ByteArray):Prop:=∃ es c,w.heap[M]?=some (.map es c)∧es.toList.map (fun e=>(e.key,e.val))=sentL a S
def putB (w:World) (M:Nat) (o:Obj):World:={ w with heap:=w.heap.setIfInBounds M o }
theorem putB_at {w:World} {M:Nat} {o o':Obj} (h:w.heap[M]?=some o'):(putB w M o).heap[M]?=some o:=by
 have:=(Array.getElem?_eq_some_iff.1 h).1
 simp [putB,this]
theorem putB_other (w:World) (M k:Nat) (o:Obj) (h:k≠M):(putB w M o).heap[k]?=w.heap[k]?:=by
 simp only [putB]
 rw [Array.getElem?_setIfInBounds,if_neg (fun e=>h e.symm)]
theorem putB_size (w:World) (M:Nat) (o:Obj):(putB w M o).heap.size=w.heap.size:=by simp [putB]
theorem putB_below {n:Nat} {w w':World} {M:Nat} (h:Below n w w') (hM:n≤M) (o:Obj):Below n w (putB w' M o) :=
 ⟨h.os,h.tape,h.output,by rw [putB_size];exact h.size,fun b hb=>(putB_other _ _ _ _ (by omega)).trans (h.block b hb)⟩
theorem MapH.len {w:World} {M:Nat} {a:Int} {S:List ByteArray} (h:MapH w M a S) (ty:TypeId):(Builtin.len_ #[102] ty #[.map (some M)]).run Tryz.prog w=.ok (.int .i64 (S.length:Int)) w:=by
 obtain ⟨es,c,h1,h2⟩:=h
 have hs:es.size=S.length:=by rw [← sentL_len a S,← h2];simp
 unfold Builtin.len_
 simp [run_underlying Tryz.underlying102,MapKept.run_getObj_map h1,Result.andThen,hs]
 rfl
theorem MapH.put {w:World} {M:Nat} {a:Int} {S:List ByteArray} (h:MapH w M a S) (ha:0≤a∧a≤7) (hS:S.length≤7) (t:ByteArray) :
  ∃ o,(Instr.mapUpdate 102 (.map (some M)) (.int .i64 ((a+S.length) % 8)) (.agg #[.string t])).run Tryz.prog w=.ok () (putB w M o)∧MapH (putB w M o) M a (S ++ [t]):=by
 obtain ⟨es,c,h1,h2⟩:=h
 have hf:Instr.findNow (.int .i64) (.int .i64 ((a+S.length) % 8)) es.toList 0=some none:=by
  rw [find_pairs,h2]
  have:=find_no ((a+S.length) % 8) a S 0 ha rfl hS S 0 (by omega)
  rw [show (a+((0:Nat):Int)) % 8=a by omega] at this
  exact this
 refine ⟨.map (es.push { key:=.int .i64 ((a+S.length) % 8),val:=.agg #[.string t],born:=c }) (c+1),?_,_,_,putB_at h1,?_⟩
 ·unfold Instr.mapUpdate
  simp only [Sem.run_bind,run_underlying Tryz.underlying102,MapKept.run_getObj_map h1,MapKept.run_checkKey Tryz.underlying2 (d:=.int .i64) (k:=.int .i64 ((a+S.length) % 8)) (by trivial),MapKept.run_findKey Tryz.underlying2 hf,MapKept.run_setObj_map _ h1,Result.andThen]
  rfl
 ·rw [sentL_snoc a S t ha,← h2]
  simp
theorem MapH.look {w:World} {M:Nat} {a:Int} {S:List ByteArray} (h:MapH w M a S) (ha:0≤a∧a≤7) (hS:S.length≤8) (j:Nat) (hj:j<S.length) :
  (Instr.lookup 102 (.map (some M)) (.int .i64 ((a+j) % 8)) false).run Tryz.prog w=.ok (.agg #[.string S[j]]) w:=by
 obtain ⟨es,c,h1,h2⟩:=h
 have hf:Instr.findNow (.int .i64) (.int .i64 ((a+j) % 8)) es.toList 0=some (some (0+j,.agg #[.string S[j]])):=by
  rw [find_pairs,h2]
  exact find_at a ha S j 0 hj hS
 unfold Instr.lookup
 simp only [Sem.run_bind,Sem.run_pure,run_underlying Tryz.underlying102,MapKept.run_getObj_map h1,MapKept.run_checkKey Tryz.underlying2 (d:=.int .i64) (k:=.int .i64 ((a+j) % 8)) (by trivial),MapKept.run_findKey Tryz.underlying2 hf,Result.andThen]
 rfl
theorem MapH.del {w:World} {M:Nat} {a:Int} {t:ByteArray} {S:List ByteArray} (h:MapH w M a (t :: S)) (ty:TypeId) :
  ∃ o,(Builtin.delete_ #[102,2] ty #[.map (some M),.int .i64 a]).run Tryz.prog w=.ok (.tuple #[]) (putB w M o)∧MapH (putB w M o) M ((a+1) % 8) S:=by
 obtain ⟨es,c,h1,h2⟩:=h
 have hf:Instr.findNow (.int .i64) (.int .i64 a) es.toList 0=some (some (0,.agg #[.string t])):=by
  rw [find_pairs,h2]
  simp only [sentL,findP,Instr.sameNow]
  rw [show (a == a)=true from beq_self_eq_true _]
  rfl
 refine ⟨.map (es.eraseIdxIfInBounds 0) c,?_,_,_,putB_at h1,?_⟩
 ·unfold Builtin.delete_
  simp [run_underlying Tryz.underlying102,MapKept.run_getObj_map h1,MapKept.run_checkKey Tryz.underlying2 (d:=.int .i64) (k:=.int .i64 a) (by trivial),MapKept.run_findKey Tryz.underlying2 hf,MapKept.run_setObj_map _ h1,Result.andThen,putB]
 ·obtain ⟨l⟩:=es
  cases l with
  | nil=>simp [sentL] at h2
  | cons e l =>
   simp [sentL] at h2
   simp [Array.eraseIdxIfInBounds]
   exact h2.2
theorem MapH.clear {w:World} {M:Nat} {a:Int} {S:List ByteArray} (h:MapH w M a S) (a':Int) (ty:TypeId) :
  ∃ o,(Builtin.clear_ #[102] ty #[.map (some M)]).run Tryz.prog w=.ok (.tuple #[]) (putB w M o)∧MapH (putB w M o) M a' []:=by
 obtain ⟨es,c,h1,h2⟩:=h
 refine ⟨.map #[] c,?_,_,_,putB_at h1,rfl⟩
 unfold Builtin.clear_
 simp [run_underlying Tryz.underlying102,MapKept.run_getObj_map h1,MapKept.run_setObj_map _ h1,Result.andThen,putB]
theorem MapH.other {w w':World} {M:Nat} {a:Int} {S:List ByteArray} (h:MapH w M a S) (hw:w'.heap[M]?=w.heap[M]?):MapH w' M a S:=by
 obtain ⟨es,c,h1,h2⟩:=h
 exact ⟨es,c,hw.trans h1,h2⟩
theorem MapH.lt {w:World} {M:Nat} {a:Int} {S:List ByteArray} (h:MapH w M a S):M<w.heap.size:=by
 obtain ⟨es,c,h1,h2⟩:=h
 exact (Array.getElem?_eq_some_iff.1 h1).1
theorem MapH.new (w:World) (a:Int):MapH (w.alloc (.map #[] 0)) w.heap.size a []:=⟨_,_,heap_alloc_new w _,rfl⟩
def ArgT (w:World) (v:Value) (L:List ByteArray):Prop :=
 (∃ a cap,v=.slice a L.length cap)∧∀ i (hi:i<L.length),∃ b o cap,v=.slice (some ⟨b,o,none⟩) L.length cap∧b<w.heap.size∧w.cell? ⟨b,o+i,none⟩=some (.string L[i])∧L[i].size≤maxLen
theorem ArgT.below {w w':World} {v:Value} {L:List ByteArray} (h:ArgT w v L) (hb:Below w.heap.size w w'):ArgT w' v L :=
 ⟨h.1,fun i hi=>by
  obtain ⟨b,o,cap,h1,h2,h3,h4⟩:=h.2 i hi
  exact ⟨b,o,cap,h1,Nat.lt_of_lt_of_le h2 hb.size,(hb.cell (p:=⟨b,o+i,none⟩) h2).trans h3,h4⟩⟩
set_option maxHeartbeats 1000000 in
theorem lwT (v1 v2:Value) (L:List ByteArray) (w:World) (hn:L.length≤2000000) (h1:HoldsT w v1 L) (h2:HoldsT w v2 L) :
  Calls Tryz.prog 8 #[v1,v2] w fun e w'=>e=.returned (.bool true)∧Below w.heap.size w w':=by
 have HA:Hid (∀ i (hi:i<L.length),(∃ g1,v1.ownBlock=some g1∧(∃ cp,v1=.slice (some ⟨g1,0,none⟩) L.length cp)∧g1<w.heap.size∧w.cell? ⟨g1,i,none⟩=some (.string L[i]))∧∃ g2,(∃ cp,v2=.slice (some ⟨g2,0,none⟩) L.length cp)∧g2<w.heap.size∧w.cell? ⟨g2,i,none⟩=some (.string L[i])):=by
  refine hide fun i hi=>⟨?_,?_⟩
  ·rcases h1 with ⟨_,_,_,e⟩ | ⟨g,cp,cur,e,q1,q2,q3⟩
   ·rw [e] at hi;exact absurd hi (Nat.not_lt_zero _)
   ·exact ⟨g,by rw [e];rfl,⟨cp,e⟩,(Array.getElem?_eq_some_iff.1 q1).1,by rw [cell_of_row _ _ _ _ _ _ q1,q3 i hi];exact scells_get L i _ (List.getElem?_eq_getElem hi)⟩
  ·rcases h2 with ⟨_,_,_,e⟩ | ⟨g,cp,cur,e,q1,q2,q3⟩
   ·rw [e] at hi;exact absurd hi (Nat.not_lt_zero _)
   ·exact ⟨g,⟨cp,e⟩,(Array.getElem?_eq_some_iff.1 q1).1,by rw [cell_of_row _ _ _ _ _ _ q1,q3 i hi];exact scells_get L i _ (List.getElem?_eq_getElem hi)⟩
 obtain ⟨a1,c1,rfl⟩:=h1.form
 obtain ⟨a2,c2,rfl⟩:=h2.form
 obtain ⟨n,hL⟩:∃ n,L.length=n:=⟨_,rfl⟩
 rw [hL] at hn ⊢
 clear h1 h2
 go_enter Tryz.func8,Tryz.ntmps8
 go_wp2_with fail
 go_loopw [5] (fun y wr=>∃ (i:Nat),i≤n∧y=.int .i64 i∧Below w.heap.size w wr) (fun y _=>n - (intOf y).toNat)
 case atStart=>exact ⟨0,Nat.zero_le _,rfl,Below.refl _ _⟩
 case round =>
  obtain ⟨i,hi,rfl,hb⟩:=hrel
  by_cases hlt:i<n
  ·have d1:(i:Int)<(n:Int):=by omega
   have d0:(0:Int)≤(i:Int):=by omega
   obtain ⟨⟨g1,_,⟨cp1,e1⟩,hg1,k1⟩,g2,⟨cp2,e2⟩,hg2,k2⟩:=uh HA i (by omega)
   cases e1
   cases e2
   replace k1:=(hb.cell (p:=⟨g1,i,none⟩) hg1).trans k1
   replace k2:=(hb.cell (p:=⟨g2,i,none⟩) hg2).trans k2
   generalize L[i]'(by omega)=t at *
   have HB:=hide hb
   clear hb HA
   go_wp2_with fail
   go_quiet (fail)
   go_wp2_with fail
   go_roundw
   case rel=>exact ⟨i+1,by omega,by go_num,(uh HB).os,(uh HB).tape,(uh HB).output,(uh HB).size,(uh HB).block⟩
   case measure=>simp [intOf];omega
  ·have e:i=n:=by omega
   subst e
   have d1:¬ ((i:Int)<(i:Int)):=by omega
   go_wp2
   go_ret
   exact ⟨rfl,hb⟩
end Go.Proofs.YtkcghhkkepndnaaGreatDoor
