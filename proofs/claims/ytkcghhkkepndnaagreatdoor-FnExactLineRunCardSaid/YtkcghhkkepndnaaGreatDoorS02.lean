/- Words of memory: all stands but for one block; a row that the call made stands where its block does; no condition. Rows of sent frames at any offset, with the room behind them: held, and appended to; what lay in memory stands but for that row; no condition but those named. A text with a bit turned. Plain mathematics. Rows of texts in memory: what they hold, and a text put behind one; no condition but those named. The law's text of a mark; what lay in memory stands. The law's words on rows of texts: two held against each other, marked by numbers, and whether the marks are there; what lay in memory stands but for the marked row. -/
import Derived.Test.YtkcghhkkepndnaaGreatDoorS00
import Derived.Deep.RegionHeld
import Derived.ArgAppend
import Derived.Test.YtkcghhkkepndnaaGreatDoorShW
namespace Go.Proofs.YtkcghhkkepndnaaGreatDoor
open Go.RowKit
structure Nr (B:Nat) (w w':World):Prop where
 os:w'.os=w.os
 tape:w'.tape=w.tape
 output:w'.output=w.output
 size:w.heap.size≤w'.heap.size
 block:∀ k,k<w.heap.size→k≠B→w'.heap[k]?=w.heap[k]?
theorem Nr.refl (B:Nat) (w:World):Nr B w w:=⟨rfl,rfl,rfl,Nat.le_refl _,fun _ _ _=>rfl⟩
theorem Nr.trans {B:Nat} {a b c:World} (h:Nr B a b) (k:Nr B b c):Nr B a c :=
 ⟨k.os.trans h.os,k.tape.trans h.tape,k.output.trans h.output,Nat.le_trans h.size k.size,fun i hi hn=>(k.block i (Nat.lt_of_lt_of_le hi h.size) hn).trans (h.block i hi hn)⟩
theorem Nr.drew {B:Nat} {a w:World} (h:Nr B a w):Nr B a w.drew:=⟨h.os,h.tape,h.output,h.size,h.block⟩
theorem Nr.drewN {B:Nat} {a w:World} (h:Nr B a w) (k:Nat):Nr B a (w.drewN k):=⟨h.os,h.tape,h.output,h.size,h.block⟩
theorem Nr.setCell {B:Nat} {a w:World} (h:Nr B a w) (o:Nat) (v:Value):Nr B a (w.setCell ⟨B,o,none⟩ v):=by
 have hb:=(Below.refl 0 w).setCell (p:=⟨B,o,none⟩) (Nat.zero_le _) v
 exact ⟨hb.os.trans h.os,hb.tape.trans h.tape,hb.output.trans h.output,Nat.le_trans h.size hb.size,fun k hk hn=>(Below.heap_setCell w ⟨B,o,none⟩ v k hn).trans (h.block k hk hn)⟩
theorem Nr.of_below {B:Nat} {a w w':World} (h:Nr B a w) (hb:Below w.heap.size w w'):Nr B a w' :=
 h.trans ⟨hb.os,hb.tape,hb.output,hb.size,fun k hk _=>hb.block k hk⟩
theorem Nr.alloc {B:Nat} {a w:World} (h:Nr B a w) (o:Obj):Nr B a (w.alloc o):=h.of_below ((Below.refl _ _).alloc (Nat.le_refl _) _)
theorem Nr.below {B n:Nat} {w w':World} (h:Nr B w w') (hn:n≤B) (hw:n≤w.heap.size):Below n w w' :=
 ⟨h.os,h.tape,h.output,h.size,fun k hk=>h.block k (by omega) (by omega)⟩
structure But (o:Option Nat) (w w':World):Prop where
 os:w'.os=w.os
 tape:w'.tape=w.tape
 output:w'.output=w.output
 size:w.heap.size≤w'.heap.size
 block:∀ b,b<w.heap.size→o≠some b→w'.heap[b]?=w.heap[b]?
theorem But.of_below {o:Option Nat} {w w':World} (h:Below w.heap.size w w'):But o w w':=⟨h.os,h.tape,h.output,h.size,fun b hb _=>h.block b hb⟩
structure Sf where
 text:ByteArray
 bytes:ByteArray
def sfcells (fs:List Sf):List Value:=fs.flatMap fun f=>[.string f.text,.string f.bytes]
theorem sfcells_len (fs:List Sf):(sfcells fs).length=fs.length*2:=by
 induction fs with
 | nil=>rfl
 | cons f fs ih=>simp [sfcells] at ih ⊢;omega
theorem sfcells_append (fs gs:List Sf):sfcells (fs ++ gs)=sfcells fs ++ sfcells gs:=by simp [sfcells]
theorem sfinfo:∃ i,Tryz.prog.info? 82=some i∧i.zero=some (.agg #[.string ⟨#[]⟩,.string ⟨#[]⟩])∧i.size=2∧i.bytes=32:=by
 have h:(Tryz.prog.info? 82).map (fun i=>(i.zero,i.size,i.bytes))=some (some (.agg #[.string ⟨#[]⟩,.string ⟨#[]⟩]),2,32):=by kernel_rfl
 obtain ⟨i,hi,hzz⟩:=Option.map_eq_some_iff.1 h
 simp only [Prod.mk.injEq] at hzz
 exact ⟨i,hi,hzz.1,hzz.2.1,hzz.2.2⟩
def HoldsP (w:World) (v:Value) (F:List Sf):Prop :=
 (∃ ad cp,v=.slice ad 0 cp∧F=[])∨∃ g cp cur,v=.slice (some ⟨g,0,none⟩) F.length cp∧w.heap[g]?=some (.cells cur 82)∧F.length*2≤cur.size∧∀ j,j<F.length*2→cur[j]?=(sfcells F)[j]?
theorem HoldsP.own {w:World} {base:Nat} {v:Value} {F:List Sf} (h:w.ownsRow base 82 2 v F.length (sfcells F)):HoldsP w v F:=by
 rcases h.2 with ⟨h1,h2⟩ | ⟨g,cap,cur,h1,_,h3,h4,_,h6,h7⟩
 ·exact Or.inl ⟨_,_,h1,List.eq_nil_of_length_eq_zero h2⟩
 ·refine Or.inr ⟨g,cap,cur,h1,h3,by rw [h6];omega,fun j hj=>?_⟩
  rw [← h7,List.getElem?_take,if_pos hj,Array.getElem?_toList]
theorem HoldsP.below {n:Nat} {w w':World} {v:Value} {F:List Sf} (h:HoldsP w v F) (hb:Below n w w') (hn:n=w.heap.size):HoldsP w' v F:=by
 subst hn
 exact h.imp id fun ⟨g,cp,cur,h1,h2,h3⟩=>⟨g,cp,cur,h1,(hb.block g (Array.getElem?_eq_some_iff.1 h2).1).trans h2,h3⟩
theorem HoldsP.form {w:World} {v:Value} {F:List Sf} (h:HoldsP w v F):∃ ad cp,v=.slice ad F.length cp:=by
 rcases h with ⟨ad,cp,h1,h2⟩ | ⟨g,cp,cur,h1,_⟩
 ·exact ⟨ad,cp,by rw [h1,h2];rfl⟩
 ·exact ⟨_,_,h1⟩
theorem HoldsP.other {w w':World} {v:Value} {F:List Sf} (h:HoldsP w v F) (hw:∀ g,v.ownBlock=some g→w'.heap[g]?=w.heap[g]?):HoldsP w' v F:=by
 rcases h with ⟨ad,cp,e,e0⟩ | ⟨g,cp,cur,e,q1,q2⟩
 ·exact Or.inl ⟨ad,cp,e,e0⟩
 ·exact Or.inr ⟨g,cp,cur,e,(hw g (by rw [e];rfl)).trans q1,q2⟩
theorem HoldsP.lt {w:World} {v:Value} {F:List Sf} (h:HoldsP w v F) (hF:F≠[]) (g:Nat) (hg:v.ownBlock=some g):g<w.heap.size:=by
 rcases h with ⟨_,_,_,e⟩ | ⟨g',cp,cur,e,q1,_⟩
 ·exact absurd e hF
 ·rw [e] at hg
  cases hg
  exact (Array.getElem?_eq_some_iff.1 q1).1
def HoldsK (W:World) (base:Nat) (v:Value) (P:List Sf):Prop :=
 (v=.slice none 0 0∧P=[])∨∃ g o cp cur,v=.slice (some ⟨g,o,none⟩) P.length cp∧W.heap[g]?=some (.cells cur 82)∧base≤g∧P.length≤cp∧o+cp*2≤cur.size∧∀ j,j<P.length*2→cur[o+j]?=(sfcells P)[j]?
theorem HoldsK.form {W:World} {base:Nat} {v:Value} {P:List Sf} (h:HoldsK W base v P):∃ a c,v=.slice a P.length c:=by
 rcases h with ⟨rfl,rfl⟩ | ⟨g,o,cp,cur,rfl,_⟩
 ·exact ⟨_,_,rfl⟩
 ·exact ⟨_,_,rfl⟩
theorem HoldsK.keep {W W':World} {base:Nat} {v:Value} {P:List Sf} (h:HoldsK W base v P) (k:∀ g cur,v.ownBlock=some g→base≤g→W.heap[g]?=some (.cells cur 82)→W'.heap[g]?=W.heap[g]?):HoldsK W' base v P :=
 h.imp id fun ⟨g,o,cp,cur,e,h2,h3,h4⟩=>⟨g,o,cp,cur,e,(k g cur (by rw [e];rfl) h3 h2).trans h2,h3,h4⟩
theorem HoldsK.own {W:World} {base:Nat} {v:Value} {P:List Sf} (h:W.ownsRow base 82 2 v P.length (sfcells P)):HoldsK W base v P:=by
 rcases h.2 with ⟨h1,h2⟩ | ⟨g,cap,cur,h1,hb,h3,h4,_,h6,h7⟩
 ·exact Or.inl ⟨h1,List.eq_nil_of_length_eq_zero h2⟩
 ·refine Or.inr ⟨g,0,cap,cur,h1,h3,hb,h4,by omega,fun j hj=>?_⟩
  rw [Nat.zero_add,← h7,List.getElem?_take,if_pos hj,Array.getElem?_toList]
theorem HoldsK.first {W:World} {base:Nat} {v:Value} {p:Sf} {P:List Sf} (h:HoldsK W base v (p :: P)):∃ g o cp,v=.slice (some ⟨g,o,none⟩) (P.length+1) (cp+1)∧W.cell? ⟨g,o,none⟩=some (.string p.text)∧W.cell? ⟨g,o+1,none⟩=some (.string p.bytes)∧HoldsK W base (.slice (some ⟨g,o+2,none⟩) P.length cp) P∧(cp=0→HoldsK W base (.slice (some ⟨g,o,none⟩) P.length 0) P):=by
 rcases h with ⟨_,e⟩ | ⟨g,o,cp,cur,rfl,h2,h3,h4,h5,h6⟩
 ·cases e
 ·rw [List.length_cons] at h4 h6 ⊢
  obtain ⟨k,rfl⟩:∃ k,cp=k+1:=⟨cp - 1,by omega⟩
  have e:sfcells (p :: P)=.string p.text :: .string p.bytes :: sfcells P:=rfl
  refine ⟨g,o,k,rfl,?_,?_,Or.inr ⟨g,o+2,k,cur,rfl,h2,h3,by omega,by omega,fun j hj=>?_⟩,fun hk=>?_⟩
  ·rw [cell_of_row _ _ _ _ _ _ h2];exact h6 0 (by omega)
  ·rw [cell_of_row _ _ _ _ _ _ h2];exact h6 1 (by omega)
  ·have:=h6 (j+2) (by omega)
   rw [show o+2+j=o+(j+2) by omega,this,e]
   rfl
  ·have:P=[]:=List.eq_nil_of_length_eq_zero (by omega)
   subst this
   exact Or.inr ⟨g,o,0,cur,rfl,h2,h3,Nat.le_refl _,by omega,fun j hj=>absurd hj (by simp)⟩
theorem sfcells_one (F:List Sf):∀ u ∈ sfcells F,u.oneCell'=true:=by
 intro u hu
 simp only [sfcells,List.mem_flatMap,List.mem_cons,List.not_mem_nil,or_false] at hu
 obtain ⟨f,_,rfl | rfl⟩:=hu<;>rfl
theorem setCells_row2 {T:TypeId} {g:Nat}:∀ (vs:List Value) (o:Nat) (W:World) (cur:Array Value),W.heap[g]?=some (.cells cur T)→o+vs.length≤cur.size →
  ∃ cur',(W.setCells g o vs).heap[g]?=some (.cells cur' T)∧cur'.size=cur.size∧(∀ k,k<o→cur'[k]?=cur[k]?)∧∀ j,j<vs.length→cur'[o+j]?=vs[j]?
 | [],_,_,cur,h,_=>⟨cur,h,rfl,fun _ _=>rfl,fun j hj=>absurd hj (by simp)⟩
 | v :: vs,o,W,cur,h,hl=>by
  rw [List.length_cons] at hl
  obtain ⟨cur',h1,h2,h3,h4⟩:=setCells_row2 vs (o+1) (W.setCell ⟨g,o,none⟩ v) (cur.setIfInBounds o v) (heap_setCell_same _ _ o _ _ v h) (by rw [Array.size_setIfInBounds];omega)
  refine ⟨cur',h1,by rw [h2,Array.size_setIfInBounds],fun k hk=>?_,fun j hj=>?_⟩
  ·rw [h3 k (by omega),Array.getElem?_setIfInBounds,if_neg (by omega)]
  ·cases j with
   | zero =>
    rw [Nat.add_zero,h3 o (by omega),Array.getElem?_setIfInBounds,if_pos rfl,if_pos (by omega)]
    rfl
   | succ j =>
    rw [List.length_cons] at hj
    rw [show o+(j+1)=o+1+j by omega,h4 j (by omega)]
    rfl
theorem below_set3 {n g:Nat} {a:World} (hg:n≤g):∀ (vs:List Value) (o:Nat) (W:World),Below n a W→Below n a (W.setCells g o vs)
 | [],_,_,h=>h
 | v :: vs,o,W,h=>below_set3 hg vs (o+1) (W.setCell ⟨g,o,none⟩ v) (h.setCell (p:=⟨g,o,none⟩) hg v)
theorem set_other3 {g k:Nat} (hk:k≠g):∀ (vs:List Value) (o:Nat) (W:World),(W.setCells g o vs).heap[k]?=W.heap[k]?
 | [],_,_=>rfl
 | v :: vs,o,W=>(set_other3 hk vs (o+1) (W.setCell ⟨g,o,none⟩ v)).trans (Below.heap_setCell _ ⟨g,o,none⟩ _ _ hk)
theorem run_append_no2 {W:World} (ty:TypeId) (ad ad':Option Addr) (n cap c':Nat) (hc:n≤cap):(Builtin.append_ #[55,55] ty #[.slice ad n cap,.slice ad' 0 c']).run Tryz.prog W=.ok (.slice ad n cap) W:=by
 obtain ⟨i,hi,hz,hsz,hby⟩:=sfinfo
 cases ad<;>cases ad'<;>simp [Builtin.append_,run_underlying Tryz.underlying55,sizeOf,typeInfo,hi,Builtin.lenOf,Builtin.firstCells,loadCells,loadCellsFrom,storeCells,hc]
theorem HoldsP.news {W:World} {F:List Sf} {g cs:Nat} {cur:Array Value} (h1:W.heap[g]?=some (.cells cur 82)) (h2:∀ j,j<F.length*2→cur[j]?=(sfcells F)[j]?) (_:cs=cs):∀ j u,(sfcells F)[j]?=some u→W.cell? ((⟨g,0,none⟩:Addr).add j)=some u:=fun j u hu=>by
 have hj:j<F.length*2:=by have:=(List.getElem?_eq_some_iff.1 hu).1;rw [sfcells_len] at this;exact this
 rw [Addr.add_lit,Nat.zero_add,cell_of_row _ _ _ _ _ _ h1,h2 j hj]
 exact hu
theorem run_append_k {W:World} {base:Nat} {v s:Value} {P F:List Sf} (ty:TypeId) (hv:HoldsK W base v P) (hs:HoldsP W s F) (hP:P.length≤1000000) (hF:F.length≤1000000) (hbase:base≤W.heap.size) :
  ∃ v' W',(Builtin.append_ #[55,55] ty #[v,s]).run Tryz.prog W=.ok v' W'∧HoldsK W' base v' (P ++ F)∧W.grownBy W' v.ownBlock∧∀ g,v'.ownBlock=some g→v.ownBlock=some g∨W.heap.size≤g:=by
 obtain ⟨i,hi,hz,hsz,hby⟩:=sfinfo
 rcases hs with ⟨ad,cs,rfl,rfl⟩ | ⟨g2,cs,cu,rfl,s2,s3,s4⟩
 ·rw [List.append_nil]
  rcases hv with ⟨rfl,rfl⟩ | ⟨g,o,cp,cur,rfl,h2,h3,h4,h5,h6⟩
  ·exact ⟨_,_,run_append_no2 ty none ad 0 0 cs (Nat.le_refl _),Or.inl ⟨rfl,rfl⟩,⟨rfl,rfl,rfl,Nat.le_refl _,fun _ _ _=>rfl⟩,fun _ h=>Or.inl h⟩
  ·exact ⟨_,_,run_append_no2 ty _ ad _ _ cs h4,Or.inr ⟨g,o,cp,cur,rfl,h2,h3,h4,h5,h6⟩,⟨rfl,rfl,rfl,Nat.le_refl _,fun _ _ _=>rfl⟩,fun _ h=>Or.inl h⟩
 ·have hnews:=HoldsP.news (cs:=cs) s2 s4 rfl
  have grow:∀ (W':World) (v':Value),W'.ownsRow W.heap.size 82 2 v' (P.length+F.length) (sfcells P ++ sfcells F)→HoldsK W' base v' (P ++ F)∧∀ g,v'.ownBlock=some g→v.ownBlock=some g∨W.heap.size≤g:=fun W' v' r1=>by
   have ho:HoldsK W' W.heap.size v' (P ++ F):=HoldsK.own (by rw [List.length_append,sfcells_append];exact r1)
   refine ⟨ho.imp id fun ⟨g,o,cp,cur,e,h2,h3,h4⟩=>⟨g,o,cp,cur,e,h2,Nat.le_trans hbase h3,h4⟩,fun g hg=>Or.inr ?_⟩
   rcases ho with ⟨e,_⟩ | ⟨g',o,cp,cur,e,h2,h3,_⟩
   ·rw [e] at hg;cases hg
   ·rw [e] at hg;cases hg;exact h3
  rcases hv with ⟨rfl,rfl⟩ | ⟨g,o,cp,cur,rfl,h2,h3,h4,h5,h6⟩
  ·obtain ⟨v',W',h1,r1,r2,_⟩:=run_append_own (P:=Tryz.prog) W W.heap.size 55 ty 82 i _ 2 32 Tryz.underlying55 hi hz hsz hby rfl (by decide) (.slice none 0 0) 0 (sfcells []) (World.ownsRow_nil _ _ _ _) ⟨g2,0,none⟩ F.length cs (sfcells F) (sfcells_len F) hnews (sfcells_one F) (by unfold maxLen;omega) (by omega) (Nat.le_refl _)
   have:=grow W' v' (by simpa using r1)
   exact ⟨v',W',h1,this.1,r2,this.2⟩
  ·by_cases hr:P.length+F.length≤cp
   ·have hcell:∀ j,j<(sfcells F).length→(W.cell? ⟨g,o+P.length*i.size+j,none⟩).isSome=true∧W.frozen? ⟨g,o+P.length*i.size+j,none⟩=false:=by
     intro j hj
     rw [sfcells_len] at hj
     have hc:o+P.length*2+j<cur.size:=by omega
     rw [hsz,cell_of_row _ _ _ _ _ _ h2,Array.getElem?_eq_getElem hc]
     exact ⟨rfl,frz h2 _⟩
    have hrun:=run_append_room_cells (P:=Tryz.prog) W 55 ty 82 i Tryz.underlying55 hi g o P.length cp ⟨g2,0,none⟩ F.length cs (sfcells F) (by rw [hsz,sfcells_len]) hnews (sfcells_one F) hr (fun j hj=>(hcell j hj).1) (fun j hj=>(hcell j hj).2)
    rw [hsz] at hrun
    obtain ⟨cur',k1,k2,k3,k4⟩:=setCells_row2 (sfcells F) (o+P.length*2) W cur h2 (by rw [sfcells_len];omega)
    refine ⟨_,_,hrun,Or.inr ⟨g,o,cp,cur',by rw [List.length_append],k1,h3,by rw [List.length_append];exact hr,by rw [k2];exact h5,fun j hj=>?_⟩,?_,fun _ h=>Or.inl h⟩
    ·rw [List.length_append] at hj
     rw [sfcells_append]
     by_cases ej:j<P.length*2
     ·rw [k3 _ (by omega),h6 j ej,List.getElem?_append_left (by rw [sfcells_len];exact ej)]
     ·have e5:o+j=o+P.length*2+(j - P.length*2):=by omega
      rw [List.getElem?_append_right (by rw [sfcells_len];omega),sfcells_len,e5]
      exact k4 (j - P.length*2) (by rw [sfcells_len];omega)
    ·have hb:=below_set3 (n:=0) (g:=g) (a:=W) (Nat.zero_le _) (sfcells F) (o+P.length*2) W (Below.refl 0 W)
     exact ⟨hb.os,hb.tape,hb.output,hb.size,fun k hkl hne=>set_other3 (fun e=>hne (by rw [e];rfl)) (sfcells F) _ _⟩
   ·obtain ⟨v',W',h1,r1,r2⟩:=run_append_arg_grows (P:=Tryz.prog) W 55 ty 82 i _ 2 32 Tryz.underlying55 hi hz hsz hby rfl (by decide) ⟨g,o,none⟩ P.length cp (sfcells P) (sfcells_len P) (fun j u hu=>by
      have hj:j<P.length*2:=by have:=(List.getElem?_eq_some_iff.1 hu).1;rw [sfcells_len] at this;exact this
      rw [Addr.add_lit,cell_of_row _ _ _ _ _ _ h2,h6 j hj]
      exact hu) ⟨g2,0,none⟩ F.length cs (sfcells F) (sfcells_len F) hnews (by omega) (by unfold maxLen;omega) (by omega)
    have:=grow W' v' r1
    exact ⟨v',W',h1,this.1,⟨r2.os,r2.tape,r2.output,r2.size,fun k hk _=>r2.block k hk (by simp)⟩,this.2⟩
theorem append_k {W:World} {ops:Array Oper} {rest:List Oper} {o:Oper} {a:Act} {Q:Exit→Act→World→Prop} (hgd:o.guard=none) (s x:Operand)
  (ho:o.op=.call { callee:=.builtin .append,args:=#[s,x],argTypes:=#[55,55] })
  (base:Nat) (v sv:Value) (P F:List Sf) (hs:a.eval s=v) (hx:a.eval x=sv) (hv:HoldsK W base v P) (hsv:HoldsP W sv F) (hP:P.length≤1000000) (hF:F.length≤1000000) (hbase:base≤W.heap.size)
  (h:∀ v' w',HoldsK w' base v' (P ++ F)→W.grownBy w' v.ownBlock→(∀ g,v'.ownBlock=some g→v.ownBlock=some g∨W.heap.size≤g)→wpList Tryz.prog ops Q rest (a.put o.dst v') w'):wpList Tryz.prog ops Q (o :: rest) a W:=by
 refine wpList_plain hgd fun K hK=>?_
 obtain ⟨v',w',hr,h2,h3,h4⟩:=run_append_k (W:=W) o.type hv hsv hP hF hbase
 unfold Oper.wp execOp
 simp only [ho,resolve,invoke,builtin,Sem.run_bind,Sem.run_pure,Result.andThen_ok,List.map_toArray,List.map_cons,List.map_nil,hs,hx,hr]
 exact hK _ _ (h v' w' h2 h3 h4)
theorem HoldsK.fst {W:World} {base:Nat} {v:Value} {p:Sf} {P:List Sf} (h:HoldsK W base v (p :: P)):∃ g o cp cur,v=.slice (some ⟨g,o,none⟩) (P.length+1) (cp+1)∧W.heap[g]?=some (.cells cur 82)∧cur[o]?=some (.string p.text)∧cur[o+1]?=some (.string p.bytes):=by
 rcases h with ⟨_,e⟩ | ⟨g,o,cp,cur,rfl,h2,h3,h4,h5,h6⟩
 ·cases e
 ·rw [List.length_cons] at h4 h6 ⊢
  obtain ⟨k,rfl⟩:∃ k,cp=k+1:=⟨cp - 1,by omega⟩
  exact ⟨g,o,k,cur,rfl,h2,h6 0 (by omega),h6 1 (by omega)⟩
theorem elemSf:Tryz.prog.elem 55=82:=by kernel_rfl
theorem slice_k (g o n cp:Nat):∃ b:Addr,(0<cp→b=⟨g,o+2,none⟩)∧(b=⟨g,o+2,none⟩∨b=⟨g,o,none⟩)∧∀ z:World,(Instr.slice 55 (.slice (some ⟨g,o,none⟩) (n+1) (cp+1)) (some (.int .i64 1)) none none).run Tryz.prog z=.ok (.slice (some b) n cp) z:=by
 refine ⟨if cp+1=1 then ⟨g,o,none⟩ else ⟨g,o+2,none⟩,fun h=>if_neg (by omega),?_,fun z=>?_⟩
 ·split
  ·exact Or.inr rfl
  ·exact Or.inl rfl
 ·have hs:=Tryz.sizeOf82 z
  rw [run_slice_l (P:=Tryz.prog) (w:=z) 55 (some ⟨g,o,none⟩) (n+1) (cp+1) (by rw [elemSf];exact Tryz.underlying55) .i64 1 (by omega) (by omega),elemSf,hs]
  simp [Result.andThen,sliced]
  split<;>rfl
theorem HoldsK.tail {W:World} {base g o n cp:Nat} {Q:List Sf} {b:Addr} (h:HoldsK W base (.slice (some ⟨g,o,none⟩) (n+1) (cp+1)) Q) (hb:0<cp→b=⟨g,o+2,none⟩) (hb2:b=⟨g,o+2,none⟩∨b=⟨g,o,none⟩):∃ p P,Q=p :: P∧P.length=n∧HoldsK W base (.slice (some b) n cp) P:=by
 obtain ⟨a,c,e⟩:=h.form
 injection e with _ e _
 match Q,h,e with
 | [],_,e=>simp at e
 | p :: P,h,e =>
  rw [List.length_cons] at e
  have e':P.length=n:=by omega
  subst e'
  obtain ⟨g',o',cp',e1,_,_,h1,h2⟩:=h.first
  injection e1 with e1 _ e2
  injection e1 with e1
  injection e1 with e1 e3 _
  have e4:cp=cp':=by omega
  subst e1 e3 e4
  refine ⟨p,P,rfl,rfl,?_⟩
  by_cases hc:0<cp
  ·rw [hb hc];exact h1
  ·have hc0:cp=0:=by omega
   subst hc0
   rcases hb2 with rfl | rfl
   ·exact h1
   ·exact h2 rfl
def turnV (t:ByteArray) (n:Nat):ByteArray:=txt (t.data.toList.set (n % (8*t.size) / 8) (t.data.toList.getD (n % (8*t.size) / 8) 0 ^^^ UInt8.ofNat (2 ^ (n % (8*t.size) % 8))))
theorem turnV_size (t:ByteArray) (n:Nat):(turnV t n).size=t.size:=by
 unfold turnV
 rw [txt_size,List.length_set,Array.length_toList]
 rfl
def scells (l:List ByteArray):List Value:=l.map Value.string
theorem scells_len (l:List ByteArray):(scells l).length=l.length:=by simp [scells]
theorem scells_append (l r:List ByteArray):scells (l ++ r)=scells l ++ scells r:=by simp [scells]
theorem scells_get (l:List ByteArray) (i:Nat) (t:ByteArray) (h:l[i]?=some t):(scells l)[i]?=some (.string t):=by simp [scells,h]
theorem sinfo:∃ i,Tryz.prog.info? 9=some i∧i.zero=some (.string ⟨#[]⟩)∧i.size=1∧i.bytes=16:=by
 have h:(Tryz.prog.info? 9).map (fun i=>(i.zero,i.size,i.bytes))=some (some (.string ⟨#[]⟩),1,16):=by kernel_rfl
 obtain ⟨i,hi,hzz⟩:=Option.map_eq_some_iff.1 h
 simp only [Prod.mk.injEq] at hzz
 exact ⟨i,hi,hzz.1,hzz.2.1,hzz.2.2⟩
def HoldsT (w:World) (v:Value) (L:List ByteArray):Prop :=
 (∃ ad cp,v=.slice ad 0 cp∧L=[])∨∃ g cp cur,v=.slice (some ⟨g,0,none⟩) L.length cp∧w.heap[g]?=some (.cells cur 9)∧L.length≤cur.size∧∀ j,j<L.length→cur[j]?=(scells L)[j]?
theorem HoldsT.own {w:World} {base:Nat} {v:Value} {L:List ByteArray} (h:w.ownsRow base 9 1 v L.length (scells L)):HoldsT w v L:=by
 rcases h.2 with ⟨h1,h2⟩ | ⟨g,cap,cur,h1,_,h3,h4,_,h6,h7⟩
 ·exact Or.inl ⟨_,_,h1,List.eq_nil_of_length_eq_zero h2⟩
 ·refine Or.inr ⟨g,cap,cur,h1,h3,by rw [h6];omega,fun j hj=>?_⟩
  rw [← h7,List.getElem?_take,if_pos (by omega),Array.getElem?_toList]
theorem HoldsT.below {n:Nat} {w w':World} {v:Value} {L:List ByteArray} (h:HoldsT w v L) (hb:Below n w w') (hn:n=w.heap.size):HoldsT w' v L:=by
 subst hn
 exact h.imp id fun ⟨g,cp,cur,h1,h2,h3⟩=>⟨g,cp,cur,h1,(hb.block g (Array.getElem?_eq_some_iff.1 h2).1).trans h2,h3⟩
theorem HoldsT.form {w:World} {v:Value} {L:List ByteArray} (h:HoldsT w v L):∃ ad cp,v=.slice ad L.length cp:=by
 rcases h with ⟨ad,cp,h1,h2⟩ | ⟨g,cp,cur,h1,_⟩
 ·exact ⟨ad,cp,by rw [h1,h2];rfl⟩
 ·exact ⟨_,_,h1⟩
theorem append_txt {wr:World} {ops:Array Oper} {rest:List Oper} {o:Oper} {a:Act} {Q:Exit→Act→World→Prop} (hgd:o.guard=none) (s x:Operand)
  (ho:o.op=.call { callee:=.builtin .append,args:=#[s,x],argTypes:=#[23,23] })
  (base:Nat) (v:Value) (L:List ByteArray) (n:Nat) (hn:L.length=n) (hs:a.eval s=v) (hown:wr.ownsRow base 9 1 v n (scells L)) (t:ByteArray) (hx:a.eval x=.slice (some ⟨wr.heap.size,0,none⟩) 1 1) (hlen:n≤1000000) (hbase:base≤wr.heap.size)
  (h:∀ v' w',w'.ownsRow base 9 1 v' (n+1) (scells (L ++ [t]))→(wr.alloc (.cells #[.string t] 9)).grownBy w' v.ownBlock→wpList Tryz.prog ops Q rest (a.put o.dst v') w'):wpList Tryz.prog ops Q (o :: rest) a (wr.alloc (.cells #[.string t] 9)):=by
 obtain ⟨i0,hi0,hz0,hz1,hz2⟩:=sinfo
 refine wpList_append_own _ hgd s x 23 ho base 9 i0 _ 1 16 Tryz.underlying23 hi0 hz0 hz1 hz2 rfl (by decide) v n (scells L) hs (hown.alloc _) ⟨wr.heap.size,0,none⟩ 1 1 [.string t] hx rfl ?_ ?_ ?_ ?_ ?_ ?_
 ·intro i u hu
  rw [Addr.add_lit,Nat.zero_add,World.cell?_alloc_at _ _ _ _ rfl,← hu]
  simp
 ·intro u hu
  simp only [List.mem_cons,List.not_mem_nil,or_false] at hu
  rw [hu]
  rfl
 ·unfold maxLen;omega
 ·omega
 ·simp;omega
 ·intro v' w2 hown2 hg2 _
  refine h v' w2 ?_ hg2
  rw [scells_append]
  exact hown2
def dgf:Nat→Nat→ByteArray→ByteArray
 | 0,_,o=>o
 | f+1,k,o=>if k=0 then o else dgf f (k / 10) (strOfNums [((48+k % 10:Nat):Int)] ++ o)
theorem dgf_zero (f:Nat) (o:ByteArray):dgf f 0 o=o:=by cases f<;>rfl
theorem dgf_step {f k:Nat} (o:ByteArray) (h:0<k) (hf:k≤f):∃ f',k / 10≤f'∧dgf f k o=dgf f' (k / 10) (strOfNums [((48+k % 10:Nat):Int)] ++ o):=by
 cases f with
 | zero=>omega
 | succ f=>exact ⟨f,by omega,by simp only [dgf];rw [if_neg (by omega)]⟩
def mtx (k:Nat):ByteArray:=⟨#[109]⟩ ++ dgf k k ⟨#[]⟩
set_option maxHeartbeats 100000000 in
theorem markText (k:Nat) (w:World) (hk:0<k) (hk2:k<10000000) :
  Calls Tryz.prog 33 #[.int .i64 k] w fun e w'=>e=.returned (.string (mtx k))∧Below w.heap.size w w':=by
 have d1:¬ ((k:Int)≤0):=by omega
 go_enter Tryz.func33,Tryz.ntmps33
 go_wp2_with fail
 go_loopw [0,3] (fun x o wr=>∃ (j f:Nat) (out:ByteArray),x=.int .i64 j∧o=.string out∧j≤f∧dgf f j out=dgf k k ⟨#[]⟩∧out.size+j≤10000000∧Below w.heap.size w wr) (fun x _ _=>(intOf x).toNat)
 case atStart=>exact ⟨k,k,⟨#[]⟩,rfl,rfl,Nat.le_refl _,rfl,by simp [ByteArray.size];omega,Below.refl _ _⟩
 case round =>
  obtain ⟨j,f,out,rfl,rfl,hf,hd,hs,hb⟩:=hrel
  have hs2:=hb.size
  by_cases h0:0<j
  ·obtain ⟨f',hf',hd'⟩:=dgf_step out h0 hf
   have HD:Hid (dgf f' (j / 10) (strOfNums [((48+j % 10:Nat):Int)] ++ out)=dgf k k ⟨#[]⟩):=hide (hd'.symm.trans hd)
   have hsz:(strOfNums [((48+j % 10:Nat):Int)]).size=1:=strOfNums_size _
   have hcv:(convert 22 9 (.slice (some ⟨wr.heap.size,0,none⟩) 1 1)).run Tryz.prog (wr.alloc (.cells #[.int .u8 (48+(j:Int) % 10)] 5))=.ok (.string (strOfNums [((48+j % 10:Nat):Int)])) (wr.alloc (.cells #[.int .u8 (48+(j:Int) % 10)] 5)):=by
    have h:=conv_own (xs:=[((48+j % 10:Nat):Int)]) (World.ownsRow_lit (base:=wr.heap.size) wr #[.int .u8 ((48+j % 10:Nat):Int)] 1 (by omega) (by decide) rfl)
    rw [show ((48+j % 10:Nat):Int)=48+(j:Int) % 10 by omega] at h ⊢
    exact h
   generalize strOfNums [((48+j % 10:Nat):Int)]=c at *
   have hcat:¬ (9223372036854775807<c.size+out.size):=by omega
   have d2:(0:Int)<(j:Int):=by omega
   clear hd hd'
   go_wp2_with fail
   go_roundw
   case rel=>exact ⟨j / 10,f',c ++ out,by go_num,rfl,hf',uh HD,by rw [ByteArray.size_append];omega,hb.alloc hs2 _⟩
   case measure=>simp [intOf];omega
  ·have h0':j=0:=by omega
   subst h0'
   rw [dgf_zero] at hd
   have hcat:¬ (9223372036854775807<(ByteArray.mk #[109]).size+out.size):=by rw [show (ByteArray.mk #[109]).size=1 from rfl];omega
   have HD:=hide hd
   clear hd
   go_wp2
   go_ret
   exact ⟨by unfold mtx;rw [← uh HD];rfl,hb⟩
set_option maxHeartbeats 1000000 in
theorem eqT (v1 v2:Value) (L:List ByteArray) (w:World) (hn:L.length≤2000000) (h1:HoldsT w v1 L) (h2:HoldsT w v2 L) :
  Calls Tryz.prog 13 #[v1,v2] w fun e w'=>e=.returned (.bool true)∧Below w.heap.size w w':=by
 have HA:Hid (∀ i (hi:i<L.length),(∃ g1,v1.ownBlock=some g1∧(∃ cp,v1=.slice (some ⟨g1,0,none⟩) L.length cp)∧g1<w.heap.size∧w.cell? ⟨g1,i,none⟩=some (.string L[i]))∧∃ g2,(∃ cp,v2=.slice (some ⟨g2,0,none⟩) L.length cp)∧g2<w.heap.size∧w.cell? ⟨g2,i,none⟩=some (.string L[i])):=by
  refine hide fun i hi=>⟨?_,?_⟩
  ·rcases h1 with ⟨_,_,_,e⟩ | ⟨g,cp,cur,e,q1,q2,q3⟩
   ·rw [e] at hi;exact absurd hi (Nat.not_lt_zero _)
   ·exact ⟨g,by rw [e];rfl,⟨cp,e⟩,(Array.getElem?_eq_some_iff.1 q1).1,by rw [cell_of_row _ _ _ _ _ _ q1,q3 i hi];exact scells_get L i _ (List.getElem?_eq_getElem hi)⟩
  ·rcases h2 with ⟨_,_,_,e⟩ | ⟨g,cp,cur,e,q1,q2,q3⟩
   ·rw [e] at hi;exact absurd hi (Nat.not_lt_zero _)
   ·exact ⟨g,⟨cp,e⟩,(Array.getElem?_eq_some_iff.1 q1).1,by rw [cell_of_row _ _ _ _ _ _ q1,q3 i hi];exact scells_get L i _ (List.getElem?_eq_getElem hi)⟩
 obtain ⟨a1,c1,rfl⟩:=h1.form
 obtain ⟨a2,c2,rfl⟩:=h2.form
 obtain ⟨n,hL⟩:∃ n,L.length=n:=⟨_,rfl⟩
 rw [hL] at hn ⊢
 clear h1 h2
 go_enter Tryz.func13,Tryz.ntmps13
 go_wp2_with fail
 go_loopw [5] (fun y wr=>∃ (i:Nat),i≤n∧y=.int .i64 i∧Below w.heap.size w wr) (fun y _=>n - (intOf y).toNat)
 case atStart=>exact ⟨0,Nat.zero_le _,rfl,Below.refl _ _⟩
 case round =>
  obtain ⟨i,hi,rfl,hb⟩:=hrel
  by_cases hlt:i<n
  ·have d1:(i:Int)<(n:Int):=by omega
   have d0:(0:Int)≤(i:Int):=by omega
   obtain ⟨⟨g1,_,⟨cp1,e1⟩,hg1,k1⟩,g2,⟨cp2,e2⟩,hg2,k2⟩:=uh HA i (by omega)
   cases e1
   cases e2
   replace k1:=(hb.cell (p:=⟨g1,i,none⟩) hg1).trans k1
   replace k2:=(hb.cell (p:=⟨g2,i,none⟩) hg2).trans k2
   generalize L[i]'(by omega)=t at *
   have HB:=hide hb
   clear hb HA
   go_wp2_with fail
   go_quiet (fail)
   go_wp2_with fail
   go_roundw
   case rel=>exact ⟨i+1,by omega,by go_num,(uh HB).os,(uh HB).tape,(uh HB).output,(uh HB).size,(uh HB).block⟩
   case measure=>simp [intOf];omega
  ·have e:i=n:=by omega
   subst e
   have d1:¬ ((i:Int)<(i:Int)):=by omega
   go_wp2
   go_ret
   exact ⟨rfl,hb⟩
def mtl (k n:Nat):List ByteArray:=(List.range n).map fun i=>mtx (k+i)
theorem mtl_len (k n:Nat):(mtl k n).length=n:=by simp [mtl]
theorem mtl_get (k n i K:Nat) (h:i<n) (hK:k+i=K):(scells (mtl k n))[i]?=some (.string (mtx K)):=by
 subst hK
 exact scells_get _ i _ (by simp [mtl,h])
theorem set_one (cur':Array Value) (L:List Value) (i:Nat) (A:Value) (hi:i<cur'.size) (h1:L[i]?=some A) (ha:∀ j,j<i→cur'[j]?=L[j]?):∀ j,j<i+1→(cur'.setIfInBounds i A)[j]?=L[j]?:=by
 intro j hj
 rw [Array.getElem?_setIfInBounds]
 by_cases e1:i=j
 ·rw [if_pos e1,if_pos hi,← e1,h1]
 ·rw [if_neg e1]
  exact ha j (by omega)
set_option maxHeartbeats 2000000 in
theorem markTs (g cap n k:Nat) (cur:Array Value) (w:World) (hk:0<k) (hn:k+n<9000000) (hc:n≤cur.size) (hg:w.heap[g]?=some (.cells cur 9)) :
  Calls Tryz.prog 15 #[.slice (some ⟨g,0,none⟩) n cap,.int .i64 k] w fun e w'=>e=.returned (.int .i64 ((k+n:Nat):Int)) ∧
   (∃ cur',w'.heap[g]?=some (.cells cur' 9)∧cur'.size=cur.size∧∀ j,j<n→cur'[j]?=(scells (mtl k n))[j]?)∧Nr g w w':=by
 have hgl:g<w.heap.size:=(Array.getElem?_eq_some_iff.1 hg).1
 go_enter Tryz.func15,Tryz.ntmps15
 go_wp2_with fail
 go_loopw [1,5] (fun x y wr=>∃ (i:Nat),i≤n∧y=.int .i64 i∧x=.int .i64 ((k+i:Nat):Int)∧(∃ cur',wr.heap[g]?=some (.cells cur' 9)∧cur'.size=cur.size∧∀ j,j<i→cur'[j]?=(scells (mtl k n))[j]?)∧Nr g w wr) (fun _ y _=>n - (intOf y).toNat)
 case atStart=>exact ⟨0,Nat.zero_le _,rfl,rfl,⟨cur,hg,rfl,fun j hj=>by omega⟩,Nr.refl _ _⟩
 case round =>
  obtain ⟨i,hi,rfl,rfl,⟨cur',hg',hs',ha'⟩,hnr⟩:=hrel
  by_cases hlt:i<n
  ·have d1:(i:Int)<(n:Int):=by omega
   have hgl':g<wr.heap.size:=Nat.lt_of_lt_of_le hgl hnr.size
   obtain ⟨K,hK⟩:∃ K:Nat,k+i=K:=⟨_,rfl⟩
   rw [hK]
   have HMg:=hide (mtl_get k n i K hlt hK)
   have HKe:Hid ((K:Int)+1=((k+(i+1):Nat):Int)):=hide (by omega)
   have hK9:K<9000000:=by omega
   have HI:Hid (i<cur'.size):=hide (by omega)
   have C:=hide fun v=>markText K v (by omega) (by omega)
   generalize mtx K=M at *
   have HA:=hide ha'
   have HN:=hide hnr
   have HG:=hide hg'
   clear ha' hnr hg' hK
   go_wp2_with fail
   refine (uh C _).mono ?_
   rintro e w2 ⟨rfl,hb2⟩
   have hg2:=(hb2.block g hgl').trans (uh HG)
   have HN2:=hide ((uh HN).of_below hb2)
   obtain ⟨y1,hy1⟩:∃ y,w2.cell? ⟨g,i,none⟩=some y:=⟨cur'[i]'(uh HI),by rw [cell_of_row _ _ _ _ _ _ hg2,Array.getElem?_eq_getElem (uh HI)]⟩
   have hf1:w2.frozen? ⟨g,i,none⟩=false:=frz hg2 _
   have HG2:=hide hg2
   clear hg2 hb2 HG HN
   go_wp2_with fail
   go_roundw
   case rel =>
    refine ⟨i+1,by omega,by go_num,by rw [uh HKe],⟨_,heap_setCell_same _ _ i _ _ _ (uh HG2),by simp [hs'],?_⟩,(uh HN2).setCell i _⟩
    exact set_one cur' _ i _ (uh HI) (uh HMg) (uh HA)
   case measure=>simp [intOf];omega
  ·have e:i=n:=by omega
   subst e
   have d1:¬ ((i:Int)<(i:Int)):=by omega
   go_wp2
   go_ret
   exact ⟨rfl,⟨cur',hg',hs',ha'⟩,hnr⟩
set_option maxHeartbeats 2000000 in
theorem heldTs (g cap n k:Nat) (cur:Array Value) (w:World) (hk:0<k) (hn:k+n<9000000) (hg:w.heap[g]?=some (.cells cur 9)) (ha:∀ j,j<n→cur[j]?=(scells (mtl k n))[j]?) :
  Calls Tryz.prog 34 #[.slice (some ⟨g,0,none⟩) n cap,.int .i64 k] w fun e w'=>e=.returned (.int .i64 ((k+n:Nat):Int))∧Below w.heap.size w w':=by
 have hgl:g<w.heap.size:=(Array.getElem?_eq_some_iff.1 hg).1
 go_enter Tryz.func34,Tryz.ntmps34
 go_wp2_with fail
 go_loopw [1,5] (fun x y wr=>∃ (i:Nat),i≤n∧y=.int .i64 i∧x=.int .i64 ((k+i:Nat):Int)∧Below w.heap.size w wr) (fun _ y _=>n - (intOf y).toNat)
 case atStart=>exact ⟨0,Nat.zero_le _,rfl,rfl,Below.refl _ _⟩
 case round =>
  obtain ⟨i,hi,rfl,rfl,hb⟩:=hrel
  by_cases hlt:i<n
  ·have d1:(i:Int)<(n:Int):=by omega
   have d0:(0:Int)≤(i:Int):=by omega
   have hg':=(hb.block g hgl).trans hg
   obtain ⟨K,hK⟩:∃ K:Nat,k+i=K:=⟨_,rfl⟩
   rw [hK]
   have hMg:=mtl_get k n i K hlt hK
   have HKe:Hid ((K:Int)+1=((k+(i+1):Nat):Int)):=hide (by omega)
   have hK9:K<9000000:=by omega
   have C:=hide fun v=>markText K v (by omega) (by omega)
   have k1:wr.cell? ⟨g,i,none⟩=some (.string (mtx K)):=by rw [cell_of_row _ _ _ _ _ _ hg',ha _ (by omega)];exact hMg
   generalize mtx K=M at *
   have hbs:=hb.size
   have hgr:g<wr.heap.size:=Nat.lt_of_lt_of_le hgl hbs
   clear hK hMg ha hg hg'
   go_wp2_with fail
   go_region_held (fun q=>q.cell? ⟨g,i,none⟩=some (.string M)) (first | go_keep | (show World.cell? _ _=_;rw [hb2.cell (p:=⟨g,i,none⟩) hgr];exact k1)) (first
    | (go_at_call 33;refine (uh C _).mono ?_;rintro e w2 ⟨rfl,hb2⟩))
   all_goals
    go_wp2_with fail
    go_roundw
    case rel=>exact ⟨i+1,by omega,by go_num,by rw [uh HKe],hb.trans (((Below.refl _ _).drew.trans hb2).mono hbs)⟩
    case measure=>simp [intOf];omega
  ·have e:i=n:=by omega
   subst e
   have d1:¬ ((i:Int)<(i:Int)):=by omega
   go_wp2
   go_ret
   exact ⟨rfl,hb⟩
set_option maxHeartbeats 1000000 in
theorem markT0 (ad:Option Addr) (cp k:Nat) (w:World):Calls Tryz.prog 15 #[.slice ad 0 cp,.int .i64 k] w fun e w'=>e=.returned (.int .i64 k)∧w'=w:=by
 go_enter Tryz.func15,Tryz.ntmps15
 go_wp2_with fail
 go_loopw [1,5] (fun x y wr=>x=.int .i64 k∧y=.int .i64 0∧wr=w) (fun _ _ _=>0)
 case atStart=>exact ⟨rfl,rfl,rfl⟩
 case round =>
  obtain ⟨rfl,rfl,rfl⟩:=hrel
  go_wp2
  go_ret
  exact ⟨rfl,rfl⟩
set_option maxHeartbeats 1000000 in
theorem heldT0 (ad:Option Addr) (cp k:Nat) (w:World):Calls Tryz.prog 34 #[.slice ad 0 cp,.int .i64 k] w fun e w'=>e=.returned (.int .i64 k)∧w'=w:=by
 go_enter Tryz.func34,Tryz.ntmps34
 go_wp2_with fail
 go_loopw [1,5] (fun x y wr=>x=.int .i64 k∧y=.int .i64 0∧wr=w) (fun _ _ _=>0)
 case atStart=>exact ⟨rfl,rfl,rfl⟩
 case round =>
  obtain ⟨rfl,rfl,rfl⟩:=hrel
  go_wp2
  go_ret
  exact ⟨rfl,rfl⟩
theorem markTF (v:Value) (L:List ByteArray) (k:Nat) (w:World) (hk:0<k) (hL:k+L.length<9000000) (h:HoldsT w v L) :
  Calls Tryz.prog 15 #[v,.int .i64 k] w fun e w'=>e=.returned (.int .i64 ((k+L.length:Nat):Int))∧HoldsT w' v (mtl k L.length)∧But v.ownBlock w w'∧(L=[]→Below w.heap.size w w'):=by
 by_cases hLe:L=[]
 ·subst hLe
  obtain ⟨ad,cp,rfl⟩:=h.form
  exact (markT0 ad cp k w).mono fun e w' ⟨p1,p2⟩=>⟨p1,Or.inl ⟨ad,cp,rfl,rfl⟩,p2 ▸ But.of_below (Below.refl _ _),fun _=>p2 ▸ Below.refl _ _⟩
 ·rcases h with ⟨ad,cp,rfl,e0⟩ | ⟨g,cp,cur,rfl,h2,h3,h4⟩
  ·exact absurd e0 hLe
  ·refine (markTs g cp L.length k cur w hk hL h3 h2).mono fun e w' ⟨p1,⟨cur',q1,q2,q3⟩,p3⟩=>⟨p1,Or.inr ⟨g,cp,cur',by rw [mtl_len],q1,by rw [mtl_len];omega,by rw [mtl_len];exact q3⟩,⟨p3.os,p3.tape,p3.output,p3.size,fun b hb hne=>p3.block b hb fun e=>hne (by rw [e];rfl)⟩,fun h=>absurd h hLe⟩
theorem heldTF (v:Value) (n k:Nat) (w:World) (hk:0<k) (hn:k+n<9000000) (h:HoldsT w v (mtl k n)) :
  Calls Tryz.prog 34 #[v,.int .i64 k] w fun e w'=>e=.returned (.int .i64 ((k+n:Nat):Int))∧Below w.heap.size w w':=by
 rcases h with ⟨ad,cp,rfl,e0⟩ | ⟨g,cp,cur,rfl,h2,h3,h4⟩
 ·have hn0:n=0:=by rw [← mtl_len k n,e0];rfl
  subst hn0
  exact (heldT0 ad cp k w).mono fun e w' ⟨p1,p2⟩=>⟨p1,p2 ▸ Below.refl _ _⟩
 ·rw [mtl_len] at h4 ⊢
  exact heldTs g cp n k cur w hk hn h2 h4
theorem holdsT_but {u v:Value} {L:List ByteArray} {W W':World} (h:HoldsT W v L) (hb:But u.ownBlock W W') (n:∀ g,v.ownBlock=some g→u.ownBlock≠some g):HoldsT W' v L :=
 h.imp id fun ⟨g,cp,cur,e1,e2,e3⟩=>⟨g,cp,cur,e1,(hb.block g (Array.getElem?_eq_some_iff.1 e2).1 (n g (by rw [e1];rfl))).trans e2,e3⟩
end Go.Proofs.YtkcghhkkepndnaaGreatDoor
