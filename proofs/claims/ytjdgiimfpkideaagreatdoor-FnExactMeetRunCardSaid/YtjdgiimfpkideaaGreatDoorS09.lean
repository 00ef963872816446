/- LaidEt PkQ MtW EndTo EndMk Judge Verd VerdOf EndOut WkM EndNw EndOm EndSz -/
import Derived.Test.YtjdgiimfpkideaaGreatDoorS02
import Derived.LaidHandle
import Derived.Test.YtjdgiimfpkideaaGreatDoorS05
import Derived.Test.YtjdgiimfpkideaaGreatDoorCln
import Derived.Great.Walk
set_option maxHeartbeats 4000000
set_option maxRecDepth 100000
namespace Go.Proofs.YtjdgiimfpkideaaGreatDoor
open Go.Proofs.Tryz
open Go.ChangeShapes Go.WideShapes Go.ChangeAt Go.RowKit
theorem vN : prog.globalNamed "errors.errorType" = some 4 := by kernel_rfl
theorem vO : (prog.cutTypes.find? (·.1 == "internal/reflectlite.rtype")).map (·.2) = some 272 := by kernel_rfl
theorem rU:((List.range 321).filter fun t=>prog.rowNamed t [101,114,114,111,114])=[201]:=by kernel_rfl
theorem mz:prog.types.size=321:=by kernel_rfl
def ke : List (String × DataW Unit) := [("errors.errorType", Rows.laid_errors_errorType)]
theorem vP {W:World} (h:laidMetH prog ke W):Et W:=by
 have h':laidMet prog [] W∧handlesMet prog ke W:=h;obtain ⟨name,u,ty,e1,e2,e3,e4,e5⟩:=h'.2 _ (List.mem_singleton.2 rfl);have en:name=[101,114,114,111,114]:=(Option.some.inj e1).symm;subst en;obtain rfl:=Option.some.inj (vO.symm.trans e2);have hm:ty ∈ (List.range 321).filter fun t=>prog.rowNamed t [101,114,114,111,114]:=List.mem_filter.2 ⟨List.mem_range.2 (by rw [← mz];exact e3),e4⟩
 rw [rU] at hm;obtain rfl:=List.mem_singleton.1 hm;have hh:typeHandle prog 201=.pointer (some ⟨6,201,none⟩):=by kernel_rfl
 rw [hh] at e5;have:=World.var?_cell vN e5 0
 exact this
noncomputable def np (os:Os):World :=
 let w0:=World.holding prog os ⟨#[],#[],[]⟩
 { w0 with heap:=w0.heap.modify 4 fun
   | .cells _ t frozen=>.cells #[.iface 272 (.agg #[.pointer (some ⟨6,201,none⟩)])] t frozen
   | o=>o }
end Go.Proofs.YtjdgiimfpkideaaGreatDoor
namespace Go.Proofs.YtjdgiimfpkideaaGreatDoor
open Go.RowKit Go.Proofs.Tryz
def HoldsK (W:World) (base:Nat) (v:Value) (P:List Op.Pk):Prop :=
 (v=.slice none 0 0∧P=[])∨∃ g o cp cur,v=.slice (some ⟨g,o,none⟩) P.length cp∧W.heap[g]?=some (.cells cur 85)∧base≤g∧P.length≤cp∧o+cp*3≤cur.size∧∀ j,j<P.length*3→cur[o+j]?=(ae P)[j]?
theorem HoldsK.form {W:World} {base:Nat} {v:Value} {P:List Op.Pk} (h:HoldsK W base v P):∃ a c,v=.slice a P.length c:=by
 rcases h with ⟨rfl,rfl⟩ | ⟨g,o,cp,cur,rfl,_⟩
 ·exact ⟨_,_,rfl⟩
 ·exact ⟨_,_,rfl⟩
theorem HoldsK.keep {W W':World} {base:Nat} {v:Value} {P:List Op.Pk} (h:HoldsK W base v P) (k:∀ g cur,v.ownBlock=some g→base≤g→W.heap[g]?=some (.cells cur 85)→W'.heap[g]?=W.heap[g]?):HoldsK W' base v P :=
 h.imp id fun ⟨g,o,cp,cur,e,h2,h3,h4⟩=>⟨g,o,cp,cur,e,(k g cur (by rw [e];rfl) h3 h2).trans h2,h3,h4⟩
theorem HoldsK.own {W:World} {base:Nat} {v:Value} {P:List Op.Pk} (h:W.ownsRow base 85 3 v P.length (ae P)):HoldsK W base v P:=by
 rcases h.2 with ⟨h1,h2⟩ | ⟨g,cap,cur,h1,hb,h3,h4,_,h6,h7⟩
 ·exact Or.inl ⟨h1,List.eq_nil_of_length_eq_zero h2⟩
 ·refine Or.inr ⟨g,0,cap,cur,h1,h3,hb,h4,by omega,fun j hj=>?_⟩;rw [Nat.zero_add,← h7,List.getElem?_take,if_pos hj,Array.getElem?_toList]
theorem HoldsK.first {W:World} {base:Nat} {v:Value} {p:Op.Pk} {P:List Op.Pk} (h:HoldsK W base v (p :: P)):∃ g o cp,v=.slice (some ⟨g,o,none⟩) (P.length+1) (cp+1)∧W.cell? ⟨g,o,none⟩=some (.int .i64 p.code)∧W.cell? ⟨g,o+1,none⟩=some (.int .i64 p.id)∧W.cell? ⟨g,o+2,none⟩=some (.string p.data)∧HoldsK W base (.slice (some ⟨g,o+3,none⟩) P.length cp) P∧(cp=0→HoldsK W base (.slice (some ⟨g,o,none⟩) P.length 0) P):=by
 rcases h with ⟨_,e⟩ | ⟨g,o,cp,cur,rfl,h2,h3,h4,h5,h6⟩
 ·cases e
 ·rw [List.length_cons] at h4 h6 ⊢;obtain ⟨k,rfl⟩:∃ k,cp=k+1:=⟨cp - 1,by omega⟩;have e:ae (p :: P)=.int .i64 p.code :: .int .i64 p.id :: .string p.data :: ae P:=rfl;refine ⟨g,o,k,rfl,?_,?_,?_,Or.inr ⟨g,o+3,k,cur,rfl,h2,h3,by omega,by omega,fun j hj=>?_⟩,fun hk=>?_⟩
  ·rw [cr h2];exact h6 0 (by omega)
  ·rw [cr h2];exact h6 1 (by omega)
  ·rw [cr h2];exact h6 2 (by omega)
  ·have:=h6 (j+3) (by omega)
   rw [show o+3+j=o+(j+3) by omega,this,e];rfl
  ·have:P=[]:=List.eq_nil_of_length_eq_zero (by omega)
   subst this;exact Or.inr ⟨g,o,0,cur,rfl,h2,h3,zD _,by omega,fun j hj=>absurd hj (by simp)⟩
theorem cL (F:List Op.Pk):∀ u ∈ ae F,u.oneCell'=true:=by
 intro u hu;simp only [ae,List.mem_flatMap,List.mem_cons,List.not_mem_nil,or_false] at hu;obtain ⟨f,_,rfl | rfl | rfl⟩:=hu<;>rfl
theorem fV {T:TypeId} {g:Nat}:∀ (vs:List Value) (o:Nat) (W:World) (cur:Array Value),W.heap[g]?=some (.cells cur T)→o+vs.length≤cur.size →
  ∃ cur',(W.setCells g o vs).heap[g]?=some (.cells cur' T)∧cur'.size=cur.size∧(∀ k,k<o→cur'[k]?=cur[k]?)∧∀ j,j<vs.length→cur'[o+j]?=vs[j]?
 | [],_,_,cur,h,_=>⟨cur,h,rfl,fun _ _=>rfl,fun j hj=>absurd hj (by simp)⟩
 | v :: vs,o,W,cur,h,hl=>by
  rw [List.length_cons] at hl;obtain ⟨cur',h1,h2,h3,h4⟩:=fV vs (o+1) (W.setCell ⟨g,o,none⟩ v) (cur.setIfInBounds o v) (zH _ _ o _ _ v h) (by rw [Array.size_setIfInBounds];omega);refine ⟨cur',h1,by rw [h2,Array.size_setIfInBounds],fun k hk=>?_,fun j hj=>?_⟩
  ·rw [h3 k (by omega),Array.getElem?_setIfInBounds,if_neg (by omega)]
  ·cases j with
   | zero =>
    rw [Nat.add_zero,h3 o (by omega),Array.getElem?_setIfInBounds,if_pos rfl,if_pos (by omega)];rfl
   | succ j =>
    rw [List.length_cons] at hj;rw [show o+(j+1)=o+1+j by omega,h4 j (by omega)];rfl
theorem cM {n g:Nat} {a:World} (hg:n≤g):∀ (vs:List Value) (o:Nat) (W:World),Below n a W→Below n a (W.setCells g o vs)
 | [],_,_,h=>h
 | v :: vs,o,W,h=>cM hg vs (o+1) (W.setCell ⟨g,o,none⟩ v) (h.setCell (p:=⟨g,o,none⟩) hg v)
theorem bu {g k:Nat} (hk:k≠g):∀ (vs:List Value) (o:Nat) (W:World),(W.setCells g o vs).heap[k]?=W.heap[k]?
 | [],_,_=>rfl
 | v :: vs,o,W=>(bu hk vs (o+1) (W.setCell ⟨g,o,none⟩ v)).trans (Below.heap_setCell _ ⟨g,o,none⟩ _ _ hk)
theorem dW {W:World} (ty:TypeId) (ad ad':Option Addr) (n cap c':Nat) (hc:n≤cap):(Builtin.append_ #[60,60] ty #[.slice ad n cap,.slice ad' 0 c']).run prog W=.ok (.slice ad n cap) W:=by
 obtain ⟨i,hi,hz,hsz,hby⟩:=iT;cases ad<;>cases ad'<;>simp [Builtin.append_,run_underlying underlying60,sizeOf,typeInfo,hi,Builtin.lenOf,Builtin.firstCells,loadCells,loadCellsFrom,storeCells,hc]
theorem HoldsP.news {W:World} {F:List Op.Pk} {g cs:Nat} {cur:Array Value} (h1:W.heap[g]?=some (.cells cur 85)) (h2:∀ j,j<F.length*3→cur[j]?=(ae F)[j]?) (_:cs=cs):∀ j u,(ae F)[j]?=some u→W.cell? ((⟨g,0,none⟩:Addr).add j)=some u:=fun j u hu=>by
 have hj:j<F.length*3:=by have:=(List.getElem?_eq_some_iff.1 hu).1;rw [aF] at this;exact this
 rw [Addr.add_lit,Nat.zero_add,cr h1,h2 j hj];exact hu
theorem eX {W:World} {base:Nat} {v s:Value} {P F:List Op.Pk} (ty:TypeId) (hv:HoldsK W base v P) (hs:HoldsP W s F) (hP:P.length≤1000000) (hF:F.length≤1000000) (hbase:base≤W.heap.size) :
  ∃ v' W',(Builtin.append_ #[60,60] ty #[v,s]).run prog W=.ok v' W'∧HoldsK W' base v' (P ++ F)∧W.grownBy W' v.ownBlock∧∀ g,v'.ownBlock=some g→v.ownBlock=some g∨W.heap.size≤g:=by
 obtain ⟨i,hi,hz,hsz,hby⟩:=iT;rcases hs with ⟨ad,cs,rfl,rfl⟩ | ⟨g2,cs,cu,rfl,s2,s3,s4⟩
 ·rw [List.append_nil];rcases hv with ⟨rfl,rfl⟩ | ⟨g,o,cp,cur,rfl,h2,h3,h4,h5,h6⟩
  ·exact ⟨_,_,dW ty none ad 0 0 cs (zD _),Or.inl ⟨rfl,rfl⟩,⟨rfl,rfl,rfl,zD _,fun _ _ _=>rfl⟩,fun _ h=>Or.inl h⟩
  ·exact ⟨_,_,dW ty _ ad _ _ cs h4,Or.inr ⟨g,o,cp,cur,rfl,h2,h3,h4,h5,h6⟩,⟨rfl,rfl,rfl,zD _,fun _ _ _=>rfl⟩,fun _ h=>Or.inl h⟩
 ·have hnews:=HoldsP.news (cs:=cs) s2 s4 rfl;have grow:∀ (W':World) (v':Value),W'.ownsRow W.heap.size 85 3 v' (P.length+F.length) (ae P ++ ae F)→HoldsK W' base v' (P ++ F)∧∀ g,v'.ownBlock=some g→v.ownBlock=some g∨W.heap.size≤g:=fun W' v' r1=>by
   have ho:HoldsK W' W.heap.size v' (P ++ F):=HoldsK.own (by rw [List.length_append,aR];exact r1);refine ⟨ho.imp id fun ⟨g,o,cp,cur,e,h2,h3,h4⟩=>⟨g,o,cp,cur,e,h2,zE hbase h3,h4⟩,fun g hg=>Or.inr ?_⟩;rcases ho with ⟨e,_⟩ | ⟨g',o,cp,cur,e,h2,h3,_⟩
   ·rw [e] at hg;cases hg
   ·rw [e] at hg;cases hg;exact h3
  rcases hv with ⟨rfl,rfl⟩ | ⟨g,o,cp,cur,rfl,h2,h3,h4,h5,h6⟩
  ·obtain ⟨v',W',h1,r1,r2,_⟩:=run_append_own (P:=prog) W W.heap.size 60 ty 85 i _ 3 32 underlying60 hi hz hsz hby rfl (by decide) (.slice none 0 0) 0 (ae []) (World.ownsRow_nil _ _ _ _) ⟨g2,0,none⟩ F.length cs (ae F) (aF F) hnews (cL F) (by unfold maxLen;omega) (by omega) (zD _);have:=grow W' v' (by simpa using r1)
   exact ⟨v',W',h1,this.1,r2,this.2⟩
  ·by_cases hr:P.length+F.length≤cp
   ·have hcell:∀ j,j<(ae F).length→(W.cell? ⟨g,o+P.length*i.size+j,none⟩).isSome=true∧W.frozen? ⟨g,o+P.length*i.size+j,none⟩=false:=by
     intro j hj;rw [aF] at hj;have hc:o+P.length*3+j<cur.size:=by omega
     rw [hsz,cr h2,Array.getElem?_eq_getElem hc];exact ⟨rfl,aX h2 _⟩
    have hrun:=run_append_room_cells (P:=prog) W 60 ty 85 i underlying60 hi g o P.length cp ⟨g2,0,none⟩ F.length cs (ae F) (by rw [hsz,aF]) hnews (cL F) hr (fun j hj=>(hcell j hj).1) (fun j hj=>(hcell j hj).2);rw [hsz] at hrun;obtain ⟨cur',k1,k2,k3,k4⟩:=fV (ae F) (o+P.length*3) W cur h2 (by rw [aF];omega);refine ⟨_,_,hrun,Or.inr ⟨g,o,cp,cur',by rw [List.length_append],k1,h3,by rw [List.length_append];exact hr,by rw [k2];exact h5,fun j hj=>?_⟩,?_,fun _ h=>Or.inl h⟩
    ·rw [List.length_append] at hj;rw [aR];by_cases ej:j<P.length*3
     ·rw [k3 _ (by omega),h6 j ej,List.getElem?_append_left (by rw [aF];exact ej)]
     ·have e5:o+j=o+P.length*3+(j - P.length*3):=by omega
      rw [List.getElem?_append_right (by rw [aF];omega),aF,e5];exact k4 (j - P.length*3) (by rw [aF];omega)
    ·have hb:=cM (n:=0) (g:=g) (a:=W) (Nat.zero_le _) (ae F) (o+P.length*3) W (zC 0 W);exact ⟨hb.os,hb.tape,hb.output,hb.size,fun k hkl hne=>bu (fun e=>hne (by rw [e];rfl)) (ae F) _ _⟩
   ·obtain ⟨v',W',h1,r1,r2⟩:=run_append_arg_grows (P:=prog) W 60 ty 85 i _ 3 32 underlying60 hi hz hsz hby rfl (by decide) ⟨g,o,none⟩ P.length cp (ae P) (aF P) (fun j u hu=>by
      have hj:j<P.length*3:=by have:=(List.getElem?_eq_some_iff.1 hu).1;rw [aF] at this;exact this
      rw [Addr.add_lit,cr h2,h6 j hj];exact hu) ⟨g2,0,none⟩ F.length cs (ae F) (aF F) hnews (by omega) (by unfold maxLen;omega) (by omega)
    have:=grow W' v' r1
    exact ⟨v',W',h1,this.1,⟨r2.os,r2.tape,r2.output,r2.size,fun k hk _=>r2.block k hk (by simp)⟩,this.2⟩
theorem pw {W:World} {ops:Array Oper} {rest:List Oper} {o:Oper} {a:Act} {Q:Exit→Act→World→Prop} (hgd:o.guard=none) (s x:Operand)
  (ho:o.op=.call { callee:=.builtin .append,args:=#[s,x],argTypes:=#[60,60] })
  (base:Nat) (v sv:Value) (P F:List Op.Pk) (hs:a.eval s=v) (hx:a.eval x=sv) (hv:HoldsK W base v P) (hsv:HoldsP W sv F) (hP:P.length≤1000000) (hF:F.length≤1000000) (hbase:base≤W.heap.size)
  (h:∀ v' w',HoldsK w' base v' (P ++ F)→W.grownBy w' v.ownBlock→(∀ g,v'.ownBlock=some g→v.ownBlock=some g∨W.heap.size≤g)→wpList prog ops Q rest (a.put o.dst v') w'):wpList prog ops Q (o :: rest) a W:=by
 refine wpList_plain hgd fun K hK=>?_
 obtain ⟨v',w',hr,h2,h3,h4⟩:=eX (W:=W) o.type hv hsv hP hF hbase;unfold Oper.wp execOp;simp only [ho,resolve,invoke,builtin,Sem.run_bind,Sem.run_pure,Result.andThen_ok,List.map_toArray,List.map_cons,List.map_nil,hs,hx,hr];exact hK _ _ (h v' w' h2 h3 h4)
theorem HoldsK.fst {W:World} {base:Nat} {v:Value} {p:Op.Pk} {P:List Op.Pk} (h:HoldsK W base v (p :: P)):∃ g o cp cur,v=.slice (some ⟨g,o,none⟩) (P.length+1) (cp+1)∧W.heap[g]?=some (.cells cur 85)∧cur[o]?=some (.int .i64 p.code)∧cur[o+1]?=some (.int .i64 p.id)∧cur[o+2]?=some (.string p.data):=by
 rcases h with ⟨_,e⟩ | ⟨g,o,cp,cur,rfl,h2,h3,h4,h5,h6⟩
 ·cases e
 ·rw [List.length_cons] at h4 h6 ⊢;obtain ⟨k,rfl⟩:∃ k,cp=k+1:=⟨cp - 1,by omega⟩;exact ⟨g,o,k,cur,rfl,h2,h6 0 (by omega),h6 1 (by omega),h6 2 (by omega)⟩
theorem fp:prog.elem 60=85:=by kernel_rfl
theorem kg (g o n cp:Nat):∃ b:Addr,(0<cp→b=⟨g,o+3,none⟩)∧(b=⟨g,o+3,none⟩∨b=⟨g,o,none⟩)∧∀ z:World,(Instr.slice 60 (.slice (some ⟨g,o,none⟩) (n+1) (cp+1)) (some (.int .i64 1)) none none).run prog z=.ok (.slice (some b) n cp) z:=by
 refine ⟨if cp+1=1 then ⟨g,o,none⟩ else ⟨g,o+3,none⟩,fun h=>if_neg (by omega),?_,fun z=>?_⟩
 ·split
  ·exact Or.inr rfl
  ·exact Or.inl rfl
 ·have hs:=Tryz.sizeOf85 z;rw [run_slice_l (P:=prog) (w:=z) 60 (some ⟨g,o,none⟩) (n+1) (cp+1) (by rw [fp];exact underlying60) .i64 1 (by omega) (by omega),fp,hs];simp [Result.andThen,sliced];split<;>rfl
theorem HoldsK.tail {W:World} {base g o n cp:Nat} {Q:List Op.Pk} {b:Addr} (h:HoldsK W base (.slice (some ⟨g,o,none⟩) (n+1) (cp+1)) Q) (hb:0<cp→b=⟨g,o+3,none⟩) (hb2:b=⟨g,o+3,none⟩∨b=⟨g,o,none⟩):∃ p P,Q=p :: P∧P.length=n∧HoldsK W base (.slice (some b) n cp) P:=by
 obtain ⟨a,c,e⟩:=h.form;injection e with _ e _;match Q,h,e with
 | [],_,e=>simp at e
 | p :: P,h,e =>
  rw [List.length_cons] at e;have e':P.length=n:=by omega
  subst e';obtain ⟨g',o',cp',e1,_,_,_,h1,h2⟩:=h.first;injection e1 with e1 _ e2;injection e1 with e1;injection e1 with e1 e3 _;have e4:cp=cp':=by omega
  subst e1 e3 e4;refine ⟨p,P,rfl,rfl,?_⟩;by_cases hc:0<cp
  ·rw [hb hc];exact h1
  ·have hc0:cp=0:=by omega
   subst hc0;rcases hb2 with rfl | rfl
   ·exact h1
   ·exact h2 rfl
end Go.Proofs.YtjdgiimfpkideaaGreatDoor
namespace Go.Proofs.YtjdgiimfpkideaaGreatDoor
open Go.RowKit Go.Proofs.Tryz
theorem cH {B:Nat} {T:TypeId}:∀ (Y vs X Z:List Value) (W:World),W.heap[B]?=some (.cells (X ++ Y ++ Z).toArray T)→vs.length=Y.length→(W.setCells B X.length vs).heap[B]?=some (.cells (X ++ vs ++ Z).toArray T)
 | [],vs,X,Z,W,h,e=>by
  have:=List.eq_nil_of_length_eq_zero e
  subst this;exact h
 | y :: Y,[],X,Z,W,h,e=>by simp at e
 | y :: Y,v :: vs,X,Z,W,h,e=>by
  have h1:=zH _ _ X.length _ _ v h;have h2:(X ++ y :: Y ++ Z).toArray.setIfInBounds X.length v=((X ++ [v]) ++ Y ++ Z).toArray:=by
   simp
  rw [h2] at h1;have h3:=cH Y vs (X ++ [v]) Z _ h1 (by simpa using e);rw [List.length_append,List.length_singleton] at h3;rw [show X ++ v :: vs ++ Z=X ++ [v] ++ vs ++ Z by simp];exact h3
theorem aS {W:World} {B:Nat} {X Y Z:List Value} {T:TypeId} (h:W.heap[B]?=some (.cells (X ++ Y ++ Z).toArray T)):W.rangeAt B X.length Y:=fun j v hj=>by
 rw [cr h];have:=(List.getElem?_eq_some_iff.1 hj).1
 rw [List.getElem?_toArray,List.append_assoc,List.getElem?_append_right (by omega),List.getElem?_append_left (by omega),Nat.add_sub_cancel_left];exact hj
theorem bI {W:World} {B:Nat} {X Z:List Value} {v:Value} {T:TypeId} (h:W.heap[B]?=some (.cells (X ++ [v] ++ Z).toArray T)):W.cell? ⟨B,X.length,none⟩=some v:=aS h 0 v rfl
structure Fr (B:Nat) (v v':Value) (W W':World):Prop where
 os:W'.os=W.os
 tape:W'.tape=W.tape
 output:W'.output=W.output
 size:W.heap.size≤W'.heap.size
 same:∀ k,k<W.heap.size→k≠B→v.ownBlock≠some k→W'.heap[k]?=W.heap[k]?
 own:∀ g,v'.ownBlock=some g→v.ownBlock=some g∨W.heap.size≤g
theorem Fr.trans {B:Nat} {v v' v'':Value} {W W' W'':World} (h:Fr B v v' W W') (k:Fr B v' v'' W' W''):Fr B v v'' W W'' :=
 ⟨k.os.trans h.os,k.tape.trans h.tape,k.output.trans h.output,zE h.size k.size,fun i hi h1 h2=>(k.same i (Nat.lt_of_lt_of_le hi h.size) h1 fun e=>(h.own i e).elim (fun e=>h2 e) (fun e=>by omega)).trans (h.same i hi h1 h2),
  fun g hg=>(k.own g hg).elim (h.own g) (fun e=>Or.inr (zE h.size e))⟩
theorem Fr.of_below {B:Nat} {v:Value} {W W':World} (h:Below W.heap.size W W'):Fr B v v W W' :=
 ⟨h.os,h.tape,h.output,h.size,fun k hk _ _=>h.block k hk,fun _ hg=>Or.inl hg⟩
theorem Fr.refl (B:Nat) (v:Value) (W:World):Fr B v v W W:=Fr.of_below (zC _ _)
theorem Fr.grown {B:Nat} {v v':Value} {W W':World} (hg:W.grownBy W' v.ownBlock) (ho:∀ g,v'.ownBlock=some g→v.ownBlock=some g∨W.heap.size≤g):Fr B v v' W W' :=
 ⟨hg.os,hg.tape,hg.output,hg.size,fun k hk _ h2=>hg.block k hk (fun e=>h2 e.symm),ho⟩
theorem Fr.cells {B:Nat} (v v':Value) (W:World) (ho:∀ g,v'.ownBlock=some g→v.ownBlock=some g∨W.heap.size≤g) (o:Nat) (vs:List Value):Fr B v v' W (W.setCells B o vs):=by
 have hb:=cM (n:=0) (g:=B) (a:=W) (Nat.zero_le _) vs o W (zC 0 W);exact ⟨hb.os,hb.tape,hb.output,hb.size,fun k _ h1 _=>bu h1 vs o W,ho⟩
structure Wr (base:Nat) (T:TypeId) (W:World) (B:Nat) (X Z:List Value) (v:Value) (L:List Op.Pk):Prop where
 row:W.heap[B]?=some (.cells (X ++ [v] ++ Z).toArray T)
 hk:HoldsK W base v L
 le:L.length≤40
 bs:base≤W.heap.size
 nT:T≠85
section
variable {base:Nat} {T:TypeId} {W W':World} {B:Nat} {X Z:List Value} {v:Value} {L:List Op.Pk}
theorem Wr.ownB (h:Wr base T W B X Z v L) (g:Nat) (hg:v.ownBlock=some g):g≠B∧base≤g∧g<W.heap.size∧∃ cur,W.heap[g]?=some (.cells cur 85):=by
 rcases h.hk with ⟨rfl,_⟩ | ⟨g',o,cp,cur,rfl,h2,h3,_⟩
 ·cases hg
 ·cases hg;refine ⟨fun (e:g'=B)=>?_,h3,(ge.1 h2).1,cur,h2⟩;rw [e,h.row] at h2;injection h2 with h2;injection h2 with _ h2;exact h.nT h2
theorem Wr.lt (h:Wr base T W B X Z v L):B<W.heap.size:=(ge.1 h.row).1
theorem Wr.below (h:Wr base T W B X Z v L) (hb:Below W.heap.size W W'):Wr base T W' B X Z v L :=
 ⟨(hb.block B h.lt).trans h.row,h.hk.keep fun g _ hg _ _=>hb.block g (h.ownB g hg).2.2.1,h.le,zE h.bs hb.size,h.nT⟩
theorem Wr.set (h:Wr base T W B X Z v L) {v':Value} {L':List Op.Pk} (hk:HoldsK W base v' L') (le:L'.length≤40):Wr base T (W.setCell ⟨B,X.length,none⟩ v') B X Z v' L':=by
 have h1:=cH [v] [v'] X Z W h.row rfl;refine ⟨h1,hk.keep fun g cur hg _ h2=>heap_setCell_other _ _ _ _ (fun e=>?_),le,zE h.bs (((zC 0 W).setCell (p:=⟨B,X.length,none⟩) (Nat.zero_le _) _).size),h.nT⟩;have e':g=B:=e;rw [e',h.row] at h2;injection h2 with h2;injection h2 with _ h2;exact h.nT h2
end
end Go.Proofs.YtjdgiimfpkideaaGreatDoor
namespace Go.Proofs.YtjdgiimfpkideaaGreatDoor
open Go.RowKit Go.Proofs.Tryz
structure HH (v1 v2:Value) (F1 F2:List Op.Opt) (O R:Nat) (q:World):Prop where
 h1:HoldsO q v1 F1
 h2:HoldsO q v2 F2
 n1:∀ g,v1.ownBlock=some g→g≠O∧g≠R
 n2:∀ g,v2.ownBlock=some g→g≠O∧g≠R
theorem HoldsO.other {w w':World} {v:Value} {F:List Op.Opt} (h:HoldsO w v F) (hw:∀ g,v.ownBlock=some g→w'.heap[g]?=w.heap[g]?):HoldsO w' v F:=by
 rcases h with ⟨ad,cp,e,e0⟩ | ⟨g,cp,cur,e,q1,q2⟩
 ·exact Or.inl ⟨ad,cp,e,e0⟩
 ·exact Or.inr ⟨g,cp,cur,e,(hw g (by rw [e];rfl)).trans q1,q2⟩
theorem HoldsO.lt {w:World} {v:Value} {F:List Op.Opt} (h:HoldsO w v F) (hF:F≠[]) (g:Nat) (hg:v.ownBlock=some g):g<w.heap.size:=by
 rcases h with ⟨_,_,_,e⟩ | ⟨g',cp,cur,e,q1,_⟩
 ·exact absurd e hF
 ·rw [e] at hg;cases hg;exact (ge.1 q1).1
theorem HH.set {v1 v2:Value} {F1 F2:List Op.Opt} {O R:Nat} {q:World} (h:HH v1 v2 F1 F2 O R q) (i:Nat) (x:Value):HH v1 v2 F1 F2 O R (q.setCell ⟨O,i,none⟩ x) :=
 ⟨h.h1.other fun g hg=>Below.heap_setCell _ _ _ _ (h.n1 g hg).1,h.h2.other fun g hg=>Below.heap_setCell _ _ _ _ (h.n2 g hg).1,h.n1,h.n2⟩
theorem HH.step {v1 v2:Value} {F1 F2:List Op.Opt} {O R:Nat} {q q':World} (h:HH v1 v2 F1 F2 O R q) (hb:Below q.heap.size q q'):HH v1 v2 F1 F2 O R q' :=
 ⟨h.h1.below hb rfl,h.h2.below hb rfl,h.n1,h.n2⟩
theorem HH.row {v1 v2:Value} {F1 F2:List Op.Opt} {O R:Nat} {q:World} (h:HH v1 v2 F1 F2 O R q) (cs:Array Value):HH v1 v2 F1 F2 O R (q.setRow R cs) :=
 ⟨h.h1.other fun g hg=>setRow_other _ _ _ _ (h.n1 g hg).2,h.h2.other fun g hg=>setRow_other _ _ _ _ (h.n2 g hg).2,h.n1,h.n2⟩
theorem aL:(prog.info? 32).map (·.size)=some 30:=by kernel_rfl
theorem ja {W:World} {E:Nat} {cs:Array Value} (h:W.heap[E]?=some (.cells cs 32)) (hs:cs.size=30:=by rfl):(loadVar 32 ⟨E,0,none⟩).run prog W=.ok (.agg cs) W :=
 run_loadVar_row (P:=prog) _ _ 32 32 cs (0,0) _ h underlying32 rfl (by rw [hs];exact aL)
theorem am {B g:Nat} {w0 w:World} (hb:Below B w0 w) (h:B≤g) (cs:Array Value):Below B w0 (w.setRow g cs) :=
 ⟨hb.os,hb.tape,hb.output,by rw [size_setRow];exact hb.size,fun b hlt=>(setRow_other _ _ _ _ (by omega)).trans (hb.block b hlt)⟩
theorem kh (w:World) (a b c:Obj):(((w.alloc a).alloc b).alloc c).heap[w.heap.size]?=some a∧(((w.alloc a).alloc b).alloc c).heap[w.heap.size+1]?=some b∧(((w.alloc a).alloc b).alloc c).heap[w.heap.size+1+1]?=some c∧Below w.heap.size w (((w.alloc a).alloc b).alloc c):=by
 have s1:(w.alloc a).heap.size=w.heap.size+1:=by simp
 have s2:((w.alloc a).alloc b).heap.size=w.heap.size+1+1:=by simp
 have e2:=zF (w.alloc a) b;have e3:=zF ((w.alloc a).alloc b) c;rw [s1] at e2;rw [s2] at e3;refine ⟨?_,?_,e3,(((zC _ _).alloc (zD _) _).alloc (by omega) _).alloc (by omega) _⟩
 ·rw [zG _ _ _ (by omega),zG _ _ _ (by omega)];exact zF w a
 ·rw [zG _ _ _ (by omega)];exact e2
end Go.Proofs.YtjdgiimfpkideaaGreatDoor
namespace Go.Proofs.YtjdgiimfpkideaaGreatDoor
open Go.RowKit Go.Proofs.Tryz
theorem lf (v:Value) (F:List Op.Opt) (k:Nat) (w:World) (hk:0<k) (hF:k+2*F.length<9000000) (h:HoldsO w v F) :
  Calls prog 59 #[v,.int .i64 k] w fun e w'=>e=.returned (.int .i64 ((k+2*F.length:Nat):Int))∧HoldsO w' v (jb k F.length)∧But v.ownBlock w w'∧(F=[]→w'=w):=by
 by_cases hFe:F=[]
 ·subst hFe;obtain ⟨ad,cp,rfl⟩:=h.form;exact (uw ad cp k w).mono fun e w' ⟨p1,p2⟩=>⟨p1,eY _ _ _,p2 ▸ But.of_below (zC _ _),fun _=>p2⟩
 ·rcases h with ⟨ad,cp,rfl,e0⟩ | ⟨g,cp,cur,rfl,h2,h3,h4⟩
  ·exact absurd e0 hFe
  ·refine (vZ g cp F.length k cur w hk hF h3 h2).mono fun e w' ⟨p1,⟨cur',q1,q2,q3⟩,p3⟩=>⟨p1,Or.inr ⟨g,cp,cur',by rw [gx],q1,by rw [gx];omega,by rw [gx];exact q3⟩,⟨p3.os,p3.tape,p3.output,p3.size,fun b hb hne=>p3.block b hb fun e=>hne (by rw [e];rfl)⟩,fun h=>absurd h hFe⟩
theorem lh (v:Value) (n k:Nat) (w:World) (hk:0<k) (hn:k+2*n<9000000) (h:HoldsO w v (jb k n)) :
  Calls prog 60 #[v,.int .i64 k] w fun e w'=>e=.returned (.int .i64 ((k+2*n:Nat):Int))∧Below w.heap.size w w':=by
 rcases h with ⟨ad,cp,rfl,e0⟩ | ⟨g,cp,cur,rfl,h2,h3,h4⟩
 ·have hn0:n=0:=by rw [← gx k n,e0];rfl
  subst hn0;exact (uy ad cp k w).mono fun e w' ⟨p1,p2⟩=>⟨p1,p2 ▸ zC _ _⟩
 ·rw [gx] at h4 ⊢;exact v8 g cp n k cur w hk hn h2 h4
def nb (n:Nat) (v:Value):Option Nat:=if n=0 then none else v.ownBlock
theorem r6 (v:Value):nb 0 v=none:=if_pos rfl
theorem dC {n:Nat} (h:n≠0) (v:Value):nb n v=v.ownBlock:=if_neg h
structure But2 (o1 o2:Option Nat) (w w':World):Prop where
 os:w'.os=w.os
 tape:w'.tape=w.tape
 output:w'.output=w.output
 size:w.heap.size≤w'.heap.size
 block:∀ b,b<w.heap.size→o1≠some b→o2≠some b→w'.heap[b]?=w.heap[b]?
theorem li (e:En) (x1 x2:Option Addr) (y1 y2:Nat) (F1 F2:List Op.Opt) (k:Nat) (w:World) (hk:0<k) (hl:k+2*F1.length+2*F2.length<9000000)
  (h1:HoldsO w (.slice x1 F1.length y1) F1) (h2:HoldsO w (.slice x2 F2.length y2) F2)
  (hd:F1≠[]→F2≠[]→(Value.slice x1 F1.length y1).ownBlock≠(Value.slice x2 F2.length y2).ownBlock) :
  Calls prog 33 #[.agg (aA e (.slice x1 F1.length y1) (.slice x2 F2.length y2)),.int .i64 k] w fun r w'=>r=.returned (.int .i64 ((k+2*F1.length+2*F2.length:Nat):Int)) ∧
   HoldsO w' (.slice x1 F1.length y1) (jb k F1.length)∧HoldsO w' (.slice x2 F2.length y2) (jb (k+2*F1.length) F2.length)∧But2 (nb F1.length (.slice x1 F1.length y1)) (nb F2.length (.slice x2 F2.length y2)) w w':=by
 have hA:(w.alloc (.cells (aA e (.slice x1 F1.length y1) (.slice x2 F2.length y2)) 32)).heap[w.heap.size]?=some (.cells (aA e (.slice x1 F1.length y1) (.slice x2 F2.length y2)) 32):=zF w _;have hbA:Below w.heap.size w (w.alloc (.cells (aA e (.slice x1 F1.length y1) (.slice x2 F2.length y2)) 32)):=(zC _ _).alloc (zD _) _;have C1:=aa (lf _ F1 k (w.alloc (.cells (aA e (.slice x1 F1.length y1) (.slice x2 F2.length y2)) 32)) hk (by omega) (h1.below hbA rfl));have hl1:=fun hF g hg=>h1.lt hF g hg
 have h2A:=h2.below hbA rfl;have HK:=aa (zA h1 (zA h2 (zA hd (zA hA (zA hbA (zA hl1 h2A))))));clear h1 h2 hd hA hbA hl1 h2A;obtain ⟨m1,a1,g1,p1,c1,d1,m2,a2,g2,p2,c2,d2,st,tr,du,id,fl,up,i1,i2,i3,i4,i5,o1,o2,o3,o4,o5⟩:=e;unfold aA at C1 HK ⊢;dsimp only at C1 HK ⊢;obtain ⟨n1,hn1⟩:∃ n1,F1.length=n1:=⟨_,rfl⟩;obtain ⟨n2,hn2⟩:∃ n2,F2.length=n2:=⟨_,rfl⟩;rw [hn1] at C1 HK hl ⊢;rw [hn2] at C1 HK hl ⊢;go_enter func33,ntmps33
 go_wp2_with fail
 refine (uh C1).mono ?_;rintro r w1 ⟨rfl,hh1,hb1,hs1⟩;obtain ⟨h1,h2,hd,hA,hbA,hl1,h2A⟩:=uh HK;have hr1:w1.heap[w.heap.size]?=some (.cells #[.int .i64 m1,.int .i64 a1,.int .i64 g1,.bool p1,.bool c1,.bool d1,.int .i64 m2,.int .i64 a2,.int .i64 g2,.bool p2,.bool c2,.bool d2,.int .i64 st,.int .i64 tr,.int .i64 du,.int .i64 id,.int .i64 fl,.slice x1 n1 y1,.slice x2 n2 y2,.bool up,.int .i64 i1,.int .i64 i2,.bool i3,.bool i4,.bool i5,.int .i64 o1,.int .i64 o2,.bool o3,.bool o4,.bool o5] 32):=by
  by_cases hF:F1=[]
  ·rw [hs1 hF];exact hA
  ·exact (hb1.block _ (by simp) fun e=>by have:=hl1 hF _ e;omega).trans hA
 have h21:HoldsO w1 (.slice x2 n2 y2) F2:=by
  by_cases hF:F1=[]
  ·rw [hs1 hF];exact h2A
  ·by_cases hF2:F2=[]
   ·subst hF2;have:n2=0:=hn2.symm
    subst this;exact eY _ _ _
   ·refine h2A.other fun g hg=>?_
    have hlt:=h2.lt hF2 g hg;exact hb1.block g (by simp;omega) fun e=>hd hF hF2 (e.trans hg.symm)
 have C2:=aa (lf _ F2 (k+2*n1) w1 (by omega) (by omega) h21);have c18:w1.cell? ⟨w.heap.size,18,none⟩=some (.slice x2 n2 y2):=by rw [cr hr1];rfl
 rw [hn2] at C2;have HK1:=aa (zA hh1 (zA hb1 (zA hs1 h21)));clear hh1 hb1 hs1 h21 hr1 h1 h2 hd hA hbA hl1 h2A C1;go_wp2_with fail
 refine (uh C2).mono ?_;rintro r w2 ⟨rfl,hh2,hb2,hs2⟩;have HK2:=aa (zA hh2 (zA hb2 hs2));clear hh2 hb2 hs2 C2 c18;go_wp2
 go_ret
 obtain ⟨h1,h2,hd,hA,hbA,hl1,h2A⟩:=uh HK;obtain ⟨hh1,hb1,hs1,h21⟩:=uh HK1;obtain ⟨hh2,hb2,hs2⟩:=uh HK2;refine ⟨rfl,?_,hh2,⟨hb2.os.trans hb1.os,hb2.tape.trans hb1.tape,hb2.output.trans hb1.output,zE (zE (by simp) hb1.size) hb2.size,fun b hb e1 e2=>?_⟩⟩
 ·by_cases hF2:F2=[]
  ·rw [hs2 hF2];exact hh1
  ·by_cases hF:F1=[]
   ·subst hF;have:n1=0:=hn1.symm
    subst this;exact eY _ _ _
   ·refine hh1.other fun g hg=>?_
    have hlt:=hl1 hF g hg;have hz:=hb1.size;exact hb2.block g (by simp at hz;omega) fun e=>hd hF hF2 (hg.trans e.symm)
 ·have hz:=hb1.size;have q2:w2.heap[b]?=w1.heap[b]?:=by
   by_cases h0:n2=0
   ·rw [hs2 (List.eq_nil_of_length_eq_zero (hn2.trans h0))]
   ·rw [dC h0] at e2;exact hb2.block b (by simp at hz;omega) e2
  have q1:w1.heap[b]?=(w.alloc (.cells #[.int .i64 m1,.int .i64 a1,.int .i64 g1,.bool p1,.bool c1,.bool d1,.int .i64 m2,.int .i64 a2,.int .i64 g2,.bool p2,.bool c2,.bool d2,.int .i64 st,.int .i64 tr,.int .i64 du,.int .i64 id,.int .i64 fl,.slice x1 n1 y1,.slice x2 n2 y2,.bool up,.int .i64 i1,.int .i64 i2,.bool i3,.bool i4,.bool i5,.int .i64 o1,.int .i64 o2,.bool o3,.bool o4,.bool o5] 32)).heap[b]?:=by
   by_cases h0:n1=0
   ·rw [hs1 (List.eq_nil_of_length_eq_zero (hn1.trans h0))]
   ·rw [dC h0] at e1;exact hb1.block b (by simp;omega) e1
  exact (q2.trans q1).trans (zG _ _ _ hb)
theorem lj (e:En) (x1 x2:Option Addr) (n1 n2 y1 y2:Nat) (k:Nat) (w:World) (hk:0<k) (hl:k+2*n1+2*n2<9000000)
  (h1:HoldsO w (.slice x1 n1 y1) (jb k n1)) (h2:HoldsO w (.slice x2 n2 y2) (jb (k+2*n1) n2)) :
  Calls prog 34 #[.agg (aA e (.slice x1 n1 y1) (.slice x2 n2 y2)),.int .i64 k] w fun r w'=>r=.returned (.int .i64 ((k+2*n1+2*n2:Nat):Int))∧Below w.heap.size w w':=by
 obtain ⟨m1,a1,g1,p1,c1,d1,m2,a2,g2,p2,c2,d2,st,tr,du,id,fl,up,i1,i2,i3,i4,i5,o1,o2,o3,o4,o5⟩:=e;have hA:=zF w (.cells (aA ⟨m1,a1,g1,p1,c1,d1,m2,a2,g2,p2,c2,d2,st,tr,du,id,fl,up,i1,i2,i3,i4,i5,o1,o2,o3,o4,o5⟩ (.slice x1 n1 y1) (.slice x2 n2 y2)) 32);have hbA:Below w.heap.size w (w.alloc (.cells (aA ⟨m1,a1,g1,p1,c1,d1,m2,a2,g2,p2,c2,d2,st,tr,du,id,fl,up,i1,i2,i3,i4,i5,o1,o2,o3,o4,o5⟩ (.slice x1 n1 y1) (.slice x2 n2 y2)) 32)):=(zC _ _).alloc (zD _) _;have C1:=aa fun W (hb:Below w.heap.size w W)=>lh _ n1 k W hk (by omega) (h1.below hb rfl)
 have C2:=aa fun W (hb:Below w.heap.size w W)=>lh _ n2 (k+2*n1) W (by omega) (by omega) (h2.below hb rfl)
 have d1:¬ (((k+2*n1:Nat):Int)<0):=by omega
 have d2:¬ (((k+2*n1+2*n2:Nat):Int)<0):=by omega
 unfold aA at hA hbA ⊢;dsimp only at hA hbA ⊢;have HA:=aa (zA hA hbA);clear hA hbA h1 h2;generalize k+2*n1=K1 at *;generalize K1+2*n2=K2 at *;go_enter func34,ntmps34
 go_wp2_with fail
 refine (uh C1 _ (uh HA).2).mono ?_;rintro r w1 ⟨rfl,hb1⟩;have hr1:=(hb1.block w.heap.size (by simp)).trans (uh HA).1;have hB1:=(uh HA).2.trans (hb1.mono (uh HA).2.size);have c18:w1.cell? ⟨w.heap.size,18,none⟩=some (.slice x2 n2 y2):=by rw [cr hr1];rfl
 have H1:=aa hB1;clear hr1 hB1 hb1 HA C1;go_wp2_with fail
 refine (uh C2 _ (uh H1)).mono ?_;rintro r w2 ⟨rfl,hb2⟩;have H2:=aa ((uh H1).trans (hb2.mono (uh H1).size));clear hb2 H1 C2 c18;go_wp2
 go_ret
 exact ⟨rfl,uh H2⟩
end Go.Proofs.YtjdgiimfpkideaaGreatDoor
namespace Go.Proofs.YtjdgiimfpkideaaGreatDoor
open Go.RowKit Go.Proofs.Tryz
def gc (b:Bool) (x:Int):Int:=if b then 2 else x
theorem gk (b:Bool) (x:Int) (w:World):Calls prog 172 #[.bool b,.int .i64 x] w fun e w'=>e=.returned (.int .i64 (gc b x))∧w'=w:=by
 cases b
 ·go_enter func172,ntmps172
  go_wp2
  go_ret
  exact ⟨rfl,rfl⟩
 ·go_enter func172,ntmps172
  go_wp2
  go_ret
  exact ⟨rfl,rfl⟩
def fv (g:Nat):Nat:=max 1 ((g+77) % 4294967296)
theorem tF (g:Nat) (h:g<4294967296):bits .and .i64 ((g:Int)+77) 4294967295=(((g+77) % 4294967296:Nat):Int):=by
 show IntKind.i64.wrap ((BitVec.ofInt 64 ((g:Int)+77) &&& BitVec.ofInt 64 4294967295).toNat:Int)=_
 rw [show (g:Int)+77=((g+77:Nat):Int) by omega,BitVec.toNat_and,ofInt_u64 (g+77) (by omega),show (BitVec.ofInt 64 4294967295).toNat=2 ^ 32 - 1 by decide,Nat.and_two_pow_sub_one_eq_mod,IntKind.wrap_i64];omega
theorem mI (g:Nat) (w:World) (h:g<4294967296):Calls prog 183 #[.int .i64 g] w fun e w'=>e=.returned (.int .i64 (fv g:Nat))∧w'=w:=by
 have ha:=tF g h;have HM:Hid (((fv g:Nat):Int)=max 1 (((g+77) % 4294967296:Nat):Int)):=aa (by unfold fv;omega);generalize (g+77) % 4294967296=r at *;rw [uh HM];clear HM;go_enter func183,ntmps183
 go_wp2
 all_goals
  go_ret
  exact ⟨j8 (by omega),rfl⟩
theorem uE (m a g:Int) (p c d:Bool) (n:Int) (w:World):Calls prog 171 #[cN m a g p c d,.int .i64 n] w fun e w'=>e=.returned (.tuple #[.int .i64 (gc (al 64 300 n) 3),.int .i64 m])∧Below w.heap.size w w':=by
 have C1:=aa fun v=>iY n v
 generalize al 64 300 n=ok at *;have C2:=aa fun v=>gk ok 3 v
 go_enter func171,ntmps171
 go_wp2_with fail
 go_quiet ((first
  | (go_at_call 36;exact Calls.quiet_of_same (uh C1 _))
  | (go_at_call 172;exact Calls.quiet_of_same (uh C2 _))))
 go_wp2
 go_ret2
 exact ⟨rfl,aH ((zC _ _).alloc (zD _) _) _⟩
theorem uF (m a g:Nat) (p c d:Bool) (n:Nat) (w:World) (ha:a<4294967296) (hn:n<4294967296):Calls prog 177 #[cN m a g p c d,.int .i64 n] w fun e w'=>e=.returned (.tuple #[.int .i64 (gc (((n ||| a:Nat):Int) == (n:Int)) 3),.int .i64 (n ||| a:Nat)])∧Below w.heap.size w w':=by
 have ho:=iZ n a hn ha;have C2:=aa fun v=>gk (((n ||| a:Nat):Int) == (n:Int)) 3 v
 generalize n ||| a=x at *
 go_enter func177,ntmps177
 go_wp2_with fail
 go_quiet ((first
  | (go_at_call 172;exact Calls.quiet_of_same (uh C2 _))))
 go_wp2
 go_ret2
 exact ⟨rfl,aH ((zC _ _).alloc (zD _) _) _⟩
theorem uG (m a g:Nat) (p c d:Bool) (n:Nat) (w:World) (hg:g<4294967296):Calls prog 182 #[cN m a g p c d,.int .i64 n] w fun e w'=>e=.returned (.tuple #[.int .i64 (gc ((n:Int) != 0 && (n:Int) != (g:Int)) 3),.int .i64 (fv g:Nat)])∧Below w.heap.size w w':=by
 have C1:=aa fun v=>mI g v hg
 generalize fv g=x at *;cases hq:((n:Int) != 0)
 ·have C2:=aa fun v=>gk false 3 v
  rw [Bool.false_and];go_enter func182,ntmps182
  go_wp2_with fail
  go_quiet ((first
   | (go_at_call 183;exact Calls.quiet_of_same (uh C1 _))
   | (go_at_call 172;exact Calls.quiet_of_same (uh C2 _))))
  go_wp2
  go_ret2
  exact ⟨rfl,aH ((zC _ _).alloc (zD _) _) _⟩
 ·have C2:=aa fun v=>gk ((n:Int) != (g:Int)) 3 v
  rw [Bool.true_and];go_enter func182,ntmps182
  go_wp2_with fail
  go_quiet ((first
   | (go_at_call 183;exact Calls.quiet_of_same (uh C1 _))
   | (go_at_call 172;exact Calls.quiet_of_same (uh C2 _))))
  go_wp2
  go_ret2
  exact ⟨rfl,aH ((zC _ _).alloc (zD _) _) _⟩
theorem uH (m a g:Int) (p c d:Bool) (n:Int) (w:World):Calls prog 188 #[cN m a g p c d,.int .i64 n] w fun e w'=>e=.returned (.tuple #[.int .i64 (gc p 4),.int .i64 0])∧Below w.heap.size w w':=by
 have C2:=aa fun v=>gk p 4 v
 go_enter func188,ntmps188
 go_wp2_with (first | (go_at_call 172;refine (uh C2 _).mono ?_;rintro e w1 ⟨rfl,rfl⟩))
 go_ret2
 exact ⟨rfl,(zC _ _).alloc (zD _) _⟩
theorem uI (m a g:Int) (p c d:Bool) (n:Int) (w:World):Calls prog 193 #[cN m a g p c d,.int .i64 n] w fun e w'=>e=.returned (.tuple #[.int .i64 (gc c 4),.int .i64 0])∧Below w.heap.size w w':=by
 have C2:=aa fun v=>gk c 4 v
 go_enter func193,ntmps193
 go_wp2_with (first | (go_at_call 172;refine (uh C2 _).mono ?_;rintro e w1 ⟨rfl,rfl⟩))
 go_ret2
 exact ⟨rfl,(zC _ _).alloc (zD _) _⟩
theorem uJ (m a g:Int) (p c d:Bool) (n:Int) (w:World):Calls prog 198 #[cN m a g p c d,.int .i64 n] w fun e w'=>e=.returned (.tuple #[.int .i64 (gc (n == 2 || (n == 4 && d)) 3),.int .i64 2])∧Below w.heap.size w w':=by
 have C2:=aa fun b v=>gk b 3 v
 cases hq:(n == 2)
 ·cases hr:(n == 4)
  ·rw [Bool.false_and,Bool.false_or];go_enter func198,ntmps198
   go_wp2_with (first | (go_at_call 172;refine (uh C2 _ _).mono ?_;rintro e w1 ⟨rfl,rfl⟩))
   go_ret2
   exact ⟨rfl,(zC _ _).alloc (zD _) _⟩
  ·rw [Bool.true_and,Bool.false_or];go_enter func198,ntmps198
   go_wp2_with (first | (go_at_call 172;refine (uh C2 _ _).mono ?_;rintro e w1 ⟨rfl,rfl⟩))
   go_ret2
   exact ⟨rfl,(zC _ _).alloc (zD _) _⟩
 ·rw [Bool.true_or];go_enter func198,ntmps198
  go_wp2_with (first | (go_at_call 172;refine (uh C2 _ _).mono ?_;rintro e w1 ⟨rfl,rfl⟩))
  go_ret2
  exact ⟨rfl,(zC _ _).alloc (zD _) _⟩
end Go.Proofs.YtjdgiimfpkideaaGreatDoor
namespace Go.Proofs.YtjdgiimfpkideaaGreatDoor
open Go.RowKit Go.Proofs.Tryz
theorem pM (t:ByteArray) (w:World) (ht:t.size≤20):Calls prog 144 #[.string t] w fun e w'=>e=.returned (.string t)∧Below w.heap.size w w':=by
  have C:=aa (Any.stringslite_Clone Tryz.laysCln t w (by omega));go_enter func144,ntmps144
  go_wp2_with fail
  refine (uh C).mono ?_;rintro e w1 ⟨rfl,hb⟩;go_wp2
  go_ret
  exact ⟨rfl,hb⟩
theorem iB (k:Int) (t:ByteArray) (w:World) (ht:t.size≤20):Calls prog 133 #[.agg #[.int .i64 k,.string t]] w fun e w'=>e=.returned (.agg #[.int .i64 k,.string t])∧Below w.heap.size w w':=by
  obtain ⟨hs,q0,q1,hb0⟩:=br w (.cells #[.int .i64 k,.string t] 105) (.cells #[.int .i64 0,.string ⟨#[]⟩] 105);have HQ:=aa (zA hs (zA q0 (zA q1 hb0)));have C:=aa fun v=>pM t v ht
  clear hs q0 q1 hb0;go_enter func133,ntmps133
  go_wp2_with fail
  refine ab (fun q=>q.heap.size=w.heap.size+1+1∧q.heap[w.heap.size]?=some (.cells #[.int .i64 k,.string t] 105)∧q.heap[w.heap.size+1]?=some (.cells #[.int .i64 0,.string ⟨#[]⟩] 105)∧Below w.heap.size w q) (uh HQ) ?_;rintro q ⟨hs,h0,h1,hb⟩;obtain ⟨c0,c1,_,_⟩:=av h0;have HH:=aa (zA hs (zA h0 (zA h1 hb)));clear hs h0 h1 hb HQ
  go_region_with (first
    | (go_at_call 144;refine (uh C _).mono ?_;rintro e w3 ⟨rfl,hb3⟩
       have hz:q.heap.size=w.heap.size+1+1:=(uh HH).1;have hr3:=(hb3.block w.heap.size (by show w.heap.size<q.heap.size;omega)).trans (uh HH).2.1;have ho3:=(hb3.block (w.heap.size+1) (by show w.heap.size+1<q.heap.size;omega)).trans (uh HH).2.2.1;obtain ⟨k0,k1,_,_⟩:=av hr3;obtain ⟨o0,o1,p0,p1⟩:=av ho3;have hbb:Below w.heap.size w w3:=(uh HH).2.2.2.trans ((show Below q.heap.size q w3 from ⟨hb3.os,hb3.tape,hb3.output,hb3.size,hb3.block⟩).mono (by omega));have HX:=aa (zA ho3 hbb);clear hr3 ho3 hb3 hbb hz))
  all_goals
    go_wp2
    refine bodyPost_ret (v:=.agg #[.int .i64 k,.string t]) (by simp [results,results133,asAddr,jO (aM (uh HX).1 (.int .i64 k) (.string t))]) rfl ⟨rfl,?_⟩;exact ((uh HX).2.setCell (p:=⟨w.heap.size+1,0,none⟩) (Nat.le_succ _) _).setCell (p:=⟨w.heap.size+1,1,none⟩) (Nat.le_succ _) _
end Go.Proofs.YtjdgiimfpkideaaGreatDoor
namespace Go.Proofs.YtjdgiimfpkideaaGreatDoor
open Go.RowKit Go.Proofs.Tryz
structure JudR (m a g:Nat) (p c d:Bool) (k:Int) (s f f2 f3 f4 f5 j:Nat) (cd:Nat→Int) (bt:Nat→Nat) (tx:Nat→ByteArray):Prop where
  fd:Instr.findNow (.int .i64) (.int .i64 k) cI.toList 0=some (some (j,aZ s f f2 f3 f4 f5))
  cf:∀ args W,(callFunc f2 args).run prog W=.ok (.enter f2 args) W
  jd:∀ (n:Nat) v,n<4294967296→Calls prog f2 #[cN m a g p c d,.int .i64 n] v fun e w'=>e=.returned (.tuple #[.int .i64 (cd n),.int .i64 (bt n:Nat)])∧Below v.heap.size v w'
  nb:∀ (n:Nat) v,Calls prog 218 #[.int .i64 (bt n:Nat),.int .i64 s] v fun e w'=>e=.returned (.string (tx n))∧Below v.heap.size v w'
theorem sg (w:World) (a b c d:Obj):((((w.alloc a).alloc b).alloc c).alloc d).heap.size=w.heap.size+1+1+1+1∧((((w.alloc a).alloc b).alloc c).alloc d).heap[w.heap.size]?=some a∧((((w.alloc a).alloc b).alloc c).alloc d).heap[w.heap.size+1]?=some b ∧
    ((((w.alloc a).alloc b).alloc c).alloc d).heap[w.heap.size+1+1]?=some c∧((((w.alloc a).alloc b).alloc c).alloc d).heap[w.heap.size+1+1+1]?=some d∧Below w.heap.size w ((((w.alloc a).alloc b).alloc c).alloc d):=by
  have s1:(w.alloc a).heap.size=w.heap.size+1:=by simp
  have s2:((w.alloc a).alloc b).heap.size=w.heap.size+1+1:=by simp
  have s3:(((w.alloc a).alloc b).alloc c).heap.size=w.heap.size+1+1+1:=by simp
  have e1:=zF w a;have e2:=zF (w.alloc a) b;have e3:=zF ((w.alloc a).alloc b) c;have e4:=zF (((w.alloc a).alloc b).alloc c) d;rw [s1] at e2;rw [s2] at e3;rw [s3] at e4;refine ⟨by simp,?_,?_,?_,e4,((((zC _ _).alloc (zD _) _).alloc (by omega) _).alloc (by omega) _).alloc (by omega) _⟩
  · rw [zG _ _ _ (by omega),zG _ _ _ (by omega),zG _ _ _ (by omega)];exact e1
  · rw [zG _ _ _ (by omega),zG _ _ _ (by omega)];exact e2
  · rw [zG _ _ _ (by omega)];exact e3
structure VdS (w:World) (R C O V:Array Value) (q:World):Prop where
  r:q.heap[w.heap.size]?=some (.cells R 191)
  c:q.heap[w.heap.size+1]?=some (.cells C 24)
  o:q.heap[w.heap.size+1+1]?=some (.cells O 105)
  v:q.heap[w.heap.size+1+1+1]?=some (.cells V 264)
  b:Below w.heap.size w q
theorem VdS.lt {w:World} {R C O V:Array Value} {q:World} (h:VdS w R C O V q):w.heap.size+1+1+1<q.heap.size:=(ge.1 h.v).1
theorem VdS.step {w:World} {R C O V:Array Value} {q q':World} (h:VdS w R C O V q) (hb:Below q.heap.size q q'):VdS w R C O V q':=by
  have hl:=h.lt;exact ⟨(hb.block _ (by omega)).trans h.r,(hb.block _ (by omega)).trans h.c,(hb.block _ (by omega)).trans h.o,(hb.block _ (by omega)).trans h.v,h.b.trans (hb.mono h.b.size)⟩
theorem VdS.drew {w:World} {R C O V:Array Value} {q:World} (h:VdS w R C O V q):VdS w R C O V q.drew:=⟨h.r,h.c,h.o,h.v,h.b.drew⟩
theorem wv:(prog.info? 264).map (·.size)=some 3:=by kernel_rfl
theorem nG {W:World} {E:Nat} {x0 x1 x2:Value} (h:W.heap[E]?=some (.cells #[x0,x1,x2] 264)):(loadVar 264 ⟨E,0,none⟩).run prog W=.ok (.agg #[x0,x1,x2]) W :=
  run_loadVar_row (P:=prog) _ _ 264 264 #[x0,x1,x2] (0,0) _ h underlying264 rfl wv
theorem nH {W:World} {E:Nat} {z0 z1 z2:Value} {T:TypeId} (h:W.heap[E]?=some (.cells #[z0,z1,z2] T)) (x0 x1 x2:Value) :
    (((W.setCell ⟨E,0,none⟩ x0).setCell ⟨E,1,none⟩ x1).setCell ⟨E,2,none⟩ x2).heap[E]?=some (.cells #[x0,x1,x2] T) :=
  zH _ _ 2 _ _ x2 (zH _ _ 1 _ _ x1 (zH _ _ 0 _ _ x0 h))
theorem jj {w:World} {B:Nat} {x0 x1 x2:Value} {T:TypeId} (h:w.heap[B]?=some (.cells #[x0,x1,x2] T)) :
    w.cell? ⟨B,0,none⟩=some x0∧w.cell? ⟨B,1,none⟩=some x1∧w.cell? ⟨B,2,none⟩=some x2∧w.frozen? ⟨B,0,none⟩=false∧w.frozen? ⟨B,1,none⟩=false∧w.frozen? ⟨B,2,none⟩=false :=
  ⟨by rw [cr h];rfl,by rw [cr h];rfl,by rw [cr h];rfl,aX h _,aX h _,aX h _⟩
theorem uK (m a g:Nat) (p c d:Bool) (k:Int) (t:ByteArray) (s f f2 f3 f4 f5 j:Nat) (cd:Nat→Int) (bt:Nat→Nat) (tx:Nat→ByteArray) (w:World) (hJ:JudR m a g p c d k s f f2 f3 f4 f5 j cd bt tx) (ht:t.size≤4) :
    Calls prog 209 #[aZ s f f2 f3 f4 f5,cN m a g p c d,.agg #[.int .i64 k,.string t]] w fun e w' =>
      e=.returned (.agg #[.int .i64 (cd (ax t.data.toList)),.int .i64 k,.string (if cd (ax t.data.toList) == 3 then tx (ax t.data.toList) else t)])∧Below w.heap.size w w':=by
  have HN:=aa fun v=>i7 k t v ht
  have hn:=eM t.data.toList (by rw [bC];exact ht);generalize ax t.data.toList=n at *;have HJ:=aa fun v=>hJ.jd n v hn
  have HB:=aa fun v=>hJ.nb n v
  have HC:=aa fun v=>iB k t v (by omega)
  have hcf:=hJ.cf;clear hJ hn;generalize cd n=x at *;generalize bt n=y at *;generalize tx n=z at *;obtain ⟨hzz,q0,q1,q2,q3,hb0⟩:=sg w (.cells #[.int .i64 s,cY f,cY f2,cY f3,cY f4,cY f5] 191) (.cells #[.int .i64 m,.int .i64 a,.int .i64 g,.bool p,.bool c,.bool d] 24) (.cells #[.int .i64 k,.string t] 105) (.cells #[.int .i64 0,.int .i64 0,.string ⟨#[]⟩] 264);have HQ:=aa (VdS.mk q0 q1 q2 q3 hb0);clear q0 q1 q2 q3 hb0 hzz;go_enter func209,ntmps209
  go_wp2_with fail
  refine ab _ (uh HQ) ?_;clear HQ;rintro q hq;obtain ⟨r0,r1,r2,r3,r4,r5⟩:=aJ hq.r;obtain ⟨c0,c1,c2,c3,c4,c5⟩:=aJ hq.c;obtain ⟨o0,o1,_,_⟩:=av hq.o;have HH:=aa hq;clear hq;go_cut [7,8] (fun u v wx=>u=.int .i64 x∧v=.int .i64 y∧VdS w #[.int .i64 s,cY f,cY f2,cY f3,cY f4,cY f5] #[.int .i64 m,.int .i64 a,.int .i64 g,.bool p,.bool c,.bool d] #[.int .i64 k,.string t] #[.int .i64 0,.int .i64 0,.string ⟨#[]⟩] wx)
  case first =>
    go_region_held3 (fun z=>z.cell? ⟨w.heap.size,2,none⟩=some (cY f2)∧z.cell? ⟨w.heap.size+1,0,none⟩=some (.int .i64 m)∧z.cell? ⟨w.heap.size+1,1,none⟩=some (.int .i64 a)∧z.cell? ⟨w.heap.size+1,2,none⟩=some (.int .i64 g)∧z.cell? ⟨w.heap.size+1,3,none⟩=some (.bool p)∧z.cell? ⟨w.heap.size+1,4,none⟩=some (.bool c)∧z.cell? ⟨w.heap.size+1,5,none⟩=some (.bool d)∧z.cell? ⟨w.heap.size+1+1,0,none⟩=some (.int .i64 k)∧z.cell? ⟨w.heap.size+1+1,1,none⟩=some (.string t))
      (first | (exact uh K3) | (exact uh K4) | go_keep)
      (first
      | (go_at_call 143;refine (uh HN _).mono ?_;rintro e w3 ⟨rfl,hb3⟩
         have h3:=(uh HH).drew.step hb3;obtain ⟨_,_,r2,_,_,_⟩:=aJ h3.r;obtain ⟨c0,c1,c2,c3,c4,c5⟩:=aJ h3.c;obtain ⟨o0,o1,_,_⟩:=av h3.o;have K3:=aa (zA r2 (zA c0 (zA c1 (zA c2 (zA c3 (zA c4 (zA c5 (zA o0 o1))))))));have H3:=aa h3;clear h3 hb3 r2 c0 c1 c2 c3 c4 c5 o0 o1)
      | (refine (uh HJ _).mono ?_;rintro e w4 ⟨rfl,hb4⟩
         have h4:=(uh H3).step hb4;obtain ⟨_,_,r2,_,_,_⟩:=aJ h4.r;obtain ⟨c0,c1,c2,c3,c4,c5⟩:=aJ h4.c;obtain ⟨o0,o1,_,_⟩:=av h4.o;have K4:=aa (zA r2 (zA c0 (zA c1 (zA c2 (zA c3 (zA c4 (zA c5 (zA o0 o1))))))));have H4:=aa h4;clear h4 hb4 r2 c0 c1 c2 c3 c4 c5 o0 o1))
    all_goals
      go_wp2_with fail
      go_meet;exact ⟨rfl,rfl,uh H4⟩
  case rest =>
    obtain ⟨hu,hv,hq⟩:=hcut;subst hu hv;clear HH HN HJ hcf r0 r1 r2 r3 r4 r5 c0 c1 c2 c3 c4 c5 o0 o1;obtain ⟨r0,_,_,_,_,_⟩:=aJ hq.r;obtain ⟨o0,o1,_,_⟩:=av hq.o;obtain ⟨v0,v1,v2,_,_,_⟩:=jj hq.v;have HH:=aa hq;clear hq;cases hx:(x == (3:Int))
    · clear HB
      go_wp2_with fail
      refine (uh HC _).mono ?_;rintro e w3 ⟨rfl,hb3⟩;have h3:=(uh HH).step hb3;obtain ⟨v0,v1,v2,f0,f1,f2⟩:=jj h3.v;have H3:=aa h3;clear h3 hb3;go_wp2
      refine bodyPost_ret (v:=.agg #[.int .i64 x,.int .i64 k,.string t]) (by simp [results,results209,asAddr,nG (nH (uh H3).v (.int .i64 x) (.int .i64 k) (.string t))]) rfl ⟨by first | rfl | (rw [hx];rfl),?_⟩;exact (((uh H3).b.setCell (p:=⟨w.heap.size+1+1+1,0,none⟩) (by simp;omega) _).setCell (p:=⟨w.heap.size+1+1+1,1,none⟩) (by simp;omega) _).setCell (p:=⟨w.heap.size+1+1+1,2,none⟩) (by simp;omega) _
    · clear HC
      have hne1:¬ (w.heap.size=w.heap.size+1+1+1):=by omega
      have hne2:¬ (w.heap.size+1+1+1=w.heap.size):=by omega
      go_upto_region 3 with fail
      go_region_held3 (fun z=>z.cell? ⟨w.heap.size,0,none⟩=some (.int .i64 s)∧z.cell? ⟨w.heap.size+1+1,0,none⟩=some (.int .i64 k))
        (first | (exact uh K3) | go_keep)
        (first
        | (go_at_call 218;refine (uh HB _).mono ?_;rintro e w3 ⟨rfl,hb3⟩
           have h3:=(uh HH).drew.step hb3;obtain ⟨r0,_,_,_,_,_⟩:=aJ h3.r;obtain ⟨o0,_,_,_⟩:=av h3.o;obtain ⟨v0,v1,v2,f0,f1,f2⟩:=jj h3.v;have K3:=aa (zA r0 o0);have H3:=aa h3;clear h3 hb3))
      all_goals
        go_wp2
        refine bodyPost_ret (v:=.agg #[.int .i64 x,.int .i64 k,.string z]) (by simp [results,results209,asAddr,nG (nH (uh H3).v (.int .i64 x) (.int .i64 k) (.string z))]) rfl ⟨by first | rfl | (rw [hx];rfl),?_⟩;exact (((uh H3).b.setCell (p:=⟨w.heap.size+1+1+1,0,none⟩) (by simp;omega) _).setCell (p:=⟨w.heap.size+1+1+1,1,none⟩) (by simp;omega) _).setCell (p:=⟨w.heap.size+1+1+1,2,none⟩) (by simp;omega) _
end Go.Proofs.YtjdgiimfpkideaaGreatDoor
namespace Go.Proofs.YtjdgiimfpkideaaGreatDoor
open Go.RowKit Go.Proofs.Tryz
abbrev aC (e:En) (v1 v2 v3 v4:Value) (cd:Int):Array Value:=#[.int .i64 e.m1,.int .i64 e.a1,.int .i64 e.g1,.bool e.p1,.bool e.c1,.bool e.d1,.int .i64 e.m2,.int .i64 e.a2,.int .i64 e.g2,.bool e.p2,.bool e.c2,.bool e.d2,.int .i64 e.st,.int .i64 e.tr,.int .i64 e.du,.int .i64 e.id,.int .i64 e.fl,v1,v2,.bool e.up,.int .i64 e.i1,.int .i64 e.i2,.bool e.i3,.bool e.i4,.bool e.i5,.int .i64 e.o1,.int .i64 e.o2,.bool e.o3,.bool e.o4,.bool e.o5,v3,v4,.int .i64 cd]
structure EqO (w:World) (cs ds:Array Value) (q:World):Prop where
 a:q.heap[w.heap.size]?=some (.cells cs 74)
 b:q.heap[w.heap.size+1]?=some (.cells ds 74)
 l:Below w.heap.size w q
theorem EqO.step {w:World} {cs ds:Array Value} {q q':World} (h:EqO w cs ds q) (hb:Below q.heap.size q q'):EqO w cs ds q' :=
 ⟨(hb.block _ (ge.1 h.a).1).trans h.a,(hb.block _ (ge.1 h.b).1).trans h.b,h.l.trans (hb.mono h.l.size)⟩
end Go.Proofs.YtjdgiimfpkideaaGreatDoor
namespace Go.Proofs.YtjdgiimfpkideaaGreatDoor
open Go.RowKit Go.Proofs.Tryz
def d8 (t:ByteArray):ByteArray:=if 250<t.size then t.extract 0 250 else t
theorem gY (t:ByteArray) (w:World) (ht:t.size≤100000):Calls prog 104 #[.string t,.int .i64 250] w fun e w'=>e=.returned (.string (d8 t))∧w'=w:=by
 unfold d8;by_cases h:250<t.size
 ·have d:(250:Int)<(t.size:Int):=by omega
  have d2:(250:Int)≤(t.size:Int):=by omega
  rw [if_pos h];go_enter func104,ntmps104
  go_wp2
  go_ret
  exact ⟨rfl,rfl⟩
 ·have d:¬ ((250:Int)<(t.size:Int)):=by omega
  rw [if_neg h];go_enter func104,ntmps104
  go_wp2
  go_ret
  exact ⟨rfl,rfl⟩
theorem pS (y:Int) (w:World):Calls prog 103 #[.int .i64 3,.int .i64 y] w fun e w'=>e=.returned (.int .i64 (min 3 y))∧w'=w:=by
 by_cases h:3≤y
 ·rw [Int.min_eq_left h];by_cases h0:y=3
  ·subst h0;go_enter func103,ntmps103
   go_wp2
   go_ret
   exact ⟨rfl,rfl⟩
  ·have h1:3<y:=by omega
   have h2:¬ (y<3):=by omega
   go_enter func103,ntmps103
   go_wp2
   go_ret
   exact ⟨rfl,rfl⟩
 ·rw [Int.min_eq_right (by omega)];have h1:y<3:=by omega
  have h2:¬ (3<y):=by omega
  go_enter func103,ntmps103
  go_wp2
  go_ret
  exact ⟨rfl,rfl⟩
end Go.Proofs.YtjdgiimfpkideaaGreatDoor
namespace Go.Proofs.YtjdgiimfpkideaaGreatDoor
open Go.RowKit Go.Proofs.Tryz
def ag:En:=⟨0,0,0,false,false,false,0,0,0,false,false,false,0,0,0,0,0,false,0,0,false,false,false,0,0,false,false,false⟩
def sE (m a g:Int) (p c d:Bool):En:=⟨m,a,g,p,c,d,m,a,g,p,c,d,0,0,-1,0,0,false,0,0,false,false,false,0,0,false,false,false⟩
def eP (m a g:Int) (p c d:Bool):En:=if aK m a g=true then sE m a g p c d else ag
theorem jl (m a g:Int) (p c d:Bool) (w:World):Calls prog 27 #[.agg #[.int .i64 m,.int .i64 a,.int .i64 g,.bool p,.bool c,.bool d]] w fun r w'=>r=.returned (.agg (aA (eP m a g p c d) (.slice none 0 0) (.slice none 0 0)))∧Below w.heap.size w w':=by
 have C:=aa fun v=>dO m a g p c d v
 obtain ⟨_,hA,hR,hb⟩:=br w (.cells #[.int .i64 m,.int .i64 a,.int .i64 g,.bool p,.bool c,.bool d] 24) (.cells #[.int .i64 0,.int .i64 0,.int .i64 0,.bool false,.bool false,.bool false,.int .i64 0,.int .i64 0,.int .i64 0,.bool false,.bool false,.bool false,.int .i64 0,.int .i64 0,.int .i64 0,.int .i64 0,.int .i64 0,.slice none 0 0,.slice none 0 0,.bool false,.int .i64 0,.int .i64 0,.bool false,.bool false,.bool false,.int .i64 0,.int .i64 0,.bool false,.bool false,.bool false] 32);have H0:=aa (zA hA (zA hR hb));clear hA hR hb;unfold eP;cases hq:aK m a g
 ·rw [if_neg (by decide)];rw [hq] at C;show Calls prog 27 #[.agg #[.int .i64 m,.int .i64 a,.int .i64 g,.bool p,.bool c,.bool d]] w fun r w'=>r=.returned (.agg #[.int .i64 0,.int .i64 0,.int .i64 0,.bool false,.bool false,.bool false,.int .i64 0,.int .i64 0,.int .i64 0,.bool false,.bool false,.bool false,.int .i64 0,.int .i64 0,.int .i64 0,.int .i64 0,.int .i64 0,.slice none 0 0,.slice none 0 0,.bool false,.int .i64 0,.int .i64 0,.bool false,.bool false,.bool false,.int .i64 0,.int .i64 0,.bool false,.bool false,.bool false])∧Below w.heap.size w w'
  go_enter func27,ntmps27
  go_wp2_with fail
  refine (uh C _).mono ?_;rintro r w1 ⟨rfl,hb1⟩;obtain ⟨hA,hR,hb⟩:=uh H0;have hR1:=(hb1.block (w.heap.size+1) (by simp)).trans hR;have hB1:=hb.trans (hb1.mono hb.size);have H1:=aa (zA hR1 hB1);clear hA hR hb hR1 hB1 hb1 H0 C;go_upto_region 2 with fail
  apply wp_region_lit
  refine wpList_buildTo rfl 32 _ rfl (some 6) rfl #[.int .i64 0,.int .i64 0,.int .i64 0,.bool false,.bool false,.bool false,.int .i64 0,.int .i64 0,.int .i64 0,.bool false,.bool false,.bool false,.int .i64 0,.int .i64 0,.int .i64 0,.int .i64 0,.int .i64 0,.slice none 0 0,.slice none 0 0,.bool false,.int .i64 0,.int .i64 0,.bool false,.bool false,.bool false,.int .i64 0,.int .i64 0,.bool false,.bool false,.bool false] (by as_aux_lemma=>kernel_rfl) ?_;refine wpList_store_rowTo rfl 32 (.tmp 2) (.tmp 6) rfl rfl (w.heap.size+1) #[.int .i64 0,.int .i64 0,.int .i64 0,.bool false,.bool false,.bool false,.int .i64 0,.int .i64 0,.int .i64 0,.bool false,.bool false,.bool false,.int .i64 0,.int .i64 0,.int .i64 0,.int .i64 0,.int .i64 0,.slice none 0 0,.slice none 0 0,.bool false,.int .i64 0,.int .i64 0,.bool false,.bool false,.bool false,.int .i64 0,.int .i64 0,.bool false,.bool false,.bool false] rfl rfl 32 _ (uh H1).1 aL rfl (by kernel_rfl) ?_;apply wpList_nil
  simp only [Act.put,List.setIfInBounds_toArray,List.set_cons_zero,List.set_cons_succ];go_wp2
  exact bodyPost_ret (v:=.agg #[.int .i64 0,.int .i64 0,.int .i64 0,.bool false,.bool false,.bool false,.int .i64 0,.int .i64 0,.int .i64 0,.bool false,.bool false,.bool false,.int .i64 0,.int .i64 0,.int .i64 0,.int .i64 0,.int .i64 0,.slice none 0 0,.slice none 0 0,.bool false,.int .i64 0,.int .i64 0,.bool false,.bool false,.bool false,.int .i64 0,.int .i64 0,.bool false,.bool false,.bool false]) (by simp [results,results27,asAddr,ja (setRow_heap w1 (w.heap.size+1) _ #[.int .i64 0,.int .i64 0,.int .i64 0,.bool false,.bool false,.bool false,.int .i64 0,.int .i64 0,.int .i64 0,.bool false,.bool false,.bool false,.int .i64 0,.int .i64 0,.int .i64 0,.int .i64 0,.int .i64 0,.slice none 0 0,.slice none 0 0,.bool false,.int .i64 0,.int .i64 0,.bool false,.bool false,.bool false,.int .i64 0,.int .i64 0,.bool false,.bool false,.bool false] _ _ (uh H1).1)]) rfl ⟨rfl,am (uh H1).2 (by omega) _⟩
 ·rw [if_pos rfl];rw [hq] at C;show Calls prog 27 #[.agg #[.int .i64 m,.int .i64 a,.int .i64 g,.bool p,.bool c,.bool d]] w fun r w'=>r=.returned (.agg #[.int .i64 m,.int .i64 a,.int .i64 g,.bool p,.bool c,.bool d,.int .i64 m,.int .i64 a,.int .i64 g,.bool p,.bool c,.bool d,.int .i64 0,.int .i64 0,.int .i64 (-1),.int .i64 0,.int .i64 0,.slice none 0 0,.slice none 0 0,.bool false,.int .i64 0,.int .i64 0,.bool false,.bool false,.bool false,.int .i64 0,.int .i64 0,.bool false,.bool false,.bool false])∧Below w.heap.size w w'
  go_enter func27,ntmps27
  go_wp2_with fail
  refine (uh C _).mono ?_;rintro r w1 ⟨rfl,hb1⟩;obtain ⟨hA,hR,hb⟩:=uh H0;have hA1:=(hb1.block w.heap.size (by simp;omega)).trans hA;have hR1:=(hb1.block (w.heap.size+1) (by simp)).trans hR;have hB1:=hb.trans (hb1.mono hb.size);have H1:=aa (zA hA1 (zA hR1 hB1));clear hA hR hb hA1 hR1 hB1 hb1 H0 C;go_upto_region 3 with fail
  apply wp_region_lit
  refine wpList_load_row rfl 24 (.tmp 1) rfl w.heap.size rfl 24 #[.int .i64 m,.int .i64 a,.int .i64 g,.bool p,.bool c,.bool d] (0,0) _ (uh H1).1 underlying24 rfl (by kernel_rfl) ?_;refine wpList_load_row rfl 24 (.tmp 1) rfl w.heap.size rfl 24 #[.int .i64 m,.int .i64 a,.int .i64 g,.bool p,.bool c,.bool d] (0,0) _ (uh H1).1 underlying24 rfl (by kernel_rfl) ?_;refine wpList_buildTo rfl 32 _ rfl (some 9) rfl #[.int .i64 m,.int .i64 a,.int .i64 g,.bool p,.bool c,.bool d,.int .i64 m,.int .i64 a,.int .i64 g,.bool p,.bool c,.bool d,.int .i64 0,.int .i64 0,.int .i64 (-1),.int .i64 0,.int .i64 0,.slice none 0 0,.slice none 0 0,.bool false,.int .i64 0,.int .i64 0,.bool false,.bool false,.bool false,.int .i64 0,.int .i64 0,.bool false,.bool false,.bool false] (by as_aux_lemma=>kernel_rfl) ?_;refine wpList_store_rowTo rfl 32 (.tmp 2) (.tmp 9) rfl rfl (w.heap.size+1) #[.int .i64 m,.int .i64 a,.int .i64 g,.bool p,.bool c,.bool d,.int .i64 m,.int .i64 a,.int .i64 g,.bool p,.bool c,.bool d,.int .i64 0,.int .i64 0,.int .i64 (-1),.int .i64 0,.int .i64 0,.slice none 0 0,.slice none 0 0,.bool false,.int .i64 0,.int .i64 0,.bool false,.bool false,.bool false,.int .i64 0,.int .i64 0,.bool false,.bool false,.bool false] rfl rfl 32 _ (uh H1).2.1 aL rfl (by kernel_rfl) ?_;apply wpList_nil
  simp only [Act.put,List.setIfInBounds_toArray,List.set_cons_zero,List.set_cons_succ];go_wp2
  exact bodyPost_ret (v:=.agg #[.int .i64 m,.int .i64 a,.int .i64 g,.bool p,.bool c,.bool d,.int .i64 m,.int .i64 a,.int .i64 g,.bool p,.bool c,.bool d,.int .i64 0,.int .i64 0,.int .i64 (-1),.int .i64 0,.int .i64 0,.slice none 0 0,.slice none 0 0,.bool false,.int .i64 0,.int .i64 0,.bool false,.bool false,.bool false,.int .i64 0,.int .i64 0,.bool false,.bool false,.bool false]) (by simp [results,results27,asAddr,ja (setRow_heap w1 (w.heap.size+1) _ #[.int .i64 m,.int .i64 a,.int .i64 g,.bool p,.bool c,.bool d,.int .i64 m,.int .i64 a,.int .i64 g,.bool p,.bool c,.bool d,.int .i64 0,.int .i64 0,.int .i64 (-1),.int .i64 0,.int .i64 0,.slice none 0 0,.slice none 0 0,.bool false,.int .i64 0,.int .i64 0,.bool false,.bool false,.bool false,.int .i64 0,.int .i64 0,.bool false,.bool false,.bool false] _ _ (uh H1).2.1)]) rfl ⟨rfl,am (uh H1).2.2 (by omega) _⟩
end Go.Proofs.YtjdgiimfpkideaaGreatDoor
namespace Go.Proofs.YtjdgiimfpkideaaGreatDoor
open Go.RowKit Go.Proofs.Tryz
def Df (o1 o2:Option Nat):Prop:=∀ g,o1=some g→o2≠some g
theorem Df.symm {o1 o2:Option Nat} (h:Df o1 o2):Df o2 o1:=fun g e1 e2=>h g e2 e1
theorem But.trans {w w' w'':World} {o:Option Nat} (h:But o w w') (k:But o w' w''):But o w w'' :=
 ⟨k.os.trans h.os,k.tape.trans h.tape,k.output.trans h.output,zE h.size k.size,fun b hb hne=>(k.block b (Nat.lt_of_lt_of_le hb h.size) hne).trans (h.block b hb hne)⟩
theorem But.nb {w w':World} {v:Value} {n:Nat} (h:But v.ownBlock w w') (h0:n=0→Below w.heap.size w w'):But (nb n v) w w':=by
 by_cases hn:n=0
 ·subst hn;rw [r6];exact But.of_below (h0 rfl)
 ·rw [dC hn];exact h
theorem HoldsO.keep {w w':World} {v:Value} {F:List Op.Opt} {o:Option Nat} (h:HoldsO w v F) (hb:But o w w') (hd:Df (nb F.length v) o):HoldsO w' v F:=by
 rcases h with ⟨ad,cp,e,e0⟩ | ⟨g,cp,cur,e,q1,q2⟩
 ·exact Or.inl ⟨ad,cp,e,e0⟩
 ·by_cases hn:F.length=0
  ·have:F=[]:=List.eq_nil_of_length_eq_zero hn
   subst this;exact Or.inl ⟨_,_,e,rfl⟩
  ·exact Or.inr ⟨g,cp,cur,e,(hb.block g (ge.1 q1).1 (hd g (by rw [dC hn,e];rfl))).trans q1,q2⟩
theorem HoldsP.keep {w w':World} {v:Value} {F:List Op.Pk} {o:Option Nat} (h:HoldsP w v F) (hb:But o w w') (hd:Df (nb F.length v) o):HoldsP w' v F:=by
 rcases h with ⟨ad,cp,e,e0⟩ | ⟨g,cp,cur,e,q1,q2⟩
 ·exact Or.inl ⟨ad,cp,e,e0⟩
 ·by_cases hn:F.length=0
  ·have:F=[]:=List.eq_nil_of_length_eq_zero hn
   subst this;exact Or.inl ⟨_,_,e,rfl⟩
  ·exact Or.inr ⟨g,cp,cur,e,(hb.block g (ge.1 q1).1 (hd g (by rw [dC hn,e];rfl))).trans q1,q2⟩
theorem HoldsT.keep {w w':World} {v:Value} {F:List ByteArray} {o:Option Nat} (h:HoldsT w v F) (hb:But o w w') (hd:Df (nb F.length v) o):HoldsT w' v F:=by
 rcases h with ⟨ad,cp,e,e0⟩ | ⟨g,cp,cur,e,q1,q2⟩
 ·exact Or.inl ⟨ad,cp,e,e0⟩
 ·by_cases hn:F.length=0
  ·have:F=[]:=List.eq_nil_of_length_eq_zero hn
   subst this;exact Or.inl ⟨_,_,e,rfl⟩
  ·exact Or.inr ⟨g,cp,cur,e,(hb.block g (ge.1 q1).1 (hd g (by rw [dC hn,e];rfl))).trans q1,q2⟩
end Go.Proofs.YtjdgiimfpkideaaGreatDoor
namespace Go.Proofs.YtjdgiimfpkideaaGreatDoor
open Go.RowKit Go.Proofs.Tryz
end Go.Proofs.YtjdgiimfpkideaaGreatDoor
