/- Rows of the model's frames at any offset, with the room behind them: held, and appended to; what lay in memory stands but for that row; no condition but those named. The model's ends of a numbered line and their lines, laid in memory; what stands while one of them is worked on; no condition but those named. The program turns a bit of a sent frame; what lay in memory stands but for the frame's bytes. -/
import Derived.Test.YtkcghhkkepndnaaGreatDoorS04
import Derived.Test.YtkcghhkkepndnaaGreatDoorS30
import Derived.Test.YtkcghhkkepndnaaGreatDoorS17
import Derived.Test.YtkcghhkkepndnaaGreatDoorS26
import Derived.Test.YtkcghhkkepndnaaGreatDoorS06
import Derived.Lib.Strings
import Derived.Deep.WholeRow
import Derived.Test.YtkcghhkkepndnaaGreatDoorShW
namespace Go.Proofs.YtkcghhkkepndnaaGreatDoor
open Go.RowKit
def sfcellsm (fs:List Sf):List Value:=fs.flatMap fun f=>[.string f.bytes,.string f.text]
theorem sfcells_lenm (fs:List Sf):(sfcellsm fs).length=fs.length*2:=by
 induction fs with
 | nil=>rfl
 | cons f fs ih=>simp [sfcellsm] at ih ⊢;omega
theorem sfcells_appendm (fs gs:List Sf):sfcellsm (fs ++ gs)=sfcellsm fs ++ sfcellsm gs:=by simp [sfcellsm]
theorem sfinfom:∃ i,Tryz.prog.info? 93=some i∧i.zero=some (.agg #[.string ⟨#[]⟩,.string ⟨#[]⟩])∧i.size=2∧i.bytes=32:=by
 have h:(Tryz.prog.info? 93).map (fun i=>(i.zero,i.size,i.bytes))=some (some (.agg #[.string ⟨#[]⟩,.string ⟨#[]⟩]),2,32):=by kernel_rfl
 obtain ⟨i,hi,hzz⟩:=Option.map_eq_some_iff.1 h
 simp only [Prod.mk.injEq] at hzz
 exact ⟨i,hi,hzz.1,hzz.2.1,hzz.2.2⟩
def HoldsPm (w:World) (v:Value) (F:List Sf):Prop :=
 (∃ ad cp,v=.slice ad 0 cp∧F=[])∨∃ g cp cur,v=.slice (some ⟨g,0,none⟩) F.length cp∧w.heap[g]?=some (.cells cur 93)∧F.length*2≤cur.size∧∀ j,j<F.length*2→cur[j]?=(sfcellsm F)[j]?
theorem HoldsPm.own {w:World} {base:Nat} {v:Value} {F:List Sf} (h:w.ownsRow base 93 2 v F.length (sfcellsm F)):HoldsPm w v F:=by
 rcases h.2 with ⟨h1,h2⟩ | ⟨g,cap,cur,h1,_,h3,h4,_,h6,h7⟩
 ·exact Or.inl ⟨_,_,h1,List.eq_nil_of_length_eq_zero h2⟩
 ·refine Or.inr ⟨g,cap,cur,h1,h3,by rw [h6];omega,fun j hj=>?_⟩
  rw [← h7,List.getElem?_take,if_pos hj,Array.getElem?_toList]
theorem HoldsPm.below {n:Nat} {w w':World} {v:Value} {F:List Sf} (h:HoldsPm w v F) (hb:Below n w w') (hn:n=w.heap.size):HoldsPm w' v F:=by
 subst hn
 exact h.imp id fun ⟨g,cp,cur,h1,h2,h3⟩=>⟨g,cp,cur,h1,(hb.block g (Array.getElem?_eq_some_iff.1 h2).1).trans h2,h3⟩
theorem HoldsPm.form {w:World} {v:Value} {F:List Sf} (h:HoldsPm w v F):∃ ad cp,v=.slice ad F.length cp:=by
 rcases h with ⟨ad,cp,h1,h2⟩ | ⟨g,cp,cur,h1,_⟩
 ·exact ⟨ad,cp,by rw [h1,h2];rfl⟩
 ·exact ⟨_,_,h1⟩
theorem HoldsPm.other {w w':World} {v:Value} {F:List Sf} (h:HoldsPm w v F) (hw:∀ g,v.ownBlock=some g→w'.heap[g]?=w.heap[g]?):HoldsPm w' v F:=by
 rcases h with ⟨ad,cp,e,e0⟩ | ⟨g,cp,cur,e,q1,q2⟩
 ·exact Or.inl ⟨ad,cp,e,e0⟩
 ·exact Or.inr ⟨g,cp,cur,e,(hw g (by rw [e];rfl)).trans q1,q2⟩
theorem HoldsPm.lt {w:World} {v:Value} {F:List Sf} (h:HoldsPm w v F) (hF:F≠[]) (g:Nat) (hg:v.ownBlock=some g):g<w.heap.size:=by
 rcases h with ⟨_,_,_,e⟩ | ⟨g',cp,cur,e,q1,_⟩
 ·exact absurd e hF
 ·rw [e] at hg
  cases hg
  exact (Array.getElem?_eq_some_iff.1 q1).1
def HoldsKm (W:World) (base:Nat) (v:Value) (P:List Sf):Prop :=
 (v=.slice none 0 0∧P=[])∨∃ g o cp cur,v=.slice (some ⟨g,o,none⟩) P.length cp∧W.heap[g]?=some (.cells cur 93)∧base≤g∧P.length≤cp∧o+cp*2≤cur.size∧∀ j,j<P.length*2→cur[o+j]?=(sfcellsm P)[j]?
theorem HoldsKm.form {W:World} {base:Nat} {v:Value} {P:List Sf} (h:HoldsKm W base v P):∃ a c,v=.slice a P.length c:=by
 rcases h with ⟨rfl,rfl⟩ | ⟨g,o,cp,cur,rfl,_⟩
 ·exact ⟨_,_,rfl⟩
 ·exact ⟨_,_,rfl⟩
theorem HoldsKm.keep {W W':World} {base:Nat} {v:Value} {P:List Sf} (h:HoldsKm W base v P) (k:∀ g cur,v.ownBlock=some g→base≤g→W.heap[g]?=some (.cells cur 93)→W'.heap[g]?=W.heap[g]?):HoldsKm W' base v P :=
 h.imp id fun ⟨g,o,cp,cur,e,h2,h3,h4⟩=>⟨g,o,cp,cur,e,(k g cur (by rw [e];rfl) h3 h2).trans h2,h3,h4⟩
theorem HoldsKm.own {W:World} {base:Nat} {v:Value} {P:List Sf} (h:W.ownsRow base 93 2 v P.length (sfcellsm P)):HoldsKm W base v P:=by
 rcases h.2 with ⟨h1,h2⟩ | ⟨g,cap,cur,h1,hb,h3,h4,_,h6,h7⟩
 ·exact Or.inl ⟨h1,List.eq_nil_of_length_eq_zero h2⟩
 ·refine Or.inr ⟨g,0,cap,cur,h1,h3,hb,h4,by omega,fun j hj=>?_⟩
  rw [Nat.zero_add,← h7,List.getElem?_take,if_pos hj,Array.getElem?_toList]
theorem HoldsKm.first {W:World} {base:Nat} {v:Value} {p:Sf} {P:List Sf} (h:HoldsKm W base v (p :: P)):∃ g o cp,v=.slice (some ⟨g,o,none⟩) (P.length+1) (cp+1)∧W.cell? ⟨g,o,none⟩=some (.string p.bytes)∧W.cell? ⟨g,o+1,none⟩=some (.string p.text)∧HoldsKm W base (.slice (some ⟨g,o+2,none⟩) P.length cp) P∧(cp=0→HoldsKm W base (.slice (some ⟨g,o,none⟩) P.length 0) P):=by
 rcases h with ⟨_,e⟩ | ⟨g,o,cp,cur,rfl,h2,h3,h4,h5,h6⟩
 ·cases e
 ·rw [List.length_cons] at h4 h6 ⊢
  obtain ⟨k,rfl⟩:∃ k,cp=k+1:=⟨cp - 1,by omega⟩
  have e:sfcellsm (p :: P)=.string p.bytes :: .string p.text :: sfcellsm P:=rfl
  refine ⟨g,o,k,rfl,?_,?_,Or.inr ⟨g,o+2,k,cur,rfl,h2,h3,by omega,by omega,fun j hj=>?_⟩,fun hk=>?_⟩
  ·rw [cell_of_row _ _ _ _ _ _ h2];exact h6 0 (by omega)
  ·rw [cell_of_row _ _ _ _ _ _ h2];exact h6 1 (by omega)
  ·have:=h6 (j+2) (by omega)
   rw [show o+2+j=o+(j+2) by omega,this,e]
   rfl
  ·have:P=[]:=List.eq_nil_of_length_eq_zero (by omega)
   subst this
   exact Or.inr ⟨g,o,0,cur,rfl,h2,h3,Nat.le_refl _,by omega,fun j hj=>absurd hj (by simp)⟩
theorem sfcells_onem (F:List Sf):∀ u ∈ sfcellsm F,u.oneCell'=true:=by
 intro u hu
 simp only [sfcellsm,List.mem_flatMap,List.mem_cons,List.not_mem_nil,or_false] at hu
 obtain ⟨f,_,rfl | rfl⟩:=hu<;>rfl
theorem run_append_no2m {W:World} (ty:TypeId) (ad ad':Option Addr) (n cap c':Nat) (hc:n≤cap):(Builtin.append_ #[68,68] ty #[.slice ad n cap,.slice ad' 0 c']).run Tryz.prog W=.ok (.slice ad n cap) W:=by
 obtain ⟨i,hi,hz,hsz,hby⟩:=sfinfom
 cases ad<;>cases ad'<;>simp [Builtin.append_,run_underlying Tryz.underlying68,sizeOf,typeInfo,hi,Builtin.lenOf,Builtin.firstCells,loadCells,loadCellsFrom,storeCells,hc]
theorem HoldsPm.news {W:World} {F:List Sf} {g cs:Nat} {cur:Array Value} (h1:W.heap[g]?=some (.cells cur 93)) (h2:∀ j,j<F.length*2→cur[j]?=(sfcellsm F)[j]?) (_:cs=cs):∀ j u,(sfcellsm F)[j]?=some u→W.cell? ((⟨g,0,none⟩:Addr).add j)=some u:=fun j u hu=>by
 have hj:j<F.length*2:=by have:=(List.getElem?_eq_some_iff.1 hu).1;rw [sfcells_lenm] at this;exact this
 rw [Addr.add_lit,Nat.zero_add,cell_of_row _ _ _ _ _ _ h1,h2 j hj]
 exact hu
theorem run_append_km {W:World} {base:Nat} {v s:Value} {P F:List Sf} (ty:TypeId) (hv:HoldsKm W base v P) (hs:HoldsPm W s F) (hP:P.length≤1000000) (hF:F.length≤1000000) (hbase:base≤W.heap.size) :
  ∃ v' W',(Builtin.append_ #[68,68] ty #[v,s]).run Tryz.prog W=.ok v' W'∧HoldsKm W' base v' (P ++ F)∧W.grownBy W' v.ownBlock∧∀ g,v'.ownBlock=some g→v.ownBlock=some g∨W.heap.size≤g:=by
 obtain ⟨i,hi,hz,hsz,hby⟩:=sfinfom
 rcases hs with ⟨ad,cs,rfl,rfl⟩ | ⟨g2,cs,cu,rfl,s2,s3,s4⟩
 ·rw [List.append_nil]
  rcases hv with ⟨rfl,rfl⟩ | ⟨g,o,cp,cur,rfl,h2,h3,h4,h5,h6⟩
  ·exact ⟨_,_,run_append_no2m ty none ad 0 0 cs (Nat.le_refl _),Or.inl ⟨rfl,rfl⟩,⟨rfl,rfl,rfl,Nat.le_refl _,fun _ _ _=>rfl⟩,fun _ h=>Or.inl h⟩
  ·exact ⟨_,_,run_append_no2m ty _ ad _ _ cs h4,Or.inr ⟨g,o,cp,cur,rfl,h2,h3,h4,h5,h6⟩,⟨rfl,rfl,rfl,Nat.le_refl _,fun _ _ _=>rfl⟩,fun _ h=>Or.inl h⟩
 ·have hnews:=HoldsPm.news (cs:=cs) s2 s4 rfl
  have grow:∀ (W':World) (v':Value),W'.ownsRow W.heap.size 93 2 v' (P.length+F.length) (sfcellsm P ++ sfcellsm F)→HoldsKm W' base v' (P ++ F)∧∀ g,v'.ownBlock=some g→v.ownBlock=some g∨W.heap.size≤g:=fun W' v' r1=>by
   have ho:HoldsKm W' W.heap.size v' (P ++ F):=HoldsKm.own (by rw [List.length_append,sfcells_appendm];exact r1)
   refine ⟨ho.imp id fun ⟨g,o,cp,cur,e,h2,h3,h4⟩=>⟨g,o,cp,cur,e,h2,Nat.le_trans hbase h3,h4⟩,fun g hg=>Or.inr ?_⟩
   rcases ho with ⟨e,_⟩ | ⟨g',o,cp,cur,e,h2,h3,_⟩
   ·rw [e] at hg;cases hg
   ·rw [e] at hg;cases hg;exact h3
  rcases hv with ⟨rfl,rfl⟩ | ⟨g,o,cp,cur,rfl,h2,h3,h4,h5,h6⟩
  ·obtain ⟨v',W',h1,r1,r2,_⟩:=run_append_own (P:=Tryz.prog) W W.heap.size 68 ty 93 i _ 2 32 Tryz.underlying68 hi hz hsz hby rfl (by decide) (.slice none 0 0) 0 (sfcellsm []) (World.ownsRow_nil _ _ _ _) ⟨g2,0,none⟩ F.length cs (sfcellsm F) (sfcells_lenm F) hnews (sfcells_onem F) (by unfold maxLen;omega) (by omega) (Nat.le_refl _)
   have:=grow W' v' (by simpa using r1)
   exact ⟨v',W',h1,this.1,r2,this.2⟩
  ·by_cases hr:P.length+F.length≤cp
   ·have hcell:∀ j,j<(sfcellsm F).length→(W.cell? ⟨g,o+P.length*i.size+j,none⟩).isSome=true∧W.frozen? ⟨g,o+P.length*i.size+j,none⟩=false:=by
     intro j hj
     rw [sfcells_lenm] at hj
     have hc:o+P.length*2+j<cur.size:=by omega
     rw [hsz,cell_of_row _ _ _ _ _ _ h2,Array.getElem?_eq_getElem hc]
     exact ⟨rfl,frz h2 _⟩
    have hrun:=run_append_room_cells (P:=Tryz.prog) W 68 ty 93 i Tryz.underlying68 hi g o P.length cp ⟨g2,0,none⟩ F.length cs (sfcellsm F) (by rw [hsz,sfcells_lenm]) hnews (sfcells_onem F) hr (fun j hj=>(hcell j hj).1) (fun j hj=>(hcell j hj).2)
    rw [hsz] at hrun
    obtain ⟨cur',k1,k2,k3,k4⟩:=setCells_row2 (sfcellsm F) (o+P.length*2) W cur h2 (by rw [sfcells_lenm];omega)
    refine ⟨_,_,hrun,Or.inr ⟨g,o,cp,cur',by rw [List.length_append],k1,h3,by rw [List.length_append];exact hr,by rw [k2];exact h5,fun j hj=>?_⟩,?_,fun _ h=>Or.inl h⟩
    ·rw [List.length_append] at hj
     rw [sfcells_appendm]
     by_cases ej:j<P.length*2
     ·rw [k3 _ (by omega),h6 j ej,List.getElem?_append_left (by rw [sfcells_lenm];exact ej)]
     ·have e5:o+j=o+P.length*2+(j - P.length*2):=by omega
      rw [List.getElem?_append_right (by rw [sfcells_lenm];omega),sfcells_lenm,e5]
      exact k4 (j - P.length*2) (by rw [sfcells_lenm];omega)
    ·have hb:=below_set3 (n:=0) (g:=g) (a:=W) (Nat.zero_le _) (sfcellsm F) (o+P.length*2) W (Below.refl 0 W)
     exact ⟨hb.os,hb.tape,hb.output,hb.size,fun k hkl hne=>set_other3 (fun e=>hne (by rw [e];rfl)) (sfcellsm F) _ _⟩
   ·obtain ⟨v',W',h1,r1,r2⟩:=run_append_arg_grows (P:=Tryz.prog) W 68 ty 93 i _ 2 32 Tryz.underlying68 hi hz hsz hby rfl (by decide) ⟨g,o,none⟩ P.length cp (sfcellsm P) (sfcells_lenm P) (fun j u hu=>by
      have hj:j<P.length*2:=by have:=(List.getElem?_eq_some_iff.1 hu).1;rw [sfcells_lenm] at this;exact this
      rw [Addr.add_lit,cell_of_row _ _ _ _ _ _ h2,h6 j hj]
      exact hu) ⟨g2,0,none⟩ F.length cs (sfcellsm F) (sfcells_lenm F) hnews (by omega) (by unfold maxLen;omega) (by omega)
    have:=grow W' v' r1
    exact ⟨v',W',h1,this.1,⟨r2.os,r2.tape,r2.output,r2.size,fun k hk _=>r2.block k hk (by simp)⟩,this.2⟩
theorem HoldsKm.fst {W:World} {base:Nat} {v:Value} {p:Sf} {P:List Sf} (h:HoldsKm W base v (p :: P)):∃ g o cp cur,v=.slice (some ⟨g,o,none⟩) (P.length+1) (cp+1)∧W.heap[g]?=some (.cells cur 93)∧cur[o]?=some (.string p.bytes)∧cur[o+1]?=some (.string p.text):=by
 rcases h with ⟨_,e⟩ | ⟨g,o,cp,cur,rfl,h2,h3,h4,h5,h6⟩
 ·cases e
 ·rw [List.length_cons] at h4 h6 ⊢
  obtain ⟨k,rfl⟩:∃ k,cp=k+1:=⟨cp - 1,by omega⟩
  exact ⟨g,o,k,cur,rfl,h2,h6 0 (by omega),h6 1 (by omega)⟩
theorem elemSfm:Tryz.prog.elem 68=93:=by kernel_rfl
theorem slice_km (g o n cp:Nat):∃ b:Addr,(0<cp→b=⟨g,o+2,none⟩)∧(b=⟨g,o+2,none⟩∨b=⟨g,o,none⟩)∧∀ z:World,(Instr.slice 68 (.slice (some ⟨g,o,none⟩) (n+1) (cp+1)) (some (.int .i64 1)) none none).run Tryz.prog z=.ok (.slice (some b) n cp) z:=by
 refine ⟨if cp+1=1 then ⟨g,o,none⟩ else ⟨g,o+2,none⟩,fun h=>if_neg (by omega),?_,fun z=>?_⟩
 ·split
  ·exact Or.inr rfl
  ·exact Or.inl rfl
 ·have hs:=Tryz.sizeOf93 z
  rw [run_slice_l (P:=Tryz.prog) (w:=z) 68 (some ⟨g,o,none⟩) (n+1) (cp+1) (by rw [elemSfm];exact Tryz.underlying68) .i64 1 (by omega) (by omega),elemSfm,hs]
  simp [Result.andThen,sliced]
  split<;>rfl
theorem HoldsKm.tail {W:World} {base g o n cp:Nat} {Q:List Sf} {b:Addr} (h:HoldsKm W base (.slice (some ⟨g,o,none⟩) (n+1) (cp+1)) Q) (hb:0<cp→b=⟨g,o+2,none⟩) (hb2:b=⟨g,o+2,none⟩∨b=⟨g,o,none⟩):∃ p P,Q=p :: P∧P.length=n∧HoldsKm W base (.slice (some b) n cp) P:=by
 obtain ⟨a,c,e⟩:=h.form
 injection e with _ e _
 match Q,h,e with
 | [],_,e=>simp at e
 | p :: P,h,e =>
  rw [List.length_cons] at e
  have e':P.length=n:=by omega
  subst e'
  obtain ⟨g',o',cp',e1,_,_,h1,h2⟩:=h.first
  injection e1 with e1 _ e2
  injection e1 with e1
  injection e1 with e1 e3 _
  have e4:cp=cp':=by omega
  subst e1 e3 e4
  refine ⟨p,P,rfl,rfl,?_⟩
  by_cases hc:0<cp
  ·rw [hb hc];exact h1
  ·have hc0:cp=0:=by omega
   subst hc0
   rcases hb2 with rfl | rfl
   ·exact h1
   ·exact h2 rfl
end Go.Proofs.YtkcghhkkepndnaaGreatDoor
namespace Go.Proofs.YtkcghhkkepndnaaGreatDoor
open Go.RowKit
def smC (p:Lp) (vq:Value) (d:Dm) (vl:Value):List Value:=(lpC p vq).toList ++ dmC d ++ [vl]
structure Sm (base:Nat) (W:World) (S:Nat) (s:Nl) (vq vl:Value):Prop where
 row:W.heap[S]?=some (.cells (smC s.p vq s.df vl).toArray 70)
 hq:HoldsS W vq s.Q
 qo:∀ g,Kv vq g→base≤g∧g<W.heap.size
 hl:HoldsKm W base vl s.ln
 le:s.ln.length≤40
 bs:base≤W.heap.size
theorem HoldsKm.blk {W:World} {base:Nat} {v:Value} {L:List Sf} (h:HoldsKm W base v L) (g:Nat) (hg:v.ownBlock=some g):base≤g∧g<W.heap.size∧∃ cur,W.heap[g]?=some (.cells cur 93):=by
 rcases h with ⟨rfl,_⟩ | ⟨g',o,cp,cur,rfl,h2,h3,_⟩
 ·cases hg
 ·cases hg
  exact ⟨h3,(Array.getElem?_eq_some_iff.1 h2).1,cur,h2⟩
section
variable {base:Nat} {W W':World} {S:Nat} {s:Nl} {vq vl vl':Value}
theorem Sm.lt (h:Sm base W S s vq vl):S<W.heap.size:=(Array.getElem?_eq_some_iff.1 h.row).1
theorem Sm.keep (h:Sm base W S s vq vl) (hS:W'.heap[S]?=W.heap[S]?) (hz:W.heap.size≤W'.heap.size) (k1:∀ (g:Nat) (cur:Array Value),Kv vq g→W.heap[g]?=some (.cells cur 9)→W'.heap[g]?=W.heap[g]?) (k2:∀ (g:Nat) (cur:Array Value),Kv vl g→W.heap[g]?=some (.cells cur 93)→W'.heap[g]?=W.heap[g]?):Sm base W' S s vq vl :=
 ⟨hS.trans h.row,h.hq.other fun g cur hv hg=>k1 g cur hv hg,fun g hg=>⟨(h.qo g hg).1,Nat.lt_of_lt_of_le (h.qo g hg).2 hz⟩,h.hl.keep fun g cur hv _ hg=>k2 g cur hv hg,h.le,Nat.le_trans h.bs hz⟩
theorem Sm.below (h:Sm base W S s vq vl) (hb:Below W.heap.size W W'):Sm base W' S s vq vl :=
 h.keep (hb.block S h.lt) hb.size (fun g _ _ hg=>hb.block g (Array.getElem?_eq_some_iff.1 hg).1) (fun g _ _ hg=>hb.block g (Array.getElem?_eq_some_iff.1 hg).1)
theorem Sm.cl (h:Sm base W S s vq vl):W.cell? ⟨S,12,none⟩=some vl∧W.frozen? ⟨S,12,none⟩=false:=⟨by rw [cr h.row];rfl,frz h.row _⟩
theorem Sm.lp (h:Sm base W S s vq vl):W.rangeAt S 0 (lpC s.p vq).toList:=by
 have r:W.heap[S]?=some (.cells ([] ++ (lpC s.p vq).toList ++ (dmC s.df ++ [vl])).toArray 70):=by rw [h.row];unfold smC;simp
 exact range_blk r
theorem Sm.dm (h:Sm base W S s vq vl):W.rangeAt S 6 (dmC s.df):=by
 have r:W.heap[S]?=some (.cells ((lpC s.p vq).toList ++ dmC s.df ++ [vl]).toArray 70):=h.row
 exact range_blk r
theorem Sm.there (h:Sm base W S s vq vl) (o k:Nat) (hk:o+k≤13):W.there S o k:=fun j hj=>by
 rw [cr h.row]
 have hl:(smC s.p vq s.df vl).length=13:=rfl
 rw [List.getElem?_toArray,List.getElem?_eq_getElem (by omega)]
 exact ⟨rfl,frz h.row _⟩
theorem Sm.setLine (h:Sm base W S s vq vl) {W1:World} {L:List Sf} (hk:HoldsKm W1 base vl' L) (gr:W.grownBy W1 vl.ownBlock) (ho:∀ g,vl'.ownBlock=some g→vl.ownBlock=some g∨W.heap.size≤g) (le:L.length≤40) :
  Sm base (W1.setCell ⟨S,12,none⟩ vl') S (lnN s L) vq vl'∧Fz (fun k=>k=S) (Kv vl) (Kv vl') W (W1.setCell ⟨S,12,none⟩ vl'):=by
 have nS:some S≠vl.ownBlock:=fun e=>by
  obtain ⟨_,_,c,h3⟩:=h.hl.blk S e.symm
  exact typ_ne h3 h.row (by decide) rfl
 have r:W1.heap[S]?=some (.cells ((lpC s.p vq).toList ++ dmC s.df ++ [vl] ++ []).toArray 70):=by rw [gr.block S h.lt nS,h.row];unfold smC;simp
 have r2:=set_blk [vl] [vl'] _ _ W1 r rfl
 have e:((lpC s.p vq).toList ++ dmC s.df).length=12:=rfl
 rw [e,List.append_nil] at r2
 have ot:∀ k,k≠S→(W1.setCell ⟨S,12,none⟩ vl').heap[k]?=W1.heap[k]?:=fun k hk=>heap_setCell_other _ _ _ _ hk
 have hz:=((Below.refl 0 W1).setCell (p:=⟨S,12,none⟩) (Nat.zero_le _) vl')
 have hsz:W.heap.size≤(W1.setCell ⟨S,12,none⟩ vl').heap.size:=Nat.le_trans gr.size hz.size
 refine ⟨⟨r2,h.hq.other fun g cur _ hg=>(ot g (typ_ne hg h.row (by decide))).trans (gr.block g (Array.getElem?_eq_some_iff.1 hg).1 fun e=>?_),fun g hg=>⟨(h.qo g hg).1,Nat.lt_of_lt_of_le (h.qo g hg).2 hsz⟩,hk.keep fun g cur _ _ hg=>ot g (typ_ne hg r (by decide)),le,Nat.le_trans h.bs hsz⟩,hz.os.trans gr.os,hz.tape.trans gr.tape,hz.output.trans gr.output,hsz,fun k hk h1 h2=>(ot k h1).trans (gr.block k hk fun e=>h2 e.symm),fun g hg=>ho g hg⟩
 obtain ⟨_,_,c,h3⟩:=h.hl.blk g e.symm
 exact typ_ne hg h3 (by decide) rfl
theorem Sm.setX (h:Sm base W S s vq vl) (o:Nat) (vs:List Value) (p:Lp) (vq':Value) (Q:List ByteArray) (d:Dm) (hq:HoldsS W vq' Q) (qo:∀ g,Kv vq' g→base≤g∧g<W.heap.size) (e:(W.setCells S o vs).heap[S]?=some (.cells (smC p vq' d vl).toArray 70)) :
  Sm base (W.setCells S o vs) S ⟨p,Q,s.ln,d,s.gt⟩ vq' vl:=by
 have ot:∀ k,k≠S→(W.setCells S o vs).heap[k]?=W.heap[k]?:=fun k hk=>set_other3 hk vs o W
 have hz:=(below_set3 (n:=0) (g:=S) (a:=W) (Nat.zero_le _) vs o W (Below.refl 0 W)).size
 exact ⟨e,hq.other fun g cur _ hg=>ot g (typ_ne hg h.row (by decide)),fun g hg=>⟨(qo g hg).1,Nat.lt_of_lt_of_le (qo g hg).2 hz⟩,h.hl.keep fun g cur _ _ hg=>ot g (typ_ne hg h.row (by decide)),h.le,Nat.le_trans h.bs hz⟩
theorem Sm.setP (h:Sm base W S s vq vl) (p:Lp) (vq':Value) (Q:List ByteArray) (hq:HoldsS W vq' Q) (qo:∀ g,Kv vq' g→base≤g∧g<W.heap.size):Sm base (W.setCells S 0 (lpC p vq').toList) S ⟨p,Q,s.ln,s.df,s.gt⟩ vq' vl:=by
 have r:W.heap[S]?=some (.cells ([] ++ (lpC s.p vq).toList ++ (dmC s.df ++ [vl])).toArray 70):=by rw [h.row];unfold smC;simp
 have r2:=set_blk (lpC s.p vq).toList (lpC p vq').toList [] _ W r rfl
 refine h.setX 0 _ p vq' Q s.df hq qo ?_
 have r3:(W.setCells S 0 (lpC p vq').toList).heap[S]?=_:=r2
 rw [r3]
 unfold smC
 simp
theorem Sm.setD (h:Sm base W S s vq vl) (d:Dm):Sm base (W.setCells S 6 (dmC d)) S ⟨s.p,s.Q,s.ln,d,s.gt⟩ vq vl:=by
 have r:W.heap[S]?=some (.cells ((lpC s.p vq).toList ++ dmC s.df ++ [vl]).toArray 70):=h.row
 have r2:=set_blk (dmC s.df) (dmC d) _ _ W r rfl
 exact h.setX 6 _ s.p vq s.Q d h.hq h.qo r2
end
end Go.Proofs.YtkcghhkkepndnaaGreatDoor
namespace Go.Proofs.YtkcghhkkepndnaaGreatDoor
open Go.RowKit
theorem str_bytes9 (v:World) (U:ByteArray) :
  ∃ (cap:Nat) (v3:World),(convert 9 22 (.string U)).run Tryz.prog v=.ok (.slice (some ⟨v.heap.size,0,none⟩) U.size cap) v3 ∧
   (∀ j (h:j<U.data.toList.length),v3.cell? ⟨v.heap.size,j,none⟩=some (.int .u8 ((U.data.toList[j]).toNat:Int)))∧(∀ j,j<U.size→v3.frozen? ⟨v.heap.size,j,none⟩=false)∧Below v.heap.size v v3:=by
 have hh:∀ (C:Array Value) (f:Nat × Nat),(v.drew.alloc (.cells C 5 f)).heap[v.heap.size]?=some (.cells C 5 f):=fun C f=>heap_alloc_last v.drew _
 refine ⟨_,_,run_bytes_of_string (P:=Tryz.prog) v 9 22 5 U Tryz.underlying9 Tryz.underlying22 Tryz.underlying5,?_,?_,?_⟩
 ·intro j hj
  have hj':j<U.size:=by rw [Lib.size_eq];exact hj
  rw [cell_of_row _ _ j _ _ _ (hh _ _)]
  simp [bytesRow,Array.getElem?_append,hj']
 ·intro j hj
  have hs:U.size≤(bytesRow U (grownCap v U.size 0 5)).size:=by
   simp only [bytesRow,Array.size_append,Array.size_map]
   have:U.data.size=U.size:=rfl
   omega
  unfold World.frozen?
  simp only [hh]
  rw [Bool.and_eq_false_iff]
  exact Or.inl (decide_eq_false (by omega))
 ·exact ((Below.refl _ _).drew).alloc (Nat.le_refl _) _
theorem bytes_back9 (v:World) (g cap r:Nat) (c:UInt8) (U:ByteArray) (hc:∀ j (h:j<U.data.toList.length),v.cell? ⟨g,j,none⟩=some (.int .u8 ((U.data.toList[j]).toNat:Int))) :
  (convert 22 9 (.slice (some ⟨g,0,none⟩) U.size cap)).run Tryz.prog (v.setCell ⟨g,r,none⟩ (.int .u8 (c.toNat:Int)))=.ok (.string (txt (U.data.toList.set r c))) (v.setCell ⟨g,r,none⟩ (.int .u8 (c.toNat:Int))):=by
 have hl:U.size=(U.data.toList.set r c).length:=by rw [List.length_set];exact Lib.size_eq U
 rw [hl]
 refine run_convert_bytes_back (P:=Tryz.prog) _ 22 9 5 ⟨g,0,none⟩ cap _ Tryz.underlying22 Tryz.underlying5 Tryz.underlying9 (fun j hj=>?_)
 rw [Addr.add_lit,Nat.zero_add]
 have hj':j<U.data.toList.length:=by simpa using hj
 by_cases h:r=j
 ·subst h
  rw [List.getElem_set_self]
  exact World.cell?_setCell_same _ _ _ (hc r hj')
 ·rw [List.getElem_set_ne h,World.cell?_setCell_other _ _ _ _ (fun e=>h (by injection e)),hc j hj']
theorem wrap_q (r:Nat) (h:r<8000):IntKind.i64.wrap ((r:Int) / 8)=(r:Int) / 8:=by
 simp only [IntKind.wrap,IntKind.bits,IntKind.signed]
 simp
 omega
theorem pow_q (r:Nat):IntKind.u8.wrap (2 ^ ((r:Int) % 8).toNat)=2 ^ (r % 8):=by
 have e:((r:Int) % 8).toNat=r % 8:=by omega
 rw [e]
 have h:r % 8<8:=Nat.mod_lt _ (by decide)
 generalize r % 8=q at h
 have:q=0∨q=1∨q=2∨q=3∨q=4∨q=5∨q=6∨q=7:=by omega
 rcases this with rfl | rfl | rfl | rfl | rfl | rfl | rfl | rfl<;>decide
theorem xor_q (c:UInt8) (q:Nat) (h:q<8):bits .xor .u8 (c.toNat:Int) ((2 ^ q:Nat):Int)=((c ^^^ UInt8.ofNat (2 ^ q)).toNat:Int):=by
 have hp:2 ^ q<256:=by
  have:q=0∨q=1∨q=2∨q=3∨q=4∨q=5∨q=6∨q=7:=by omega
  rcases this with rfl | rfl | rfl | rfl | rfl | rfl | rfl | rfl<;>decide
 rw [u8_xor_nat _ _ c.toNat_lt hp,UInt8.toNat_xor]
 have e:(UInt8.ofNat (2 ^ q)).toNat=2 ^ q:=by simp;omega
 rw [e]
set_option maxHeartbeats 4000000 in
set_option maxRecDepth 100000 in
theorem iTurnBit {W:World} {g o:Nat} {u:ByteArray} (n:Nat) (_hn:(n:Int)≤9223372036854775807) (h1:1≤u.size) (h2:u.size≤411) (hg:g<W.heap.size) (hc:W.cell? ⟨g,o+1,none⟩=some (.string u)) (hf:W.frozen? ⟨g,o+1,none⟩=false) :
  Calls Tryz.prog 65 #[.pointer (some ⟨g,o,none⟩),.int .i64 (n:Int)] W fun e W'=>e=.returned (.tuple #[])∧∃ W1,Below W.heap.size W W1∧W'=W1.setCell ⟨g,o+1,none⟩ (.string (turnV u n)):=by
 obtain ⟨cap,v3,hcv,hcs,hfs,hbv⟩:=str_bytes9 W u
 obtain ⟨A,hA⟩:∃ A,W.heap.size=A:=⟨_,rfl⟩
 rw [hA] at hcv hcs hfs
 have hr:n % (8*u.size)<8*u.size:=Nat.mod_lt _ (by omega)
 have hi:n % (8*u.size) / 8<u.size:=by omega
 have hi2:n % (8*u.size) / 8<u.data.toList.length:=by rw [← Lib.size_eq];exact hi
 obtain ⟨c,hcc⟩:∃ c,u.data.toList[n % (8*u.size) / 8]=c:=⟨_,rfl⟩
 have cx:=hcs _ hi2
 rw [hcc] at cx
 have fx:=hfs _ hi
 have hmod:(Int.tmod (n:Int) ((u.size:Int)*8))=((n % (8*u.size):Nat):Int):=by
  rw [Nat.mul_comm 8]
  rfl
 unfold turnV
 rw [List.getD_eq_getElem?_getD,List.getElem?_eq_getElem hi2,Option.getD_some,hcc]
 generalize hrr:n % (8*u.size)=r at *
 obtain ⟨d,hd⟩:∃ d,c ^^^ UInt8.ofNat (2 ^ (r % 8))=d:=⟨_,rfl⟩
 rw [hd]
 have HB:=hide (fun (d:UInt8)=>bytes_back9 v3.drew A cap (r / 8) d u hcs)
 have HV:=hide hbv
 have HC:=hide hcs
 have HCC:=hide hcc
 have hb3:v3.cell? ⟨g,o+1,none⟩=some (.string u):=(hbv.cell (p:=⟨g,o+1,none⟩) hg).trans hc
 clear hcs hfs hbv hcc
 generalize hsz:u.size=k at *
 go_enter Tryz.func65,Tryz.ntmps65
 go_upto_region 2 with fail
 have cx9:v3.drew.cell? ⟨A,r / 8,none⟩=some (.int .u8 (c.toNat:Int)):=cx
 have fx9:v3.drew.frozen? ⟨A,r / 8,none⟩=false:=fx
 have hb9:(v3.drew.setCell ⟨A,r / 8,none⟩ (.int .u8 (d.toNat:Int))).cell? ⟨g,o+1,none⟩=some (.string u):=by
  rw [World.cell?_setCell_other _ _ _ _ (fun e=>by injection e with e1;omega)]
  exact hb3
 have hfz:(v3.drew.setCell ⟨A,r / 8,none⟩ (.int .u8 (d.toNat:Int))).frozen? ⟨g,o+1,none⟩=false:=by
  unfold World.frozen?
  rw [heap_setCell_other _ _ _ _ (by show g≠A;omega)]
  rw [show v3.drew.heap[g]?=W.heap[g]? from (uh HV).block g hg]
  exact hf
 have HR:=hide (And.intro hb9 hfz)
 clear hb9 hfz hb3 cx fx
 refine wp_region_held_drew (S:=fun _=>True) (by kernel_rfl) trivial (fun hHeld=>?_)
 refine t2 0 ?_
 refine t2 1 ?_
 refine t2 5 ?_
 refine tk 2 (v:=.int .i64 ((r / 8:Nat):Int)) rfl (fun w _=>?_) ?_
 ·go_simp
  exact wrap_q r (by omega)
 refine tk 6 (v:=.int .i64 ((r % 8:Nat):Int)) rfl (fun w _=>?_) ?_
 ·go_simp
  exact Int.tmod_eq_emod_of_nonneg (by omega)
 try simp only [Act.put,sA,sZ,sS,gA,gZ,gS]
 refine tk 3 (v:=.pointer (some ⟨A,r / 8,none⟩)) rfl (fun w _=>?_) ?_
 ·go_simp
  rw [if_pos ⟨by omega,by omega⟩,show ((r:Int) / 8).toNat=r / 8 by omega]
 try simp only [Act.put,sA,sZ,sS,gA,gZ,gS]
 refine tk 7 (v:=.int .u8 ((2 ^ (r % 8):Nat):Int)) rfl (fun w _=>?_) ?_
 ·go_simp
  exact pow_q r
 try simp only [Act.put,sA,sZ,sS,gA,gZ,gS]
 refine r1 4 rfl (fun K hK=>?_)
 go_simp
 refine ro hK trivial fun _=>?_
 clear hK K
 refine tk 8 (v:=.int .u8 (d.toNat:Int)) rfl (fun w _=>?_) ?_
 ·go_simp
  rw [← hd]
  exact xor_q c (r % 8) (Nat.mod_lt _ (by decide))
 try simp only [Act.put,sA,sZ,sS,gA,gZ,gS]
 refine tk 9 (v:=.pointer (some ⟨A,r / 8,none⟩)) rfl (fun w _=>?_) ?_
 ·go_simp
  rw [if_pos ⟨by omega,by omega⟩,show ((r:Int) / 8).toNat=r / 8 by omega]
 try simp only [Act.put,sA,sZ,sS,gA,gZ,gS]
 refine r1 10 rfl (fun K hK=>?_)
 go_simp
 refine ro hK trivial fun _=>?_
 clear hK K
 refine dn ?_ _
 have hcv2:(convert 22 9 (.slice (some ⟨A,0,none⟩) k cap)).run Tryz.prog (v3.setCell ⟨A,r / 8,none⟩ (.int .u8 (d.toNat:Int))).drew=.ok (.string (txt (u.data.toList.set (r / 8) d))) (v3.setCell ⟨A,r / 8,none⟩ (.int .u8 (d.toNat:Int))).drew:=uh HB d
 have hfz:=(uh HR).2
 have hfz3:v3.frozen? ⟨g,o+1,none⟩=false:=by
  unfold World.frozen?
  rw [(uh HV).block g hg]
  exact hf
 have hb3:v3.cell? ⟨g,o+1,none⟩=some (.string u):=((uh HV).cell (p:=⟨g,o+1,none⟩) hg).trans hc
 go_wp2_with fail
 refine bodyPost_end (results_none rfl _ _ _) rfl ?_
 refine ⟨rfl,(v3.setCell ⟨A,r / 8,none⟩ (.int .u8 (d.toNat:Int))).drew,?_,rfl⟩
 exact ((uh HV).setCell (p:=⟨A,r / 8,none⟩) (by show W.heap.size≤A;omega) _).drew
end Go.Proofs.YtkcghhkkepndnaaGreatDoor
