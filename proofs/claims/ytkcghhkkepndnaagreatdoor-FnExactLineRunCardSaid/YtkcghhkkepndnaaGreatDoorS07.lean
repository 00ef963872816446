/- A line of sent frames inside a struct in memory: its first is taken off, one is put behind; what lay in memory stands but for the line and its row; no condition but those named. Rows of numbered frames in memory, and one put behind others; no condition but those named. A numbered line's end at work, laid in memory: its cells, its map, its rows; no condition but those named. The program's end at work: the first text that waits stands by the next number; what else lay in memory stands. Is a number a protocol: the program's and the model's walks; memory stands as it was. -/
import Derived.Test.YtkcghhkkepndnaaGreatDoorS02
import Derived.Test.YtkcghhkkepndnaaGreatDoorShW
import Derived.Deep.MidRow
import Derived.Deep.DeepCutAuto
import Derived.Test.YtkcghhkkepndnaaGreatDoorS00
import Derived.Test.YtkcghhkkepndnaaGreatDoorS03
import Derived.Great.Walk
import Derived.Test.YtkcghhkkepndnaaGreatDoorS01
namespace Go.Proofs.YtkcghhkkepndnaaGreatDoor
open Go.RowKit
theorem set_blk {B:Nat} {T:TypeId}:∀ (Y vs X Z:List Value) (W:World),W.heap[B]?=some (.cells (X ++ Y ++ Z).toArray T)→vs.length=Y.length→(W.setCells B X.length vs).heap[B]?=some (.cells (X ++ vs ++ Z).toArray T)
 | [],vs,X,Z,W,h,e=>by
  have:=List.eq_nil_of_length_eq_zero e
  subst this
  exact h
 | y :: Y,[],X,Z,W,h,e=>by simp at e
 | y :: Y,v :: vs,X,Z,W,h,e=>by
  have h1:=heap_setCell_same _ _ X.length _ _ v h
  have h2:(X ++ y :: Y ++ Z).toArray.setIfInBounds X.length v=((X ++ [v]) ++ Y ++ Z).toArray:=by
   simp
  rw [h2] at h1
  have h3:=set_blk Y vs (X ++ [v]) Z _ h1 (by simpa using e)
  rw [List.length_append,List.length_singleton] at h3
  rw [show X ++ v :: vs ++ Z=X ++ [v] ++ vs ++ Z by simp]
  exact h3
theorem range_blk {W:World} {B:Nat} {X Y Z:List Value} {T:TypeId} (h:W.heap[B]?=some (.cells (X ++ Y ++ Z).toArray T)):W.rangeAt B X.length Y:=fun j v hj=>by
 rw [cell_of_row _ _ _ _ _ _ h]
 have:=(List.getElem?_eq_some_iff.1 hj).1
 rw [List.getElem?_toArray,List.append_assoc,List.getElem?_append_right (by omega),List.getElem?_append_left (by omega),Nat.add_sub_cancel_left]
 exact hj
theorem cell_blk {W:World} {B:Nat} {X Z:List Value} {v:Value} {T:TypeId} (h:W.heap[B]?=some (.cells (X ++ [v] ++ Z).toArray T)):W.cell? ⟨B,X.length,none⟩=some v:=range_blk h 0 v rfl
structure Fr (B:Nat) (v v':Value) (W W':World):Prop where
 os:W'.os=W.os
 tape:W'.tape=W.tape
 output:W'.output=W.output
 size:W.heap.size≤W'.heap.size
 same:∀ k,k<W.heap.size→k≠B→v.ownBlock≠some k→W'.heap[k]?=W.heap[k]?
 own:∀ g,v'.ownBlock=some g→v.ownBlock=some g∨W.heap.size≤g
theorem Fr.trans {B:Nat} {v v' v'':Value} {W W' W'':World} (h:Fr B v v' W W') (k:Fr B v' v'' W' W''):Fr B v v'' W W'' :=
 ⟨k.os.trans h.os,k.tape.trans h.tape,k.output.trans h.output,Nat.le_trans h.size k.size,fun i hi h1 h2=>(k.same i (Nat.lt_of_lt_of_le hi h.size) h1 fun e=>(h.own i e).elim (fun e=>h2 e) (fun e=>by omega)).trans (h.same i hi h1 h2),
  fun g hg=>(k.own g hg).elim (h.own g) (fun e=>Or.inr (Nat.le_trans h.size e))⟩
theorem Fr.of_below {B:Nat} {v:Value} {W W':World} (h:Below W.heap.size W W'):Fr B v v W W' :=
 ⟨h.os,h.tape,h.output,h.size,fun k hk _ _=>h.block k hk,fun _ hg=>Or.inl hg⟩
theorem Fr.refl (B:Nat) (v:Value) (W:World):Fr B v v W W:=Fr.of_below (Below.refl _ _)
theorem Fr.grown {B:Nat} {v v':Value} {W W':World} (hg:W.grownBy W' v.ownBlock) (ho:∀ g,v'.ownBlock=some g→v.ownBlock=some g∨W.heap.size≤g):Fr B v v' W W' :=
 ⟨hg.os,hg.tape,hg.output,hg.size,fun k hk _ h2=>hg.block k hk (fun e=>h2 e.symm),ho⟩
theorem Fr.cells {B:Nat} (v v':Value) (W:World) (ho:∀ g,v'.ownBlock=some g→v.ownBlock=some g∨W.heap.size≤g) (o:Nat) (vs:List Value):Fr B v v' W (W.setCells B o vs):=by
 have hb:=below_set3 (n:=0) (g:=B) (a:=W) (Nat.zero_le _) vs o W (Below.refl 0 W)
 exact ⟨hb.os,hb.tape,hb.output,hb.size,fun k _ h1 _=>set_other3 h1 vs o W,ho⟩
structure Wr (base:Nat) (T:TypeId) (W:World) (B:Nat) (X Z:List Value) (v:Value) (L:List Sf):Prop where
 row:W.heap[B]?=some (.cells (X ++ [v] ++ Z).toArray T)
 hk:HoldsK W base v L
 le:L.length≤40
 bs:base≤W.heap.size
 nT:T≠82
section
variable {base:Nat} {T:TypeId} {W W':World} {B:Nat} {X Z:List Value} {v:Value} {L:List Sf}
theorem Wr.ownB (h:Wr base T W B X Z v L) (g:Nat) (hg:v.ownBlock=some g):g≠B∧base≤g∧g<W.heap.size∧∃ cur,W.heap[g]?=some (.cells cur 82):=by
 rcases h.hk with ⟨rfl,_⟩ | ⟨g',o,cp,cur,rfl,h2,h3,_⟩
 ·cases hg
 ·cases hg
  refine ⟨fun (e:g'=B)=>?_,h3,(Array.getElem?_eq_some_iff.1 h2).1,cur,h2⟩
  rw [e,h.row] at h2
  injection h2 with h2
  injection h2 with _ h2
  exact h.nT h2
theorem Wr.lt (h:Wr base T W B X Z v L):B<W.heap.size:=(Array.getElem?_eq_some_iff.1 h.row).1
theorem Wr.below (h:Wr base T W B X Z v L) (hb:Below W.heap.size W W'):Wr base T W' B X Z v L :=
 ⟨(hb.block B h.lt).trans h.row,h.hk.keep fun g _ hg _ _=>hb.block g (h.ownB g hg).2.2.1,h.le,Nat.le_trans h.bs hb.size,h.nT⟩
theorem Wr.set (h:Wr base T W B X Z v L) {v':Value} {L':List Sf} (hk:HoldsK W base v' L') (le:L'.length≤40):Wr base T (W.setCell ⟨B,X.length,none⟩ v') B X Z v' L':=by
 have h1:=set_blk [v] [v'] X Z W h.row rfl
 refine ⟨h1,hk.keep fun g cur hg _ h2=>heap_setCell_other _ _ _ _ (fun e=>?_),le,Nat.le_trans h.bs (((Below.refl 0 W).setCell (p:=⟨B,X.length,none⟩) (Nat.zero_le _) _).size),h.nT⟩
 have e':g=B:=e
 rw [e',h.row] at h2
 injection h2 with h2
 injection h2 with _ h2
 exact h.nT h2
end
end Go.Proofs.YtkcghhkkepndnaaGreatDoor
namespace Go.Proofs.YtkcghhkkepndnaaGreatDoor
open Go.RowKit
def nbcells (fs:List Nb):List Value:=fs.flatMap fun f=>[.int .i64 f.kind,.int .i64 f.ns,.int .i64 f.nr,.string f.text]
theorem nbcells_append (fs gs:List Nb):nbcells (fs ++ gs)=nbcells fs ++ nbcells gs:=by simp [nbcells]
theorem nbinfo:∃ i,Tryz.prog.info? 96=some i∧i.zero=some (.agg #[.int .i64 0,.int .i64 0,.int .i64 0,.string ⟨#[]⟩])∧i.size=4∧i.bytes=40:=by
 have h:(Tryz.prog.info? 96).map (fun i=>(i.zero,i.size,i.bytes))=some (some (.agg #[.int .i64 0,.int .i64 0,.int .i64 0,.string ⟨#[]⟩]),4,40):=by kernel_rfl
 obtain ⟨i,hi,hzz⟩:=Option.map_eq_some_iff.1 h
 simp only [Prod.mk.injEq] at hzz
 exact ⟨i,hi,hzz.1,hzz.2.1,hzz.2.2⟩
def HoldsN (w:World) (v:Value) (F:List Nb):Prop :=
 (∃ ad cp,v=.slice ad 0 cp∧F=[])∨∃ g cp cur,v=.slice (some ⟨g,0,none⟩) F.length cp∧w.heap[g]?=some (.cells cur 96)∧F.length*4≤cur.size∧∀ j,j<F.length*4→cur[j]?=(nbcells F)[j]?
theorem HoldsN.own {w:World} {base:Nat} {v:Value} {F:List Nb} (h:w.ownsRow base 96 4 v F.length (nbcells F)):HoldsN w v F:=by
 rcases h.2 with ⟨h1,h2⟩ | ⟨g,cap,cur,h1,_,h3,h4,_,h6,h7⟩
 ·exact Or.inl ⟨_,_,h1,List.eq_nil_of_length_eq_zero h2⟩
 ·refine Or.inr ⟨g,cap,cur,h1,h3,by rw [h6];omega,fun j hj=>?_⟩
  rw [← h7,List.getElem?_take,if_pos hj,Array.getElem?_toList]
theorem HoldsN.below {n:Nat} {w w':World} {v:Value} {F:List Nb} (h:HoldsN w v F) (hb:Below n w w') (hn:n=w.heap.size):HoldsN w' v F:=by
 subst hn
 exact h.imp id fun ⟨g,cp,cur,h1,h2,h3⟩=>⟨g,cp,cur,h1,(hb.block g (Array.getElem?_eq_some_iff.1 h2).1).trans h2,h3⟩
theorem HoldsN.form {w:World} {v:Value} {F:List Nb} (h:HoldsN w v F):∃ ad cp,v=.slice ad F.length cp:=by
 rcases h with ⟨ad,cp,h1,h2⟩ | ⟨g,cp,cur,h1,_⟩
 ·exact ⟨ad,cp,by rw [h1,h2];rfl⟩
 ·exact ⟨_,_,h1⟩
theorem holdsN_nil (w:World) (ad:Option Addr) (cp:Nat):HoldsN w (.slice ad 0 cp) []:=Or.inl ⟨ad,cp,rfl,rfl⟩
end Go.Proofs.YtkcghhkkepndnaaGreatDoor
namespace Go.Proofs.YtkcghhkkepndnaaGreatDoor
open Go.RowKit
def HoldsQ (w:World) (base:Nat) (v:Value) (L:List ByteArray):Prop :=
 (v=.slice none 0 0∧L=[])∨∃ g o cp cur,v=.slice (some ⟨g,o,none⟩) L.length cp∧w.heap[g]?=some (.cells cur 9)∧base≤g∧L.length≤cp∧o+cp≤cur.size∧∀ j (hj:j<L.length),cur[o+j]?=some (.string L[j])
theorem HoldsQ.form {w:World} {base:Nat} {v:Value} {L:List ByteArray} (h:HoldsQ w base v L):∃ ad cp,v=.slice ad L.length cp:=by
 rcases h with ⟨h1,h2⟩ | ⟨g,o,cp,cur,h1,_⟩
 ·exact ⟨_,_,by rw [h1,h2];rfl⟩
 ·exact ⟨_,_,h1⟩
theorem HoldsQ.own {w:World} {base:Nat} {v:Value} {L:List ByteArray} (h:w.ownsRow base 9 1 v L.length (scells L)):HoldsQ w base v L:=by
 rcases h.2 with ⟨h1,h2⟩ | ⟨g,cap,cur,h1,h2,h3,h4,h5,h6,h7⟩
 ·exact Or.inl ⟨h1,List.eq_nil_of_length_eq_zero h2⟩
 ·refine Or.inr ⟨g,0,cap,cur,h1,h3,h2,by omega,by omega,fun j hj=>?_⟩
  have e:(cur.toList.take (L.length*1))[j]?=(scells L)[j]?:=by rw [h7]
  rw [List.getElem?_take,if_pos (by omega),Array.getElem?_toList] at e
  rw [Nat.zero_add,e]
  exact scells_get L j _ (List.getElem?_eq_getElem hj)
theorem HoldsQ.other {w w':World} {base:Nat} {v:Value} {L:List ByteArray} (h:HoldsQ w base v L) (hw:∀ g cur,v.ownBlock=some g→w.heap[g]?=some (.cells cur 9)→w'.heap[g]?=w.heap[g]?):HoldsQ w' base v L:=by
 rcases h with ⟨h1,h2⟩ | ⟨g,o,cp,cur,h1,h2,h3⟩
 ·exact Or.inl ⟨h1,h2⟩
 ·exact Or.inr ⟨g,o,cp,cur,h1,(hw g cur (by rw [h1];rfl) h2).trans h2,h3⟩
theorem HoldsQ.below {w w':World} {base:Nat} {v:Value} {L:List ByteArray} (h:HoldsQ w base v L) (hb:Below w.heap.size w w'):HoldsQ w' base v L :=
 h.other fun g _ _ h2=>hb.block g (Array.getElem?_eq_some_iff.1 h2).1
theorem HoldsQ.first {w:World} {base:Nat} {v:Value} {t:ByteArray} {L:List ByteArray} (h:HoldsQ w base v (t :: L)):∃ g o cp,v=.slice (some ⟨g,o,none⟩) (L.length+1) cp∧w.cell? ⟨g,o,none⟩=some (.string t)∧L.length+1≤cp∧(L.length=0→cp=1→HoldsQ w base (.slice (some ⟨g,o,none⟩) L.length 0) L)∧HoldsQ w base (.slice (some ⟨g,o+1,none⟩) L.length (cp - 1)) L:=by
 rcases h with ⟨h1,h2⟩ | ⟨g,o,cp,cur,h1,h2,h3,h4,h5,h6⟩
 ·cases h2
 ·rw [List.length_cons] at h4
  refine ⟨g,o,cp,h1,?_,h4,fun e0 e1=>?_,Or.inr ⟨g,o+1,cp - 1,cur,rfl,h2,h3,by omega,by omega,fun j hj=>?_⟩⟩
  ·have:=h6 0 (by simp)
   rw [cell_of_row _ _ _ _ _ _ h2]
   exact this
  ·have e2:=List.eq_nil_of_length_eq_zero e0
   subst e2
   exact Or.inr ⟨g,o,0,cur,rfl,h2,h3,Nat.le_refl _,by omega,fun j hj=>absurd hj (Nat.not_lt_zero _)⟩
  ·have:=h6 (j+1) (by simp;omega)
   rw [show o+1+j=o+(j+1) by omega,this]
   simp
def lwC (p:Lp) (M:Nat) (vq vf vg:Value):Array Value:=#[.int .i64 p.wi,.int .i64 p.vs,.int .i64 p.va,.int .i64 p.vr,vq,.bool p.ak,.map (some M),vf,vg]
structure Lw (w0:World) (B M:Nat) (p:Lp) (S Q:List ByteArray) (F:List Nb) (G:List ByteArray) (vq vf vg:Value) (q:World):Prop where
 row:q.heap[B]?=some (.cells (lwC p M vq vf vg) 104)
 mp:MapH q M p.va S
 hq:HoldsQ q w0.heap.size vq Q
 of:q.ownsRow w0.heap.size 96 4 vf F.length (nbcells F)
 og:q.ownsRow w0.heap.size 9 1 vg G.length (scells G)
 bB:w0.heap.size≤B
 bM:w0.heap.size≤M
 lo:Below w0.heap.size w0 q
theorem own_at {w w':World} {base:Nat} {e:TypeId} {size:Nat} {v:Value} {n:Nat} {xs:List Value} (h:w.ownsRow base e size v n xs) (hb:∀ g cur,v.ownBlock=some g→w.heap[g]?=some (.cells cur e)→w'.heap[g]?=w.heap[g]?):w'.ownsRow base e size v n xs :=
 ⟨h.1,h.2.imp id fun ⟨g,cap,cur,h1,h2,h3,h4⟩=>⟨g,cap,cur,h1,h2,(hb g cur (by rw [h1];rfl) h3).trans h3,h4⟩⟩
theorem row9l {w:World} {B:Nat} {x0 x1 x2 x3 x4 x5 x6 x7 x8:Value} {T:TypeId} (h:w.heap[B]?=some (.cells #[x0,x1,x2,x3,x4,x5,x6,x7,x8] T)) :
  w.cell? ⟨B,0,none⟩=some x0∧w.cell? ⟨B,1,none⟩=some x1∧w.cell? ⟨B,2,none⟩=some x2∧w.cell? ⟨B,3,none⟩=some x3∧w.cell? ⟨B,4,none⟩=some x4∧w.cell? ⟨B,5,none⟩=some x5∧w.cell? ⟨B,6,none⟩=some x6∧w.cell? ⟨B,7,none⟩=some x7∧w.cell? ⟨B,8,none⟩=some x8 :=
 ⟨by rw [cell_of_row _ _ 0 _ _ (0,0) h];rfl,by rw [cell_of_row _ _ 1 _ _ (0,0) h];rfl,by rw [cell_of_row _ _ 2 _ _ (0,0) h];rfl,by rw [cell_of_row _ _ 3 _ _ (0,0) h];rfl,by rw [cell_of_row _ _ 4 _ _ (0,0) h];rfl,by rw [cell_of_row _ _ 5 _ _ (0,0) h];rfl,by rw [cell_of_row _ _ 6 _ _ (0,0) h];rfl,by rw [cell_of_row _ _ 7 _ _ (0,0) h];rfl,by rw [cell_of_row _ _ 8 _ _ (0,0) h];rfl⟩
section
variable {w0:World} {B M:Nat} {p:Lp} {S Q:List ByteArray} {F:List Nb} {G:List ByteArray} {vq vf vg:Value} {q q':World}
theorem Lw.frB (h:Lw w0 B M p S Q F G vq vf vg q) (hk:∀ k,k≠B→q'.heap[k]?=q.heap[k]?):MapH q' M p.va S∧HoldsQ q' w0.heap.size vq Q∧q'.ownsRow w0.heap.size 96 4 vf F.length (nbcells F)∧q'.ownsRow w0.heap.size 9 1 vg G.length (scells G):=by
 have nM:M≠B:=fun e=>by
  obtain ⟨es,c,h1,_⟩:=h.mp
  rw [e,h.row] at h1
  cases h1
 have nT:∀ g cur T,T≠104→q.heap[g]?=some (.cells cur T)→g≠B:=fun g cur T hT h1 e=>by
  rw [e,h.row] at h1
  cases h1
  exact hT rfl
 exact ⟨h.mp.other (hk M nM),h.hq.other fun g cur _ h2=>hk g (nT g cur _ (by decide) h2),own_at h.of fun g cur _ h2=>hk g (nT g cur _ (by decide) h2),own_at h.og fun g cur _ h2=>hk g (nT g cur _ (by decide) h2)⟩
theorem Lw.frM (h:Lw w0 B M p S Q F G vq vf vg q) (hk:∀ k,k≠M→q'.heap[k]?=q.heap[k]?):q'.heap[B]?=some (.cells (lwC p M vq vf vg) 104)∧HoldsQ q' w0.heap.size vq Q∧q'.ownsRow w0.heap.size 96 4 vf F.length (nbcells F)∧q'.ownsRow w0.heap.size 9 1 vg G.length (scells G):=by
 have nT:∀ g cur T,q.heap[g]?=some (.cells cur T)→g≠M:=fun g cur T h1 e=>by
  obtain ⟨es,c,h2,_⟩:=h.mp
  rw [e,h2] at h1
  cases h1
 exact ⟨(hk B (nT B _ _ h.row)).trans h.row,h.hq.other fun g cur _ h2=>hk g (nT g cur _ h2),own_at h.of fun g cur _ h2=>hk g (nT g cur _ h2),own_at h.og fun g cur _ h2=>hk g (nT g cur _ h2)⟩
theorem Lw.step (h:Lw w0 B M p S Q F G vq vf vg q) (hb:Below q.heap.size q q'):Lw w0 B M p S Q F G vq vf vg q' :=
 ⟨(hb.block B (Array.getElem?_eq_some_iff.1 h.row).1).trans h.row,h.mp.other (hb.block M h.mp.lt),h.hq.below hb,own_at h.of fun g _ _ h2=>hb.block g (Array.getElem?_eq_some_iff.1 h2).1,own_at h.og fun g _ _ h2=>hb.block g (Array.getElem?_eq_some_iff.1 h2).1,h.bB,h.bM,h.lo.trans (hb.mono h.lo.size)⟩
theorem Lw.set (h:Lw w0 B M p S Q F G vq vf vg q) {i:Nat} {x:Value} {p':Lp} {vq' vf' vg':Value} {Q':List ByteArray} {F':List Nb} {G':List ByteArray} (hc:(lwC p M vq vf vg).setIfInBounds i x=lwC p' M vq' vf' vg') (hp:p'.va=p.va)
  (h1:HoldsQ q w0.heap.size vq Q→HoldsQ (q.setCell ⟨B,i,none⟩ x) w0.heap.size vq Q→HoldsQ (q.setCell ⟨B,i,none⟩ x) w0.heap.size vq' Q')
  (h2:(q.setCell ⟨B,i,none⟩ x).ownsRow w0.heap.size 96 4 vf F.length (nbcells F)→(q.setCell ⟨B,i,none⟩ x).ownsRow w0.heap.size 96 4 vf' F'.length (nbcells F'))
  (h3:(q.setCell ⟨B,i,none⟩ x).ownsRow w0.heap.size 9 1 vg G.length (scells G)→(q.setCell ⟨B,i,none⟩ x).ownsRow w0.heap.size 9 1 vg' G'.length (scells G')) :
  Lw w0 B M p' S Q' F' G' vq' vf' vg' (q.setCell ⟨B,i,none⟩ x):=by
 have hk:∀ k,k≠B→(q.setCell ⟨B,i,none⟩ x).heap[k]?=q.heap[k]?:=fun k hk=>heap_setCell_other q _ _ _ hk
 obtain ⟨k1,k2,k3,k4⟩:=h.frB hk
 exact ⟨by rw [heap_setCell_same _ _ i _ _ _ h.row,hc],by rw [hp];exact k1,h1 h.hq k2,h2 k3,h3 k4,h.bB,h.bM,h.lo.setCell (p:=⟨B,i,none⟩) h.bB _⟩
theorem Lw.setP (h:Lw w0 B M p S Q F G vq vf vg q) {i:Nat} {x:Value} {p':Lp} (hc:(lwC p M vq vf vg).setIfInBounds i x=lwC p' M vq vf vg) (hp:p'.va=p.va):Lw w0 B M p' S Q F G vq vf vg (q.setCell ⟨B,i,none⟩ x) :=
 h.set hc hp (fun _ k=>k) (fun k=>k) (fun k=>k)
theorem Lw.putM (h:Lw w0 B M p S Q F G vq vf vg q) {o:Obj} {S':List ByteArray} (hm:MapH (putB q M o) M p.va S'):Lw w0 B M p S' Q F G vq vf vg (putB q M o):=by
 obtain ⟨k1,k2,k3,k4⟩:=h.frM (q':=putB q M o) (fun k hk=>putB_other _ _ _ _ hk)
 exact ⟨k1,hm,k2,k3,k4,h.bB,h.bM,putB_below h.lo h.bM _⟩
theorem Lw.drew (h:Lw w0 B M p S Q F G vq vf vg q):Lw w0 B M p S Q F G vq vf vg q.drew:=h.step (Below.refl _ _).drew
end
end Go.Proofs.YtkcghhkkepndnaaGreatDoor
namespace Go.Proofs.YtkcghhkkepndnaaGreatDoor
open Go.RowKit
set_option maxHeartbeats 400000 in
theorem iNumN (n:Int) (hn:0≤n∧n≤7) (w:World):Calls Tryz.prog 114 #[.int .i64 n] w fun e w'=>e=.returned (.int .i64 ((n+1) % 8))∧w'=w:=by
 go_enter Tryz.func114,Tryz.ntmps114
 go_wp2
 go_ret
 exact ⟨rfl,rfl⟩
set_option maxHeartbeats 4000000 in
theorem iNumF {w0:World} {B M:Nat} {p:Lp} {S Q:List ByteArray} {F:List Nb} {G:List ByteArray} {vq vf vg:Value} {q:World} {t:ByteArray} (h:Lw w0 B M p S (t :: Q) F G vq vf vg q) (ha:0≤p.va∧p.va≤7) (hS:S.length≤7) (hv:p.vs=(p.va+S.length) % 8) :
  Calls Tryz.prog 85 #[.pointer (some ⟨B,0,none⟩)] q fun e q'=>e=.returned (.tuple #[])∧(∃ vq',Lw w0 B M ⟨p.wi,(p.vs+1) % 8,p.va,p.vr,p.ak⟩ (S ++ [t]) Q F G vq' vf vg q')∧(∀ k,k≠B→k≠M→q'.heap[k]?=q.heap[k]?)∧q'.heap.size=q.heap.size:=by
 obtain ⟨g,o,cp,e1,k1,hcp,_,_⟩:=h.hq.first
 obtain ⟨ob,hup,hmp⟩:=h.drew.mp.put ha hS t
 obtain ⟨wi,vs,va,vr,ak⟩:=p
 dsimp only at *
 subst e1
 rw [← hv] at hup
 have hvs:0≤vs∧vs≤7:=by omega
 have C:=hide fun v=>iNumN vs hvs v
 obtain ⟨c0,c1,c2,c3,c4,c5,c6,c7,c8⟩:=row9l h.row
 have H1:=hide (h.drew.putM hmp)
 have HS:=hide (putB_size q.drew M ob)
 have HO:=hide (fun k (hk:k≠M)=>putB_other q.drew M k ob hk)
 clear h hmp hv
 generalize hW:putB q.drew M ob=W at *
 clear hW
 go_enter Tryz.func85,Tryz.ntmps85
 go_upto_region 0 with fail
 go_region
 clear hup c0 c1 c2 c3 c4 c5 c6 c7 c8 k1
 obtain ⟨c0,c1,c2,c3,c4,c5,c6,c7,c8⟩:=row9l (uh H1).row
 have f4:=frz (uh H1).row 4
 have f1:=frz (uh H1).row 1
 obtain ⟨n,hn⟩:∃ n,Q.length=n:=⟨_,rfl⟩
 rw [hn] at c4 ⊢
 dsimp only at c0 c1 c2 c3 c5
 go_wp2_with (first
  | (go_at_call 114;refine (uh C _).mono ?_;rintro e w3 ⟨rfl,hw⟩;replace hw:=hw.symm;subst hw))
 ·have hn0:n=0:=by omega
  subst hn0
  have h4:=(uh H1).set (i:=4) (x:=.slice (some ⟨g,o,none⟩) 0 0) (p':=⟨wi,vs,va,vr,ak⟩) (vq':=.slice (some ⟨g,o,none⟩) 0 0) (vf':=vf) (vg':=vg) (Q':=Q) (F':=F) (G':=G) rfl rfl (fun _ k=>?_) (fun k=>k) (fun k=>k)
  ·have h5:=h4.setP (i:=1) (x:=.int .i64 ((vs+1) % 8)) (p':=⟨wi,(vs+1) % 8,va,vr,ak⟩) rfl rfl
   refine Great.bodyPost_end0 rfl rfl ⟨rfl,⟨_,h5⟩,fun k hB hM=>?_,?_⟩
   ·rw [heap_setCell_other _ _ _ _ hB,heap_setCell_other _ _ _ _ hB,uh HO k hM]
    rfl
   ·rw [World.size_setCell,World.size_setCell,uh HS]
    rfl
  ·obtain ⟨g',o',cp',e',_,_,hq1,_⟩:=k.first
   cases e'
   have:=hq1 hn (by first | rfl | assumption | omega)
   rw [hn] at this
   exact this
 ·have h4:=(uh H1).set (i:=4) (x:=.slice (some ⟨g,o+1,none⟩) n (cp - 1)) (p':=⟨wi,vs,va,vr,ak⟩) (vq':=.slice (some ⟨g,o+1,none⟩) n (cp - 1)) (vf':=vf) (vg':=vg) (Q':=Q) (F':=F) (G':=G) rfl rfl (fun _ k=>?_) (fun k=>k) (fun k=>k)
  ·have h5:=h4.setP (i:=1) (x:=.int .i64 ((vs+1) % 8)) (p':=⟨wi,(vs+1) % 8,va,vr,ak⟩) rfl rfl
   refine Great.bodyPost_end0 rfl rfl ⟨rfl,⟨_,h5⟩,fun k hB hM=>?_,?_⟩
   ·rw [heap_setCell_other _ _ _ _ hB,heap_setCell_other _ _ _ _ hB,uh HO k hM]
    rfl
   ·rw [World.size_setCell,World.size_setCell,uh HS]
    rfl
  ·obtain ⟨g',o',cp',e',_,_,_,hq1⟩:=k.first
   cases e'
   rw [hn] at hq1
   exact hq1
end Go.Proofs.YtkcghhkkepndnaaGreatDoor
namespace Go.Proofs.YtkcghhkkepndnaaGreatDoor
open Go.RowKit
theorem and1 (k:Nat) (h:k<4294967296):bits .and .i64 (k:Int) 1=((k % 2:Nat):Int):=by
 have h':=i64_and_nat k 1 h (by decide)
 rw [nat_mask1] at h'
 exact h'
theorem proto_ways (x:Int) (P:Prop) (h1:x<0→Pp.ok x=false→P) (h2:0≤x→65535<x→Pp.ok x=false→P)
  (h3:∀ k:Nat,x=k→k<65536→k % 2=0→Pp.ok x=false→P) (h4:∀ k:Nat,x=k→k<65536→k % 2=1→k / 256 % 2=1→Pp.ok x=false→P)
  (h5:∀ k:Nat,x=k→k<65536→k % 2=1→k / 256 % 2=0→Pp.ok x=true→P):P:=by
 by_cases a:0≤x
 ·by_cases b:x≤65535
  ·obtain ⟨k,rfl⟩:∃ k:Nat,x=k:=⟨x.toNat,by omega⟩
   by_cases c:k % 2=1
   ·by_cases d:k / 256 % 2=0
    ·exact h5 k rfl (by omega) c d (decide_eq_true (by omega))
    ·exact h4 k rfl (by omega) c (by omega) (decide_eq_false (by omega))
   ·exact h3 k rfl (by omega) (by omega) (decide_eq_false (by omega))
  ·exact h2 a (by omega) (decide_eq_false (by omega))
 ·exact h1 (by omega) (decide_eq_false (by omega))
set_option maxHeartbeats 400000 in
theorem specIs (x:Int) (w:World):Calls Tryz.prog 29 #[.int .i64 x,.int .i64 0,.int .i64 65535] w fun e w'=>e=.returned (.bool (decide (0≤x) && decide (x≤65535)))∧w'=w:=by
 by_cases h1:0≤x
 ·have d1:decide ((0:Int)≤x)=true:=decide_eq_true h1
  rw [d1,Bool.true_and]
  go_enter Tryz.func29,Tryz.ntmps29
  go_wp2
  go_ret
  exact ⟨rfl,rfl⟩
 ·have d1:decide ((0:Int)≤x)=false:=decide_eq_false h1
  rw [d1,Bool.false_and]
  go_enter Tryz.func29,Tryz.ntmps29
  go_wp2
  go_ret
  exact ⟨rfl,rfl⟩
set_option maxHeartbeats 400000 in
theorem implProto (x:Int) (w:World):Calls Tryz.prog 106 #[.int .i64 x] w fun e w'=>e=.returned (.bool (Pp.ok x))∧w'=w:=by
 refine proto_ways x _ (fun a r=>?_) (fun a b r=>?_) (fun k e a b r=>?_) (fun k e a b c r=>?_) (fun k e a b c r=>?_)
 all_goals rw [r];clear r
 ·have d1:decide ((0:Int)≤x)=false:=decide_eq_false (by omega)
  go_enter Tryz.func106,Tryz.ntmps106
  go_wp2
  go_ret
  exact ⟨rfl,rfl⟩
 ·have d1:decide ((0:Int)≤x)=true:=decide_eq_true a
  have d2:decide (x≤65535)=false:=decide_eq_false (by omega)
  go_enter Tryz.func106,Tryz.ntmps106
  go_wp2
  go_ret
  exact ⟨rfl,rfl⟩
 all_goals
  subst e
  have d1:decide ((0:Int)≤(k:Int))=true:=decide_eq_true (by omega)
  have d2:decide ((k:Int)≤65535)=true:=decide_eq_true (by omega)
  have e1:=and1 k (by omega)
  rw [b] at e1
 ·go_enter Tryz.func106,Tryz.ntmps106
  go_wp2
  go_ret
  exact ⟨rfl,rfl⟩
 all_goals
  have e2:=and1 (k / 256) (by omega)
  rw [c] at e2
  go_enter Tryz.func106,Tryz.ntmps106
  go_wp2
  go_ret
  refine ⟨ret_bool ?_,rfl⟩
  rw [show ((k:Int) / 256)=((k / 256:Nat):Int) by omega,e2]
  rfl
set_option maxHeartbeats 400000 in
theorem specProto (x:Int) (w:World):Calls Tryz.prog 105 #[.int .i64 x] w fun e w'=>e=.returned (.bool (Pp.ok x))∧w'=w:=by
 have c1:=specIs x w
 refine proto_ways x _ (fun a r=>?_) (fun a b r=>?_) (fun k e a b r=>?_) (fun k e a b c r=>?_) (fun k e a b c r=>?_)
 all_goals rw [r];clear r
 ·rw [show (decide ((0:Int)≤x) && decide (x≤65535))=false by simp;omega] at c1
  go_enter Tryz.func105,Tryz.ntmps105
  go_wp2_with (first
   | (go_at_call 29;refine c1.mono ?_;rintro e w1 ⟨rfl,rfl⟩))
  go_ret
  exact ⟨rfl,rfl⟩
 ·rw [show (decide ((0:Int)≤x) && decide (x≤65535))=false by simp;omega] at c1
  go_enter Tryz.func105,Tryz.ntmps105
  go_wp2_with (first
   | (go_at_call 29;refine c1.mono ?_;rintro e w1 ⟨rfl,rfl⟩))
  go_ret
  exact ⟨rfl,rfl⟩
 all_goals
  subst e
  rw [show (decide ((0:Int)≤(k:Int)) && decide ((k:Int)≤65535))=true by simp;omega] at c1
  have e1:(k:Int) % 2=((k % 2:Nat):Int):=by omega
  rw [b] at e1
  go_enter Tryz.func105,Tryz.ntmps105
  go_wp2_with (first
   | (go_at_call 29;refine c1.mono ?_;rintro e w1 ⟨rfl,rfl⟩))
  go_ret
  refine ⟨ret_bool ?_,rfl⟩
  first
   | rfl
   | (rw [show (k:Int) / 256 % 2=((k / 256 % 2:Nat):Int) by omega,c];rfl)
end Go.Proofs.YtkcghhkkepndnaaGreatDoor
