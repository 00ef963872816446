/- A numbered line's end at work, laid in memory: its cells, its map, its rows; no condition but those named. The program's end at work: the first text that waits stands by the next number; what else lay in memory stands. Rows of texts put behind one that the call owns; the program's copies of texts, and all the texts of an end at work; what lay in memory stands. The program's copies of texts, and all the texts of an end at work, in a row of their own; what lay in memory stands. The program begins to work on an end: texts of its own, and those that were sent by their numbers; what lay in memory stands. The program tells what came of the work: an answer in rows of its own; what lay in memory stands. The program's end at work goes back: all that was sent waits once more; and drops what was heard of; what else lay in memory stands. LapbAgain, the program's; what lay in memory stands. Texts and frames put behind rows of an end at work, at a step of a region that draws its order; no condition but those named. -/
import Derived.Test.YtkcghhkkepndnaaGreatDoorS04
import Derived.Test.YtkcghhkkepndnaaGreatDoorS06
import Derived.Test.YtkcghhkkepndnaaGreatDoorS05
import Derived.Deep.DeepCutAuto
import Derived.Great.Walk
import Derived.Test.YtkcghhkkepndnaaGreatDoorCln
import Derived.ArgAppend
import Derived.Deep.RegionHeld3
import Derived.Test.YtkcghhkkepndnaaGreatDoorShW
namespace Go.Proofs.YtkcghhkkepndnaaGreatDoor
open Go.RowKit
def HoldsQ (w:World) (base:Nat) (v:Value) (L:List ByteArray):Prop :=
 (v=.slice none 0 0∧L=[])∨∃ g o cp cur,v=.slice (some ⟨g,o,none⟩) L.length cp∧w.heap[g]?=some (.cells cur 9)∧base≤g∧L.length≤cp∧o+cp≤cur.size∧∀ j (hj:j<L.length),cur[o+j]?=some (.string L[j])
theorem HoldsQ.form {w:World} {base:Nat} {v:Value} {L:List ByteArray} (h:HoldsQ w base v L):∃ ad cp,v=.slice ad L.length cp:=by
 rcases h with ⟨h1,h2⟩ | ⟨g,o,cp,cur,h1,_⟩
 ·exact ⟨_,_,by rw [h1,h2];rfl⟩
 ·exact ⟨_,_,h1⟩
theorem HoldsQ.own {w:World} {base:Nat} {v:Value} {L:List ByteArray} (h:w.ownsRow base 9 1 v L.length (scells L)):HoldsQ w base v L:=by
 rcases h.2 with ⟨h1,h2⟩ | ⟨g,cap,cur,h1,h2,h3,h4,h5,h6,h7⟩
 ·exact Or.inl ⟨h1,List.eq_nil_of_length_eq_zero h2⟩
 ·refine Or.inr ⟨g,0,cap,cur,h1,h3,h2,by omega,by omega,fun j hj=>?_⟩
  have e:(cur.toList.take (L.length*1))[j]?=(scells L)[j]?:=by rw [h7]
  rw [List.getElem?_take,if_pos (by omega),Array.getElem?_toList] at e
  rw [Nat.zero_add,e]
  exact scells_get L j _ (List.getElem?_eq_getElem hj)
theorem HoldsQ.other {w w':World} {base:Nat} {v:Value} {L:List ByteArray} (h:HoldsQ w base v L) (hw:∀ g cur,v.ownBlock=some g→w.heap[g]?=some (.cells cur 9)→w'.heap[g]?=w.heap[g]?):HoldsQ w' base v L:=by
 rcases h with ⟨h1,h2⟩ | ⟨g,o,cp,cur,h1,h2,h3⟩
 ·exact Or.inl ⟨h1,h2⟩
 ·exact Or.inr ⟨g,o,cp,cur,h1,(hw g cur (by rw [h1];rfl) h2).trans h2,h3⟩
theorem HoldsQ.below {w w':World} {base:Nat} {v:Value} {L:List ByteArray} (h:HoldsQ w base v L) (hb:Below w.heap.size w w'):HoldsQ w' base v L :=
 h.other fun g _ _ h2=>hb.block g (Array.getElem?_eq_some_iff.1 h2).1
theorem HoldsQ.first {w:World} {base:Nat} {v:Value} {t:ByteArray} {L:List ByteArray} (h:HoldsQ w base v (t :: L)):∃ g o cp,v=.slice (some ⟨g,o,none⟩) (L.length+1) cp∧w.cell? ⟨g,o,none⟩=some (.string t)∧L.length+1≤cp∧(L.length=0→cp=1→HoldsQ w base (.slice (some ⟨g,o,none⟩) L.length 0) L)∧HoldsQ w base (.slice (some ⟨g,o+1,none⟩) L.length (cp - 1)) L:=by
 rcases h with ⟨h1,h2⟩ | ⟨g,o,cp,cur,h1,h2,h3,h4,h5,h6⟩
 ·cases h2
 ·rw [List.length_cons] at h4
  refine ⟨g,o,cp,h1,?_,h4,fun e0 e1=>?_,Or.inr ⟨g,o+1,cp - 1,cur,rfl,h2,h3,by omega,by omega,fun j hj=>?_⟩⟩
  ·have:=h6 0 (by simp)
   rw [cell_of_row _ _ _ _ _ _ h2]
   exact this
  ·have e2:=List.eq_nil_of_length_eq_zero e0
   subst e2
   exact Or.inr ⟨g,o,0,cur,rfl,h2,h3,Nat.le_refl _,by omega,fun j hj=>absurd hj (Nat.not_lt_zero _)⟩
  ·have:=h6 (j+1) (by simp;omega)
   rw [show o+1+j=o+(j+1) by omega,this]
   simp
def lwC (p:Lp) (M:Nat) (vq vf vg:Value):Array Value:=#[.int .i64 p.wi,.int .i64 p.vs,.int .i64 p.va,.int .i64 p.vr,vq,.bool p.ak,.map (some M),vf,vg]
structure Lw (w0:World) (B M:Nat) (p:Lp) (S Q:List ByteArray) (F:List Nb) (G:List ByteArray) (vq vf vg:Value) (q:World):Prop where
 row:q.heap[B]?=some (.cells (lwC p M vq vf vg) 104)
 mp:MapH q M p.va S
 hq:HoldsQ q w0.heap.size vq Q
 of:q.ownsRow w0.heap.size 96 4 vf F.length (nbcells F)
 og:q.ownsRow w0.heap.size 9 1 vg G.length (scells G)
 bB:w0.heap.size≤B
 bM:w0.heap.size≤M
 lo:Below w0.heap.size w0 q
theorem own_at {w w':World} {base:Nat} {e:TypeId} {size:Nat} {v:Value} {n:Nat} {xs:List Value} (h:w.ownsRow base e size v n xs) (hb:∀ g cur,v.ownBlock=some g→w.heap[g]?=some (.cells cur e)→w'.heap[g]?=w.heap[g]?):w'.ownsRow base e size v n xs :=
 ⟨h.1,h.2.imp id fun ⟨g,cap,cur,h1,h2,h3,h4⟩=>⟨g,cap,cur,h1,h2,(hb g cur (by rw [h1];rfl) h3).trans h3,h4⟩⟩
theorem row9l {w:World} {B:Nat} {x0 x1 x2 x3 x4 x5 x6 x7 x8:Value} {T:TypeId} (h:w.heap[B]?=some (.cells #[x0,x1,x2,x3,x4,x5,x6,x7,x8] T)) :
  w.cell? ⟨B,0,none⟩=some x0∧w.cell? ⟨B,1,none⟩=some x1∧w.cell? ⟨B,2,none⟩=some x2∧w.cell? ⟨B,3,none⟩=some x3∧w.cell? ⟨B,4,none⟩=some x4∧w.cell? ⟨B,5,none⟩=some x5∧w.cell? ⟨B,6,none⟩=some x6∧w.cell? ⟨B,7,none⟩=some x7∧w.cell? ⟨B,8,none⟩=some x8 :=
 ⟨by rw [cell_of_row _ _ 0 _ _ (0,0) h];rfl,by rw [cell_of_row _ _ 1 _ _ (0,0) h];rfl,by rw [cell_of_row _ _ 2 _ _ (0,0) h];rfl,by rw [cell_of_row _ _ 3 _ _ (0,0) h];rfl,by rw [cell_of_row _ _ 4 _ _ (0,0) h];rfl,by rw [cell_of_row _ _ 5 _ _ (0,0) h];rfl,by rw [cell_of_row _ _ 6 _ _ (0,0) h];rfl,by rw [cell_of_row _ _ 7 _ _ (0,0) h];rfl,by rw [cell_of_row _ _ 8 _ _ (0,0) h];rfl⟩
section
variable {w0:World} {B M:Nat} {p:Lp} {S Q:List ByteArray} {F:List Nb} {G:List ByteArray} {vq vf vg:Value} {q q':World}
theorem Lw.frB (h:Lw w0 B M p S Q F G vq vf vg q) (hk:∀ k,k≠B→q'.heap[k]?=q.heap[k]?):MapH q' M p.va S∧HoldsQ q' w0.heap.size vq Q∧q'.ownsRow w0.heap.size 96 4 vf F.length (nbcells F)∧q'.ownsRow w0.heap.size 9 1 vg G.length (scells G):=by
 have nM:M≠B:=fun e=>by
  obtain ⟨es,c,h1,_⟩:=h.mp
  rw [e,h.row] at h1
  cases h1
 have nT:∀ g cur T,T≠104→q.heap[g]?=some (.cells cur T)→g≠B:=fun g cur T hT h1 e=>by
  rw [e,h.row] at h1
  cases h1
  exact hT rfl
 exact ⟨h.mp.other (hk M nM),h.hq.other fun g cur _ h2=>hk g (nT g cur _ (by decide) h2),own_at h.of fun g cur _ h2=>hk g (nT g cur _ (by decide) h2),own_at h.og fun g cur _ h2=>hk g (nT g cur _ (by decide) h2)⟩
theorem Lw.frM (h:Lw w0 B M p S Q F G vq vf vg q) (hk:∀ k,k≠M→q'.heap[k]?=q.heap[k]?):q'.heap[B]?=some (.cells (lwC p M vq vf vg) 104)∧HoldsQ q' w0.heap.size vq Q∧q'.ownsRow w0.heap.size 96 4 vf F.length (nbcells F)∧q'.ownsRow w0.heap.size 9 1 vg G.length (scells G):=by
 have nT:∀ g cur T,q.heap[g]?=some (.cells cur T)→g≠M:=fun g cur T h1 e=>by
  obtain ⟨es,c,h2,_⟩:=h.mp
  rw [e,h2] at h1
  cases h1
 exact ⟨(hk B (nT B _ _ h.row)).trans h.row,h.hq.other fun g cur _ h2=>hk g (nT g cur _ h2),own_at h.of fun g cur _ h2=>hk g (nT g cur _ h2),own_at h.og fun g cur _ h2=>hk g (nT g cur _ h2)⟩
theorem Lw.step (h:Lw w0 B M p S Q F G vq vf vg q) (hb:Below q.heap.size q q'):Lw w0 B M p S Q F G vq vf vg q' :=
 ⟨(hb.block B (Array.getElem?_eq_some_iff.1 h.row).1).trans h.row,h.mp.other (hb.block M h.mp.lt),h.hq.below hb,own_at h.of fun g _ _ h2=>hb.block g (Array.getElem?_eq_some_iff.1 h2).1,own_at h.og fun g _ _ h2=>hb.block g (Array.getElem?_eq_some_iff.1 h2).1,h.bB,h.bM,h.lo.trans (hb.mono h.lo.size)⟩
theorem Lw.set (h:Lw w0 B M p S Q F G vq vf vg q) {i:Nat} {x:Value} {p':Lp} {vq' vf' vg':Value} {Q':List ByteArray} {F':List Nb} {G':List ByteArray} (hc:(lwC p M vq vf vg).setIfInBounds i x=lwC p' M vq' vf' vg') (hp:p'.va=p.va)
  (h1:HoldsQ q w0.heap.size vq Q→HoldsQ (q.setCell ⟨B,i,none⟩ x) w0.heap.size vq Q→HoldsQ (q.setCell ⟨B,i,none⟩ x) w0.heap.size vq' Q')
  (h2:(q.setCell ⟨B,i,none⟩ x).ownsRow w0.heap.size 96 4 vf F.length (nbcells F)→(q.setCell ⟨B,i,none⟩ x).ownsRow w0.heap.size 96 4 vf' F'.length (nbcells F'))
  (h3:(q.setCell ⟨B,i,none⟩ x).ownsRow w0.heap.size 9 1 vg G.length (scells G)→(q.setCell ⟨B,i,none⟩ x).ownsRow w0.heap.size 9 1 vg' G'.length (scells G')) :
  Lw w0 B M p' S Q' F' G' vq' vf' vg' (q.setCell ⟨B,i,none⟩ x):=by
 have hk:∀ k,k≠B→(q.setCell ⟨B,i,none⟩ x).heap[k]?=q.heap[k]?:=fun k hk=>heap_setCell_other q _ _ _ hk
 obtain ⟨k1,k2,k3,k4⟩:=h.frB hk
 exact ⟨by rw [heap_setCell_same _ _ i _ _ _ h.row,hc],by rw [hp];exact k1,h1 h.hq k2,h2 k3,h3 k4,h.bB,h.bM,h.lo.setCell (p:=⟨B,i,none⟩) h.bB _⟩
theorem Lw.setP (h:Lw w0 B M p S Q F G vq vf vg q) {i:Nat} {x:Value} {p':Lp} (hc:(lwC p M vq vf vg).setIfInBounds i x=lwC p' M vq vf vg) (hp:p'.va=p.va):Lw w0 B M p' S Q F G vq vf vg (q.setCell ⟨B,i,none⟩ x) :=
 h.set hc hp (fun _ k=>k) (fun k=>k) (fun k=>k)
theorem Lw.putM (h:Lw w0 B M p S Q F G vq vf vg q) {o:Obj} {S':List ByteArray} (hm:MapH (putB q M o) M p.va S'):Lw w0 B M p S' Q F G vq vf vg (putB q M o):=by
 obtain ⟨k1,k2,k3,k4⟩:=h.frM (q':=putB q M o) (fun k hk=>putB_other _ _ _ _ hk)
 exact ⟨k1,hm,k2,k3,k4,h.bB,h.bM,putB_below h.lo h.bM _⟩
theorem Lw.drew (h:Lw w0 B M p S Q F G vq vf vg q):Lw w0 B M p S Q F G vq vf vg q.drew:=h.step (Below.refl _ _).drew
end
end Go.Proofs.YtkcghhkkepndnaaGreatDoor
namespace Go.Proofs.YtkcghhkkepndnaaGreatDoor
open Go.RowKit
set_option maxHeartbeats 400000 in
theorem iNumN (n:Int) (hn:0≤n∧n≤7) (w:World):Calls Tryz.prog 114 #[.int .i64 n] w fun e w'=>e=.returned (.int .i64 ((n+1) % 8))∧w'=w:=by
 go_enter Tryz.func114,Tryz.ntmps114
 go_wp2
 go_ret
 exact ⟨rfl,rfl⟩
set_option maxHeartbeats 4000000 in
theorem iNumF {w0:World} {B M:Nat} {p:Lp} {S Q:List ByteArray} {F:List Nb} {G:List ByteArray} {vq vf vg:Value} {q:World} {t:ByteArray} (h:Lw w0 B M p S (t :: Q) F G vq vf vg q) (ha:0≤p.va∧p.va≤7) (hS:S.length≤7) (hv:p.vs=(p.va+S.length) % 8) :
  Calls Tryz.prog 85 #[.pointer (some ⟨B,0,none⟩)] q fun e q'=>e=.returned (.tuple #[])∧(∃ vq',Lw w0 B M ⟨p.wi,(p.vs+1) % 8,p.va,p.vr,p.ak⟩ (S ++ [t]) Q F G vq' vf vg q')∧(∀ k,k≠B→k≠M→q'.heap[k]?=q.heap[k]?)∧q'.heap.size=q.heap.size:=by
 obtain ⟨g,o,cp,e1,k1,hcp,_,_⟩:=h.hq.first
 obtain ⟨ob,hup,hmp⟩:=h.drew.mp.put ha hS t
 obtain ⟨wi,vs,va,vr,ak⟩:=p
 dsimp only at *
 subst e1
 rw [← hv] at hup
 have hvs:0≤vs∧vs≤7:=by omega
 have C:=hide fun v=>iNumN vs hvs v
 obtain ⟨c0,c1,c2,c3,c4,c5,c6,c7,c8⟩:=row9l h.row
 have H1:=hide (h.drew.putM hmp)
 have HS:=hide (putB_size q.drew M ob)
 have HO:=hide (fun k (hk:k≠M)=>putB_other q.drew M k ob hk)
 clear h hmp hv
 generalize hW:putB q.drew M ob=W at *
 clear hW
 go_enter Tryz.func85,Tryz.ntmps85
 go_upto_region 0 with fail
 go_region
 clear hup c0 c1 c2 c3 c4 c5 c6 c7 c8 k1
 obtain ⟨c0,c1,c2,c3,c4,c5,c6,c7,c8⟩:=row9l (uh H1).row
 have f4:=frz (uh H1).row 4
 have f1:=frz (uh H1).row 1
 obtain ⟨n,hn⟩:∃ n,Q.length=n:=⟨_,rfl⟩
 rw [hn] at c4 ⊢
 dsimp only at c0 c1 c2 c3 c5
 go_wp2_with (first
  | (go_at_call 114;refine (uh C _).mono ?_;rintro e w3 ⟨rfl,hw⟩;replace hw:=hw.symm;subst hw))
 ·have hn0:n=0:=by omega
  subst hn0
  have h4:=(uh H1).set (i:=4) (x:=.slice (some ⟨g,o,none⟩) 0 0) (p':=⟨wi,vs,va,vr,ak⟩) (vq':=.slice (some ⟨g,o,none⟩) 0 0) (vf':=vf) (vg':=vg) (Q':=Q) (F':=F) (G':=G) rfl rfl (fun _ k=>?_) (fun k=>k) (fun k=>k)
  ·have h5:=h4.setP (i:=1) (x:=.int .i64 ((vs+1) % 8)) (p':=⟨wi,(vs+1) % 8,va,vr,ak⟩) rfl rfl
   refine Great.bodyPost_end0 rfl rfl ⟨rfl,⟨_,h5⟩,fun k hB hM=>?_,?_⟩
   ·rw [heap_setCell_other _ _ _ _ hB,heap_setCell_other _ _ _ _ hB,uh HO k hM]
    rfl
   ·rw [World.size_setCell,World.size_setCell,uh HS]
    rfl
  ·obtain ⟨g',o',cp',e',_,_,hq1,_⟩:=k.first
   cases e'
   have:=hq1 hn (by first | rfl | assumption | omega)
   rw [hn] at this
   exact this
 ·have h4:=(uh H1).set (i:=4) (x:=.slice (some ⟨g,o+1,none⟩) n (cp - 1)) (p':=⟨wi,vs,va,vr,ak⟩) (vq':=.slice (some ⟨g,o+1,none⟩) n (cp - 1)) (vf':=vf) (vg':=vg) (Q':=Q) (F':=F) (G':=G) rfl rfl (fun _ k=>?_) (fun k=>k) (fun k=>k)
  ·have h5:=h4.setP (i:=1) (x:=.int .i64 ((vs+1) % 8)) (p':=⟨wi,(vs+1) % 8,va,vr,ak⟩) rfl rfl
   refine Great.bodyPost_end0 rfl rfl ⟨rfl,⟨_,h5⟩,fun k hB hM=>?_,?_⟩
   ·rw [heap_setCell_other _ _ _ _ hB,heap_setCell_other _ _ _ _ hB,uh HO k hM]
    rfl
   ·rw [World.size_setCell,World.size_setCell,uh HS]
    rfl
  ·obtain ⟨g',o',cp',e',_,_,_,hq1⟩:=k.first
   cases e'
   rw [hn] at hq1
   exact hq1
end Go.Proofs.YtkcghhkkepndnaaGreatDoor
namespace Go.Proofs.YtkcghhkkepndnaaGreatDoor
open Go.RowKit
theorem HoldsQ.s {w:World} {base:Nat} {v:Value} {L:List ByteArray} (h:HoldsQ w base v L):HoldsS w v L:=by
 rcases h with ⟨h1,h2⟩ | ⟨g,o,cp,cur,h1,h2,_,_,_,h3⟩
 ·exact Or.inl ⟨_,_,h1,h2⟩
 ·exact Or.inr ⟨g,o,cp,cur,h1,h2,h3⟩
theorem scells_one (L:List ByteArray):∀ u ∈ scells L,u.oneCell'=true:=by
 intro u hu
 simp only [scells,List.mem_map] at hu
 obtain ⟨t,_,rfl⟩:=hu
 rfl
theorem run_append_ts {W:World} {base:Nat} {v s:Value} {G L:List ByteArray} (ty:TypeId) (hown:W.ownsRow base 9 1 v G.length (scells G)) (hs:HoldsS W s L) (hG:G.length≤2000000) (hL:L.length≤2000000) (hbase:base≤W.heap.size) :
  ∃ v' W',(Builtin.append_ #[23,23] ty #[v,s]).run Tryz.prog W=.ok v' W'∧W'.ownsRow base 9 1 v' (G ++ L).length (scells (G ++ L))∧W.grownBy W' v.ownBlock:=by
 obtain ⟨i,hi,hz,hsz,hby⟩:=sinfo
 have key:∀ (a:Addr) (cp:Nat),s=.slice (some a) L.length cp→(∀ j u,(scells L)[j]?=some u→W.cell? (a.add j)=some u) →
   ∃ v' W',(Builtin.append_ #[23,23] ty #[v,s]).run Tryz.prog W=.ok v' W'∧W'.ownsRow base 9 1 v' (G ++ L).length (scells (G ++ L))∧W.grownBy W' v.ownBlock:=by
  rintro a cp rfl hn
  obtain ⟨v',W',h1,h2,h3,_⟩:=run_append_own (P:=Tryz.prog) W base 23 ty 9 i _ 1 16 Tryz.underlying23 hi hz hsz hby rfl (by decide) v G.length (scells G) hown a L.length cp (scells L) (by rw [scells_len];omega) hn (scells_one L)
   (by unfold maxLen;omega) (by omega) hbase
  exact ⟨v',W',h1,by rw [List.length_append,scells_append];exact h2,h3⟩
 rcases hs with ⟨ad,cp,rfl,rfl⟩ | ⟨g,o,cp,cur,rfl,hg,hg3⟩
 ·cases ad with
  | some a=>exact key a cp rfl (fun j u h=>by cases h)
  | none =>
   refine ⟨v,W,?_,by rw [List.append_nil];exact hown,⟨rfl,rfl,rfl,Nat.le_refl _,fun _ _ _=>rfl⟩⟩
   rcases hown.2 with ⟨rfl,_⟩ | ⟨g,cap,cur,rfl,_,_,hnc,_⟩
   ·simp [Builtin.append_,run_underlying Tryz.underlying23,sizeOf,typeInfo,hi,Builtin.lenOf,Builtin.firstCells]
   ·simp [Builtin.append_,run_underlying Tryz.underlying23,sizeOf,typeInfo,hi,Builtin.lenOf,Builtin.firstCells,hnc,storeCells]
 ·refine key ⟨g,o,none⟩ cp rfl (fun j u h=>?_)
  have hj:j<L.length:=by have:=(List.getElem?_eq_some_iff.1 h).1;rw [scells_len] at this;exact this
  rw [Addr.add_lit,cell_of_row _ _ _ _ _ _ hg,hg3 j hj]
  rw [scells_get L j _ (List.getElem?_eq_getElem hj)] at h
  exact h
theorem append_ts {w:World} {ops:Array Oper} {rest:List Oper} {o:Oper} {a:Act} {Q:Exit→Act→World→Prop} (hgd:o.guard=none) (s x:Operand)
  (ho:o.op=.call { callee:=.builtin .append,args:=#[s,x],argTypes:=#[23,23] }) (base:Nat) (v sv:Value) (G L:List ByteArray) (hs:a.eval s=v) (hx:a.eval x=sv)
  (hown:w.ownsRow base 9 1 v G.length (scells G)) (hsv:HoldsS w sv L) (hG:G.length≤2000000) (hL:L.length≤2000000) (hbase:base≤w.heap.size)
  (h:∀ v' w',w'.ownsRow base 9 1 v' (G ++ L).length (scells (G ++ L))→w.grownBy w' v.ownBlock→wpList Tryz.prog ops Q rest (a.put o.dst v') w'):wpList Tryz.prog ops Q (o :: rest) a w:=by
 refine wpList_plain hgd fun K hK=>?_
 obtain ⟨v',w',hr,h2,h3⟩:=run_append_ts (W:=w) o.type hown hsv hG hL hbase
 unfold Oper.wp execOp
 simp only [ho,resolve,invoke,builtin,Sem.run_bind,Sem.run_pure,Result.andThen_ok,List.map_toArray,List.map_cons,List.map_nil,hs,hx,hr]
 exact hK _ _ (h v' w' h2 h3)
set_option maxHeartbeats 400000 in
theorem cloneS (t:ByteArray) (w:World) (ht:t.size≤281474976710656):Calls Tryz.prog 60 #[.string t] w fun e w'=>e=.returned (.string t)∧Below w.heap.size w w':=by
 have C:=hide (Any.stringslite_Clone Tryz.laysCln t w ht)
 go_enter Tryz.func60,Tryz.ntmps60
 go_wp2_with fail
 refine (uh C).mono ?_
 rintro e w1 ⟨rfl,hb⟩
 go_wp2
 go_ret
 exact ⟨rfl,hb⟩
theorem field_st (T:TypeId) (t:ByteArray) (hT:T=147) (W:World):(Instr.field T (.agg #[.string t]) 0).run Tryz.prog W=.ok (.string t) W:=by
 subst hT
 have hi:(Tryz.prog.info? 9).map (·.size)=some 1:=by kernel_rfl
 obtain ⟨i,hi0,hi1⟩:=Option.map_eq_some_iff.1 hi
 simp [Instr.field,run_underlying Tryz.underlying147,part,asAgg,sizeOf,typeInfo,hi0,hi1]
end Go.Proofs.YtkcghhkkepndnaaGreatDoor
namespace Go.Proofs.YtkcghhkkepndnaaGreatDoor
open Go.RowKit
set_option maxHeartbeats 4000000 in
theorem iSameT (v:Value) (L:List ByteArray) (w:World) (hl:L.length≤20) (hz:∀ t ∈ L,t.size≤200) (h:HoldsS w v L) :
    Calls Tryz.prog 84 #[v] w fun e w'=>∃ u,e=.returned u∧w'.ownsRow w.heap.size 9 1 u L.length (scells L)∧Below w.heap.size w w':=by
  obtain ⟨x,y,rfl⟩:=h.form
  have HA:=hide h
  clear h
  obtain ⟨n,hn⟩:∃ n,L.length=n:=⟨_,rfl⟩
  have HZ:=hide hz
  clear hz
  rw [hn] at hl ⊢
  go_enter Tryz.func84,Tryz.ntmps84
  go_wp2_with fail
  go_loopw [3,8] (fun u y wr=>∃ (i:Nat),i≤n∧y=.int .i64 i∧wr.ownsRow w.heap.size 9 1 u (L.take i).length (scells (L.take i))∧Below w.heap.size w wr) (fun _ y _=>n - (intOf y).toNat)
  case atStart=>exact ⟨0,Nat.zero_le _,rfl,by rw [List.take_zero];exact World.ownsRow_nil _ _ _ _,Below.refl _ _⟩
  case round u0 y0 =>
    obtain ⟨i,hi,rfl,ho,hb⟩:=hrel
    by_cases hlt:i<n
    · have d2:(i:Int)<(n:Int):=by omega
      have d0:(0:Int)≤(i:Int):=by omega
      obtain ⟨g,o,cp,e1,hg,k1⟩:=(uh HA).get i (by omega)
      cases e1
      have hil:i<L.length:=by omega
      have c1:=(hb.cell (p:=⟨g,o+i,none⟩) hg).trans k1
      have hz:=uh HZ L[i] (List.getElem_mem hil)
      have HT:Hid (L.take (i+1)=L.take i ++ [L[i]]):=hide (List.take_succ_eq_append_getElem hil)
      have hti:(L.take i).length=i:=by rw [List.length_take];omega
      generalize L[i]=t at *
      have C:=hide fun v=>cloneS t v (by omega)
      rw [hti] at ho
      have HO:=hide ho
      have HB:=hide hb
      clear ho hb k1 HA
      go_wp2_with (first
        | (go_at_call 60;refine (uh C _).mono ?_;rintro e w3 ⟨rfl,hb3⟩
           have ho3:=own_at (uh HO) (fun g _ _ h2=>hb3.block g (Array.getElem?_eq_some_iff.1 h2).1)
           have hB3:=(uh HB).trans (hb3.mono (uh HB).size)
           have HX:=hide (And.intro ho3 hB3)
           clear ho3 hB3 hb3)
        | (at_builtin;refine append_txt rfl _ _ rfl w.heap.size _ (L.take i) i hti rfl (uh HX).1 t rfl (by omega) (uh HX).2.size ?_;rintro v4 w4 ho4 hg4
           have hB4:Below w.heap.size w w4:=((uh HX).2.alloc (uh HX).2.size _).grown hg4 (by simp;have:=(uh HX).2.size;omega) (fun k hk=>(World.ownsRow.lt (uh HX).1 k hk).1)
           have HY:=hide (And.intro ho4 hB4)
           clear ho4 hg4 hB4 HX))
      go_roundw
      case rel=>exact ⟨i+1,by omega,by go_num,by rw [uh HT,List.length_append,hti];exact (uh HY).1,(uh HY).2⟩
      case measure=>simp [intOf];omega
    · have e:i=n:=by omega
      subst e
      have d1:¬ ((i:Int)<(i:Int)):=by omega
      rw [List.take_of_length_le (by omega),hn] at ho
      go_wp2
      go_ret
      exact ⟨_,rfl,ho,hb⟩
set_option maxHeartbeats 4000000 in
theorem iTexts {w0:World} {B M:Nat} {p:Lp} {S Q:List ByteArray} {F:List Nb} {G:List ByteArray} {vq vf vg:Value} {q:World} (h:Lw w0 B M p S Q F G vq vf vg q) (ha:0≤p.va∧p.va≤7) (hS:S.length≤7) (hQ:Q.length≤100) :
    Calls Tryz.prog 87 #[.pointer (some ⟨B,0,none⟩)] q fun e q'=>∃ u,e=.returned u∧q'.ownsRow q.heap.size 9 1 u (S ++ Q).length (scells (S ++ Q))∧Below q.heap.size q q':=by
  obtain ⟨wi,vs,va,vr,ak⟩:=p
  dsimp only at *
  obtain ⟨c0,c1,c2,c3,c4,c5,c6,c7,c8⟩:=row9l h.row
  obtain ⟨n,hn⟩:∃ n,S.length=n:=⟨_,rfl⟩
  have hlen:=h.mp.len
  rw [hn] at hlen hS
  have HL:=hide h
  have fs:=field_st
  clear h
  go_enter Tryz.func87,Tryz.ntmps87
  go_wp2_with fail
  clear hlen c0 c1 c2 c3 c4 c5 c6 c7 c8
  go_loopw [3,4,15] (fun u m y wr=>∃ (i:Nat),i≤n∧y=.int .i64 i∧m=.int .i64 ((va+i) % 8)∧wr.ownsRow q.heap.size 9 1 u (S.take i).length (scells (S.take i))∧Below q.heap.size q wr) (fun _ _ y _=>n - (intOf y).toNat)
  case atStart=>exact ⟨0,Nat.zero_le _,rfl,by rw [show (va+((0:Nat):Int)) % 8=va by omega],by rw [List.take_zero];exact World.ownsRow_nil _ _ _ _,Below.refl _ _⟩
  case round u0 m0 y0 =>
    obtain ⟨i,hi,rfl,rfl,ho,hb⟩:=hrel
    by_cases hlt:i<n
    · have d2:(i:Int)<(n:Int):=by omega
      have hil:i<S.length:=by omega
      have hL:=(uh HL).step hb
      obtain ⟨_,_,_,_,_,_,c6,_,_⟩:=row9l hL.row
      have hlk:=hL.mp.look ha (by omega) i hil
      have HT:Hid (S.take (i+1)=S.take i ++ [S[i]]):=hide (List.take_succ_eq_append_getElem hil)
      have hti:(S.take i).length=i:=by rw [List.length_take];omega
      generalize S[i]=t at *
      have C:=hide fun v=>iNumN ((va+i) % 8) (by omega) v
      have HV:Hid (((va+(i:Int)) % 8+1) % 8=(va+((i+1:Nat):Int)) % 8):=hide (by omega)
      generalize (va+(i:Int)) % 8=k at *
      rw [hti] at ho
      have HO:=hide (And.intro ho hb)
      have fst:=fs 147 t rfl
      clear ho hb hL
      go_wp2_with (first
        | (at_builtin;refine append_txt rfl _ _ rfl q.heap.size _ (S.take i) i hti rfl (uh HO).1 t rfl (by omega) (uh HO).2.size ?_;rintro v4 w4 ho4 hg4
           have hB4:Below q.heap.size q w4:=((uh HO).2.alloc (uh HO).2.size _).grown hg4 (by simp;have:=(uh HO).2.size;omega) (fun k hk=>(World.ownsRow.lt (uh HO).1 k hk).1)
           have HY:=hide (And.intro ho4 hB4)
           clear ho4 hg4 hB4 HO hlk c6)
        | (go_at_call 114;refine (uh C _).mono ?_;rintro e w5 ⟨rfl,hw⟩;replace hw:=hw.symm;subst hw))
      go_roundw
      case rel=>exact ⟨i+1,by omega,by go_num,by rw [uh HV],by rw [uh HT,List.length_append,hti];exact (uh HY).1,(uh HY).2⟩
      case measure=>simp [intOf];omega
    · have e:i=n:=by omega
      subst e
      have d1:¬ ((i:Int)<(i:Int)):=by omega
      rw [List.take_of_length_le (by omega)] at ho
      have hL:=(uh HL).step hb
      obtain ⟨_,_,_,_,c4,_,_,_,_⟩:=row9l hL.row
      have HO:=hide (And.intro ho (And.intro hb hL.hq.s))
      clear ho hb hL
      go_wp2_with (first
        | (at_builtin;refine append_ts rfl _ _ rfl q.heap.size _ _ S Q rfl rfl (uh HO).1 (uh HO).2.2 (by omega) (by omega) (uh HO).2.1.size ?_;rintro v4 w4 ho4 hg4
           have hB4:Below q.heap.size q w4:=(uh HO).2.1.grown hg4 (uh HO).2.1.size (fun k hk=>(World.ownsRow.lt (uh HO).1 k hk).1)
           have HY:=hide (And.intro ho4 hB4)
           clear ho4 hg4 hB4 HO c4))
      go_ret
      refine ⟨_,rfl,?_,(uh HY).2⟩
      have hh:=(uh HY).1
      rw [List.length_append,hn] at hh
      exact hh
end Go.Proofs.YtkcghhkkepndnaaGreatDoor
namespace Go.Proofs.YtkcghhkkepndnaaGreatDoor
open Go.RowKit
structure LpRt (p:Lp) (L:List ByteArray):Prop where
 wi:1≤p.wi∧p.wi≤7
 vs:0≤p.vs∧p.vs≤7
 va:0≤p.va∧p.va≤7
 vr:0≤p.vr∧p.vr≤7
 l20:L.length≤20
 z:∀ t ∈ L,t.size≤200
 fw:far p.vs p.va≤p.wi
 fl:far p.vs p.va≤L.length
theorem lpRt {p:Lp} {L:List ByteArray} (h:lpOk p L=true):LpRt p L:=by
 unfold lpOk qOk at h
 simp only [Bool.and_eq_true,decide_eq_true_eq,List.all_eq_true] at h
 obtain ⟨h1,h2,h3,h4,⟨h5,h6⟩,h7,h8⟩:=h
 exact ⟨winOk_iff h1,numOk_iff h2,numOk_iff h3,numOk_iff h4,h5,h6,h7,h8⟩
def sentN (p:Lp):Nat:=(far p.vs p.va).toNat
theorem sentN_eq {p:Lp}:((sentN p:Nat):Int)=far p.vs p.va:=by
 have:=far_lt p.vs p.va
 unfold sentN
 omega
def vsOf (B:Nat) (w:World):Int:=match w.cell? ⟨B,1,none⟩ with
 | some v=>intOf v
 | none=>0
theorem vsOf_at {B:Nat} {w:World} {n:Int} (h:w.cell? ⟨B,1,none⟩=some (.int .i64 n)):vsOf B w=n:=by
 unfold vsOf
 rw [h]
 rfl
theorem drop_cons' {L:List ByteArray} {i:Nat} (h:i<L.length):L.drop i=L[i] :: L.drop (i+1):=List.drop_eq_getElem_cons h
theorem run_mk (W:World):(Instr.makeMap 102 none).run Tryz.prog W=.ok (.map (some W.heap.size)) (W.alloc (.map #[] 0)):=by
 rfl
set_option maxHeartbeats 8000000 in
theorem iWorkOn (p:Lp) (x:Option Addr) (y:Nat) (L:List ByteArray) (w:World) (hr:LpRt p L) (h:HoldsS w (.slice x L.length y) L) :
  Calls Tryz.prog 59 #[.agg (lpC p (.slice x L.length y))] w fun e w'=>e=.returned (.pointer (some ⟨w.heap.size+1+1,0,none⟩))∧∃ vq,Lw w (w.heap.size+1+1) (w.heap.size+1) p (L.take (sentN p)) (L.drop (sentN p)) [] [] vq (.slice none 0 0) (.slice none 0 0) w':=by
 have hk:=sentN_eq (p:=p)
 obtain ⟨k,ek⟩:∃ k,sentN p=k:=⟨_,rfl⟩
 rw [ek] at hk ⊢
 have hkl:k≤L.length:=by have:=hr.fl;omega
 have hk7:k≤7:=by have:=(far_lt p.vs p.va).2;omega
 have hvs:=hr.vs
 have hva:=hr.va
 unfold far at hk
 obtain ⟨hQ0,hQ1,hb0,hsz⟩:=new3l w (.cells (lpC p (.slice x L.length y)) 54) (.map #[] 0) (.cells (lwC p (w.heap.size+1) (.slice x L.length y) (.slice none 0 0) (.slice none 0 0)) 104)
 have C:=hide fun W (hb:Below w.heap.size w W)=>iSameT _ L W hr.l20 hr.z (h.below hb)
 have l20:=hr.l20
 obtain ⟨wi,vs,va,vr,ak⟩:=p
 unfold lpC at hQ0 hb0 hQ1 hsz ⊢
 unfold lwC at hQ0 hb0 hQ1 hsz
 dsimp only at *
 clear h hr
 generalize hn:L.length=n at *
 have H0:=hide (And.intro hQ0 (And.intro hQ1 (And.intro hb0 hsz)))
 clear hQ0 hQ1 hb0 hsz
 have hmk:=run_mk
 go_enter Tryz.func59,Tryz.ntmps59
 go_wp2_with fail
 refine (uh C _ (uh H0).2.2.2.1).mono ?_
 rintro e w1 ⟨u,rfl,hu,hb1⟩
 obtain ⟨ua,uc,rfl⟩:=own_form hu
 rw [(uh H0).2.2.2.2] at hu
 have hl1:HoldsQ w1 w.heap.size (.slice ua n uc) L:=by
  rw [← hn] at hu ⊢
  exact HoldsQ.own ⟨hu.1,hu.2.imp id fun ⟨g,cap,cur,a1,a2,a3⟩=>⟨g,cap,cur,a1,by omega,a3⟩⟩
 have hM:MapH w1 (w.heap.size+1) va []:=⟨_,_,(hb1.block (w.heap.size+1) (Array.getElem?_eq_some_iff.1 (uh H0).2.1).1).trans (uh H0).2.1,rfl⟩
 have hA:=(hb1.block w.heap.size (Array.getElem?_eq_some_iff.1 (uh H0).1).1).trans (uh H0).1
 have hB:=(hb1.block (w.heap.size+1+1) (Array.getElem?_eq_some_iff.1 (uh H0).2.2.1).1).trans (uh H0).2.2.1
 have hlo:=(uh H0).2.2.2.1.trans (hb1.mono (uh H0).2.2.2.1.size)
 have hne:∀ (g:Nat) (cur:Array Value),w1.heap[g]?=some (.cells cur 9)→g≠w.heap.size+1+1:=fun g cur h1 e=>by
  rw [e,hB] at h1
  cases h1
 have hL2:Lw w (w.heap.size+1+1) (w.heap.size+1) ⟨wi,va,va,vr,ak⟩ [] L [] [] (.slice ua n uc) (.slice none 0 0) (.slice none 0 0) ((w1.setCell ⟨w.heap.size+1+1,4,none⟩ (.slice ua n uc)).setCell ⟨w.heap.size+1+1,1,none⟩ (.int .i64 va)):=by
  have hk:∀ k,k≠w.heap.size+1+1→((w1.setCell ⟨w.heap.size+1+1,4,none⟩ (.slice ua n uc)).setCell ⟨w.heap.size+1+1,1,none⟩ (.int .i64 va)).heap[k]?=w1.heap[k]?:=fun k hk=>(heap_setCell_other _ _ _ _ hk).trans (heap_setCell_other _ _ _ _ hk)
  refine ⟨?_,hM.other (hk _ (by omega)),hl1.other fun g cur _ h2=>hk g (hne g cur h2),World.ownsRow_nil _ _ _ _,World.ownsRow_nil _ _ _ _,by omega,by omega,(hlo.setCell (p:=⟨w.heap.size+1+1,4,none⟩) (by show w.heap.size≤w.heap.size+1+1;omega) _).setCell (p:=⟨w.heap.size+1+1,1,none⟩) (by show w.heap.size≤w.heap.size+1+1;omega) _⟩
  exact heap_setCell_same _ _ 1 _ _ _ (heap_setCell_same _ _ 4 _ _ _ hB)
 have hA2:((w1.setCell ⟨w.heap.size+1+1,4,none⟩ (.slice ua n uc)).setCell ⟨w.heap.size+1+1,1,none⟩ (.int .i64 va)).heap[w.heap.size]?=some (.cells #[.int .i64 wi,.int .i64 vs,.int .i64 va,.int .i64 vr,.slice x n y,.bool ak] 54) :=
  (heap_setCell_other _ _ _ _ (by show w.heap.size≠w.heap.size+1+1;omega)).trans ((heap_setCell_other _ _ _ _ (by show w.heap.size≠w.heap.size+1+1;omega)).trans hA)
 obtain ⟨a0,a1,a2,a3,a4,a5⟩:=row6l hA
 obtain ⟨c0,c1,c2,c3,c4,c5,c6,c7,c8⟩:=row9l hB
 have f4:=frz hB 4
 have f1:=frz hB 1
 have H2:=hide (And.intro hL2 hA2)
 have n1:¬ (w.heap.size=w.heap.size+1+1):=by omega
 have n2:¬ (w.heap.size+1+1=w.heap.size):=by omega
 clear hL2 hA2 hne hl1 hM hA hB hlo hu hb1 H0 C hmk
 go_wp2_with fail
 refine gen_world (fun q=>Lw w (w.heap.size+1+1) (w.heap.size+1) ⟨wi,va,va,vr,ak⟩ [] L [] [] (.slice ua n uc) (.slice none 0 0) (.slice none 0 0) q∧q.heap[w.heap.size]?=some (.cells #[.int .i64 wi,.int .i64 vs,.int .i64 va,.int .i64 vr,.slice x n y,.bool ak] 54)) (uh H2) ?_
 clear H2 a0 a1 a2 a3 a4 a5 c0 c1 c2 c3 c4 c5 c6 c7 c8 f4 f1 w1
 rintro q0 hq0
 generalize hB:w.heap.size+1+1=B at *
 have HQ:=hide hq0
 clear hq0
 go_loopw [21] (fun _ wr=>∃ (i:Nat) (vq:Value),i≤k∧Lw w B (w.heap.size+1) ⟨wi,(va+i) % 8,va,vr,ak⟩ (L.take i) (L.drop i) [] [] vq (.slice none 0 0) (.slice none 0 0) wr∧wr.heap[w.heap.size]?=some (.cells #[.int .i64 wi,.int .i64 vs,.int .i64 va,.int .i64 vr,.slice x n y,.bool ak] 54)) (fun _ wr=>k - ((vsOf B wr - va) % 8).toNat)
 case atStart =>
  refine ⟨0,.slice ua n uc,Nat.zero_le _,?_,(uh HQ).2⟩
  rw [show (va+((0:Nat):Int)) % 8=va by omega,List.take_zero,List.drop_zero]
  exact (uh HQ).1
 case round =>
  obtain ⟨i,vq,hi,hL,hA⟩:=hrel
  obtain ⟨a0,a1,a2,a3,a4,a5⟩:=row6l hA
  obtain ⟨c0,c1,c2,c3,c4,c5,c6,c7,c8⟩:=row9l hL.row
  dsimp only at c1
  by_cases hlt:i<k
  ·have d1:((va+(i:Int)) % 8 != vs)=true:=bne_iff_ne.2 (by omega)
   have hil:i<L.length:=by omega
   have hL':=hL
   rw [drop_cons' hil] at hL'
   have HT:Hid (L.take (i+1)=L.take i ++ [L[i]]):=hide (List.take_succ_eq_append_getElem hil)
   have hti:(L.take i).length=i:=by rw [List.length_take];omega
   have CN:=hide (fun W (hW:Lw w B (w.heap.size+1) ⟨wi,(va+i) % 8,va,vr,ak⟩ (L.take i) (L[i] :: L.drop (i+1)) [] [] vq (.slice none 0 0) (.slice none 0 0) W)=>iNumF hW hva (by rw [hti];omega) (by rw [hti]))
   have HL:=hide hL'
   have HA:=hide hA
   clear hL hL' hA
   go_wp2_with fail
   go_region
   clear a0 a1 a2 a3 a4 a5 c0 c1 c2 c3 c4 c5 c6 c7 c8
   go_wp2_with fail
   refine (uh CN _ (uh HL).drew).mono ?_
   rintro e w5 ⟨rfl,⟨vq',h5⟩,hk5,_⟩
   have hA5:=(hk5 w.heap.size (by omega) (by omega)).trans (uh HA)
   have hv5:vsOf B w5=((va+(i:Int)) % 8+1) % 8:=vsOf_at (row9l h5.row).2.1
   have hv0:vsOf B wr=(va+(i:Int)) % 8:=vsOf_at (row9l (uh HL).row).2.1
   have HX:=hide (And.intro h5 (And.intro hA5 (And.intro hv5 hv0)))
   clear h5 hk5 hA5 hv5 hv0 HL HA CN
   go_wp2_with fail
   go_roundw
   case rel =>
    refine ⟨i+1,vq',by omega,?_,(uh HX).2.1⟩
    have:=(uh HX).1
    rw [← uh HT,show ((va+(i:Int)) % 8+1) % 8=(va+((i+1:Nat):Int)) % 8 by omega] at this
    exact this
   case measure =>
    rw [(uh HX).2.2.1,(uh HX).2.2.2]
    omega
  ·have e:i=k:=by omega
   subst e
   have d1:((va+(i:Int)) % 8 != vs)=false:=by
    rw [bne_eq_false_iff_eq]
    omega
   have HV:Hid ((va+(i:Int)) % 8=vs):=hide (by omega)
   have HL:=hide hL
   clear hL hA
   go_wp2_with fail
   go_region
   go_wp2
   go_ret
   have hf:=(uh HL).drew
   rw [uh HV] at hf
   exact ⟨by rw [← hB];rfl,vq,by rw [hB];exact hf⟩
end Go.Proofs.YtkcghhkkepndnaaGreatDoor
namespace Go.Proofs.YtkcghhkkepndnaaGreatDoor
open Go.RowKit
def loC (p:Lp) (v vf vg:Value) (cd:Int):Array Value:=#[.int .i64 p.wi,.int .i64 p.vs,.int .i64 p.va,.int .i64 p.vr,v,.bool p.ak,vf,vg,.int .i64 cd]
structure LO where
 p:Lp
 Q:List ByteArray
 sn:List Nb
 gt:List ByteArray
 cd:Int
def loErr (k:Int):LO:=⟨lpZero,[],[],[],k⟩
def AnsL (w0:World) (o:LO) (e:Ending) (q:World):Prop :=
 ∃ v vf vg,e=.returned (.agg (loC o.p v vf vg o.cd))∧q.ownsRow w0.heap.size 9 1 v o.Q.length (scells o.Q)∧q.ownsRow w0.heap.size 96 4 vf o.sn.length (nbcells o.sn)∧q.ownsRow w0.heap.size 9 1 vg o.gt.length (scells o.gt) ∧
  (∀ g,v.ownBlock=some g→vg.ownBlock≠some g)∧Below w0.heap.size w0 q
theorem infoLo:(Tryz.prog.info? 79).map (·.size)=some 9:=by kernel_rfl
theorem loadLo {W:World} {E:Nat} {cs:Array Value} (h:W.heap[E]?=some (.cells cs 79)) (hs:cs.size=9:=by rfl):(loadVar 79 ⟨E,0,none⟩).run Tryz.prog W=.ok (.agg cs) W :=
 run_loadVar_row (P:=Tryz.prog) _ _ 79 79 cs (0,0) _ h Tryz.underlying79 rfl (by rw [hs];exact infoLo)
theorem set9_lo {W:World} {E:Nat} {z0 z1 z2 z3 z4 z5 z6 z7 z8:Value} {T:TypeId} (h:W.heap[E]?=some (.cells #[z0,z1,z2,z3,z4,z5,z6,z7,z8] T)) (x0 x1 x2 x3 x4 x5 x6 x7 x8:Value) :
  (((((((((W.setCell ⟨E,0,none⟩ x0).setCell ⟨E,1,none⟩ x1).setCell ⟨E,2,none⟩ x2).setCell ⟨E,3,none⟩ x3).setCell ⟨E,4,none⟩ x4).setCell ⟨E,5,none⟩ x5).setCell ⟨E,6,none⟩ x6).setCell ⟨E,7,none⟩ x7).setCell ⟨E,8,none⟩ x8).heap[E]?=some (.cells #[x0,x1,x2,x3,x4,x5,x6,x7,x8] T):=by
 rw [heap_setCell_same _ _ 8 _ _ x8 (heap_setCell_same _ _ 7 _ _ x7 (heap_setCell_same _ _ 6 _ _ x6 (heap_setCell_same _ _ 5 _ _ x5 (heap_setCell_same _ _ 4 _ _ x4 (heap_setCell_same _ _ 3 _ _ x3 (heap_setCell_same _ _ 2 _ _ x2 (heap_setCell_same _ _ 1 _ _ x1 (heap_setCell_same _ _ 0 _ _ x0 h))))))))]
 simp only [List.setIfInBounds_toArray,List.set_cons_zero,List.set_cons_succ]
theorem set9_ot {W:World} {E k:Nat} (hk:k≠E) (x0 x1 x2 x3 x4 x5 x6 x7 x8:Value) :
  (((((((((W.setCell ⟨E,0,none⟩ x0).setCell ⟨E,1,none⟩ x1).setCell ⟨E,2,none⟩ x2).setCell ⟨E,3,none⟩ x3).setCell ⟨E,4,none⟩ x4).setCell ⟨E,5,none⟩ x5).setCell ⟨E,6,none⟩ x6).setCell ⟨E,7,none⟩ x7).setCell ⟨E,8,none⟩ x8).heap[k]?=W.heap[k]?:=by
 have f:∀ (V:World) (i:Nat) (x:Value),(V.setCell ⟨E,i,none⟩ x).heap[k]?=V.heap[k]?:=fun V i x=>heap_setCell_other _ _ _ _ hk
 rw [f,f,f,f,f,f,f,f,f]
theorem set9_bl {n:Nat} {w W:World} {E:Nat} (h:Below n w W) (hE:n≤E) (x0 x1 x2 x3 x4 x5 x6 x7 x8:Value) :
  Below n w (((((((((W.setCell ⟨E,0,none⟩ x0).setCell ⟨E,1,none⟩ x1).setCell ⟨E,2,none⟩ x2).setCell ⟨E,3,none⟩ x3).setCell ⟨E,4,none⟩ x4).setCell ⟨E,5,none⟩ x5).setCell ⟨E,6,none⟩ x6).setCell ⟨E,7,none⟩ x7).setCell ⟨E,8,none⟩ x8):=by
 have f:∀ (V:World) (i:Nat) (x:Value),Below n w V→Below n w (V.setCell ⟨E,i,none⟩ x):=fun V i x hV=>hV.setCell (p:=⟨E,i,none⟩) hE _
 exact f _ _ _ (f _ _ _ (f _ _ _ (f _ _ _ (f _ _ _ (f _ _ _ (f _ _ _ (f _ _ _ (f _ _ _ h))))))))
theorem frz9l {w:World} {B:Nat} {cs:Array Value} {T:TypeId} (h:w.heap[B]?=some (.cells cs T)) :
  w.frozen? ⟨B,0,none⟩=false∧w.frozen? ⟨B,1,none⟩=false∧w.frozen? ⟨B,2,none⟩=false∧w.frozen? ⟨B,3,none⟩=false∧w.frozen? ⟨B,4,none⟩=false∧w.frozen? ⟨B,5,none⟩=false∧w.frozen? ⟨B,6,none⟩=false∧w.frozen? ⟨B,7,none⟩=false∧w.frozen? ⟨B,8,none⟩=false :=
 ⟨frz h _,frz h _,frz h _,frz h _,frz h _,frz h _,frz h _,frz h _,frz h _⟩
set_option maxHeartbeats 8000000 in
theorem iOutL {w0:World} {B M:Nat} {p:Lp} {S Q:List ByteArray} {F:List Nb} {G:List ByteArray} {vq vf vg:Value} {q:World} (h:Lw w0 B M p S Q F G vq vf vg q) (ha:0≤p.va∧p.va≤7) (hS:S.length≤7) (hQ:Q.length≤100) :
  Calls Tryz.prog 61 #[.pointer (some ⟨B,0,none⟩)] q fun e q'=>AnsL w0 ⟨p,S ++ Q,F,G,0⟩ e q':=by
 have C:=hide fun W (hb:Below q.heap.size q W)=>iTexts (h.step hb) ha hS hQ
 obtain ⟨hN0,hN1,hbN,hsN⟩:=new2l q (.cells #[.int .i64 0,.int .i64 0,.int .i64 0,.int .i64 0,.slice none 0 0,.bool false,.slice none 0 0,.slice none 0 0,.int .i64 0] 79) (.cells (lpC p vq) 54)
 obtain ⟨fa,fc,rfl⟩:=own_form h.of
 obtain ⟨ga,gc,rfl⟩:=own_form h.og
 obtain ⟨qa,qc,rfl⟩:=h.hq.form
 obtain ⟨wi,vs,va,vr,ak⟩:=p
 obtain ⟨c0,c1,c2,c3,c4,c5,c6,c7,c8⟩:=row9l h.row
 have hBlt:B<q.heap.size:=(Array.getElem?_eq_some_iff.1 h.row).1
 have HL:=hide h
 unfold lpC at hN0 hN1 hbN hsN
 dsimp only at *
 have H0:=hide (And.intro hN0 (And.intro hN1 (And.intro hbN hsN)))
 clear h hN0 hN1 hbN hsN
 generalize hqn:Q.length=nq at *
 generalize hfn:F.length=nf at *
 generalize hgn:G.length=ng at *
 go_enter Tryz.func61,Tryz.ntmps61
 go_wp2_with fail
 refine (uh C _ (uh H0).2.2.1).mono ?_
 rintro e w1 ⟨u,rfl,hu,hb1⟩
 obtain ⟨ua,uc,rfl⟩:=own_form hu
 have k0:=(hb1.block q.heap.size (Array.getElem?_eq_some_iff.1 (uh H0).1).1).trans (uh H0).1
 have k1:=(hb1.block (q.heap.size+1) (Array.getElem?_eq_some_iff.1 (uh H0).2.1).1).trans (uh H0).2.1
 have hB1:=(uh H0).2.2.1.trans (hb1.mono (uh H0).2.2.1.size)
 rw [(uh H0).2.2.2] at hu
 have kL:=(uh HL).step hB1
 obtain ⟨c0,c1,c2,c3,c4,c5,c6,c7,c8⟩:=row9l kL.row
 obtain ⟨r0,r1,r2,r3,r4,r5,r6,r7,r8⟩:=row9l k0
 obtain ⟨f0,f1,f2,f3,f4,f5,f6,f7,f8⟩:=frz9l k0
 obtain ⟨l0,l1,l2,l3,l4,l5⟩:=row6l k1
 have p4:=frz k1 4
 have n1:¬ (B=q.heap.size):=by omega
 have n2:¬ (B=q.heap.size+1):=by omega
 have n3:¬ (q.heap.size=q.heap.size+1):=by omega
 have n4:¬ (q.heap.size+1=q.heap.size):=by omega
 have n5:¬ (q.heap.size=B):=by omega
 have n6:¬ (q.heap.size+1=B):=by omega
 have hfl:∀ g,(Value.slice fa nf fc).ownBlock=some g→g<q.heap.size:=fun g hg=>((uh HL).of.lt g hg).2
 have hgl:∀ g,(Value.slice ga ng gc).ownBlock=some g→g<q.heap.size:=fun g hg=>((uh HL).og.lt g hg).2
 have hw0:=(uh HL).lo
 have HX:=hide (And.intro hu (And.intro kL (And.intro k0 (And.intro hB1 (And.intro hfl (And.intro hgl hw0))))))
 clear hu kL k0 k1 hB1 hb1 H0 HL C hfl hgl hw0
 generalize hsq:(S ++ Q).length=nn at *
 dsimp only at *
 go_wp2_with fail
 go_region
 go_wp2
 obtain ⟨hu,kL,k0,hB1,hfl,hgl,hw00⟩:=uh HX
 have hw0:=hw00.size
 have k0':(w1.setCell ⟨q.heap.size+1,4,none⟩ (.slice ua nn uc)).heap[q.heap.size]?=_:=(heap_setCell_other _ _ _ _ (by show q.heap.size≠q.heap.size+1;omega)).trans k0
 have hfin:=set9_lo k0' (.int .i64 wi) (.int .i64 vs) (.int .i64 va) (.int .i64 vr) (.slice ua nn uc) (.bool ak) (.slice fa nf fc) (.slice ga ng gc) (.int .i64 0)
 have hot:=fun (k:Nat) (h1:k≠q.heap.size) (h2:k≠q.heap.size+1)=>(set9_ot (W:=w1.setCell ⟨q.heap.size+1,4,none⟩ (.slice ua nn uc)) h1 (.int .i64 wi) (.int .i64 vs) (.int .i64 va) (.int .i64 vr) (.slice ua nn uc) (.bool ak) (.slice fa nf fc) (.slice ga ng gc) (.int .i64 0)).trans (heap_setCell_other w1 ⟨q.heap.size+1,4,none⟩ k (.slice ua nn uc) h2)
 have hbl:=set9_bl (hB1.setCell (p:=⟨q.heap.size+1,4,none⟩) (by show q.heap.size≤q.heap.size+1;omega) (.slice ua nn uc)) (Nat.le_refl _) (.int .i64 wi) (.int .i64 vs) (.int .i64 va) (.int .i64 vr) (.slice ua nn uc) (.bool ak) (.slice fa nf fc) (.slice ga ng gc) (.int .i64 0)
 clear HX k0' k0
 generalize (((((((((((w1.setCell ⟨q.heap.size+1,4,none⟩ (.slice ua nn uc)).setCell ⟨q.heap.size,0,none⟩ (.int .i64 wi)).setCell ⟨q.heap.size,1,none⟩ (.int .i64 vs)).setCell ⟨q.heap.size,2,none⟩ (.int .i64 va)).setCell ⟨q.heap.size,3,none⟩ (.int .i64 vr)).setCell ⟨q.heap.size,4,none⟩ (.slice ua nn uc)).setCell ⟨q.heap.size,5,none⟩ (.bool ak)).setCell ⟨q.heap.size,6,none⟩ (.slice fa nf fc)).setCell ⟨q.heap.size,7,none⟩ (.slice ga ng gc)).setCell ⟨q.heap.size,8,none⟩ (.int .i64 0)):World)=Z at *
 refine bodyPost_ret (v:=.agg #[.int .i64 wi,.int .i64 vs,.int .i64 va,.int .i64 vr,.slice ua nn uc,.bool ak,.slice fa nf fc,.slice ga ng gc,.int .i64 0]) (by simp [results,Tryz.results61,asAddr,loadLo (W:=Z.drew) hfin]) rfl ?_
 refine ⟨.slice ua nn uc,.slice fa nf fc,.slice ga ng gc,rfl,?_,?_,?_,?_,?_⟩
 ·rw [hsq]
  refine own_at ⟨hu.1,hu.2.imp id fun ⟨g,cap,cur,a1,a2,a3⟩=>⟨g,cap,cur,a1,by omega,a3⟩⟩ (fun g cur hg _=>?_)
  have:=(hu.lt g hg).1
  exact hot g (by omega) (by omega)
 ·rw [hfn]
  have ho:=kL.of
  rw [hfn] at ho
  exact own_at ho (fun g _ hg _=>by have:=hfl g hg;exact hot g (by omega) (by omega))
 ·rw [hgn]
  have ho:=kL.og
  rw [hgn] at ho
  exact own_at ho (fun g _ hg _=>by have:=hgl g hg;exact hot g (by omega) (by omega))
 ·intro g h1 h2
  have:=(hu.lt g h1).1
  have:=hgl g h2
  omega
 ·have hz:=hw00.trans (hbl.mono hw0)
  exact ⟨hz.os,hz.tape,hz.output,hz.size,hz.block⟩
end Go.Proofs.YtkcghhkkepndnaaGreatDoor
namespace Go.Proofs.YtkcghhkkepndnaaGreatDoor
open Go.RowKit
section
variable {w0:World} {B M:Nat} {p:Lp} {S Q:List ByteArray} {F:List Nb} {G:List ByteArray} {vq vf vg:Value} {q:World}
set_option maxHeartbeats 8000000 in
theorem iGoBack (h:Lw w0 B M p S Q F G vq vf vg q) (ha:0≤p.va∧p.va≤7) (hS:S.length≤7) (hQ:Q.length≤100) :
  Calls Tryz.prog 92 #[.pointer (some ⟨B,0,none⟩)] q fun e q'=>e=.returned (.tuple #[])∧∃ vq',Lw w0 B M ⟨p.wi,p.va,p.va,p.vr,p.ak⟩ [] (S ++ Q) F G vq' vf vg q':=by
 have C:=hide (iTexts h ha hS hQ)
 have HL:=hide h
 clear h
 go_enter Tryz.func92,Tryz.ntmps92
 go_wp2_with fail
 refine (uh C).mono ?_
 rintro e w1 ⟨u,rfl,hu,hb1⟩
 obtain ⟨ua,uc,rfl⟩:=own_form hu
 have kL:=(uh HL).step hb1
 have hn4:∀ g,(Value.slice ua (S ++ Q).length uc).ownBlock=some g→g≠B:=fun g hg=>by
  have h1:=(hu.lt g hg).1
  have h2:=(Array.getElem?_eq_some_iff.1 (uh HL).row).1
  omega
 have k2:=kL.set (i:=4) (x:=.slice ua (S ++ Q).length uc) (p':=p) (vq':=.slice ua (S ++ Q).length uc) (vf':=vf) (vg':=vg) (Q':=S ++ Q) (F':=F) (G':=G) rfl rfl (fun _ _=>(HoldsQ.own (own_at ⟨hu.1,hu.2.imp id fun ⟨g,cap,cur,a1,a2,a3⟩=>⟨g,cap,cur,a1,by have:=(uh HL).lo.size;omega,a3⟩⟩ (fun g _ hg _=>heap_setCell_other _ _ _ _ (hn4 g hg))))) (fun k=>k) (fun k=>k)
 obtain ⟨ob,hcl,hmc⟩:=k2.mp.clear p.va 0
 have k3:=k2.putM hmc
 obtain ⟨wi,vs,va,vr,ak⟩:=p
 have k4:=k3.setP (i:=1) (x:=.int .i64 va) (p':=⟨wi,va,va,vr,ak⟩) rfl rfl
 obtain ⟨c0,c1,c2,c3,c4,c5,c6,c7,c8⟩:=row9l kL.row
 have f4:=frz kL.row 4
 obtain ⟨_,_,d2,_,_,_,_,_,_⟩:=row9l k3.row
 obtain ⟨_,d1,_,_,_,_,_,_,_⟩:=row9l k3.row
 have f1:=frz k3.row 1
 have H4:=hide k4
 generalize hnn:(S ++ Q).length=nn at *
 clear kL hn4 k2 hmc k3 k4 hu hb1 HL C
 dsimp only at *
 generalize putB (w1.setCell ⟨B,4,none⟩ (.slice ua nn uc)) M ob=W at *
 go_wp2_with fail
 exact Great.bodyPost_end0 rfl rfl ⟨rfl,_,uh H4⟩
end
end Go.Proofs.YtkcghhkkepndnaaGreatDoor
namespace Go.Proofs.YtkcghhkkepndnaaGreatDoor
open Go.RowKit
def againF (p:Lp) (L:List ByteArray):LO:=if lpOk p L=true then ⟨⟨p.wi,p.va,p.va,p.vr,p.ak⟩,L,[],[],0⟩ else loErr 1
theorem AnsL.put {w W1 q:World} {o:LO} {v vf vg:Value} {R:Nat}
  (o1:q.ownsRow W1.heap.size 9 1 v o.Q.length (scells o.Q)) (o2:q.ownsRow W1.heap.size 96 4 vf o.sn.length (nbcells o.sn)) (o3:q.ownsRow W1.heap.size 9 1 vg o.gt.length (scells o.gt))
  (hap:∀ g,v.ownBlock=some g→vg.ownBlock≠some g) (lo:Below W1.heap.size W1 q) (hR:R<W1.heap.size) (hRw:w.heap.size≤R) (hb:Below w.heap.size w W1) (x0 x1 x2 x3 x4 x5 x6 x7 x8:Value) :
  AnsL w o (.returned (.agg (loC o.p v vf vg o.cd))) (((((((((q.setCell ⟨R,0,none⟩ x0).setCell ⟨R,1,none⟩ x1).setCell ⟨R,2,none⟩ x2).setCell ⟨R,3,none⟩ x3).setCell ⟨R,4,none⟩ x4).setCell ⟨R,5,none⟩ x5).setCell ⟨R,6,none⟩ x6).setCell ⟨R,7,none⟩ x7).setCell ⟨R,8,none⟩ x8):=by
 have hs:=hb.size
 have low:∀ {e:TypeId} {size n:Nat} {u:Value} {xs:List Value},q.ownsRow W1.heap.size e size u n xs→(((((((((q.setCell ⟨R,0,none⟩ x0).setCell ⟨R,1,none⟩ x1).setCell ⟨R,2,none⟩ x2).setCell ⟨R,3,none⟩ x3).setCell ⟨R,4,none⟩ x4).setCell ⟨R,5,none⟩ x5).setCell ⟨R,6,none⟩ x6).setCell ⟨R,7,none⟩ x7).setCell ⟨R,8,none⟩ x8).ownsRow w.heap.size e size u n xs:=by
  intro e size n u xs h
  refine own_at ⟨h.1,h.2.imp id fun ⟨g,cap,cur,a1,a2,a3⟩=>⟨g,cap,cur,a1,by omega,a3⟩⟩ (fun g _ hg _=>?_)
  have:=(h.lt g hg).1
  exact set9_ot (by omega) _ _ _ _ _ _ _ _ _
 exact ⟨v,vf,vg,rfl,low o1,low o2,low o3,hap,set9_bl (hb.trans (lo.mono hs)) hRw _ _ _ _ _ _ _ _ _⟩
set_option maxHeartbeats 8000000 in
theorem iAgain (p:Lp) (x:Option Addr) (y:Nat) (L:List ByteArray) (w:World) (hl:L.length≤1048576) (h:HoldsS w (.slice x L.length y) L) :
  Calls Tryz.prog 66 #[.agg (lpC p (.slice x L.length y))] w fun e q=>AnsL w (againF p L) e q:=by
 have C1:=hide fun W (hb:Below w.heap.size w W)=>iLpRight p x y L W hl (h.below hb)
 obtain ⟨hN0,hN1,hbW,hsW⟩:=new2l w (.cells (lpC p (.slice x L.length y)) 54) (.cells #[.int .i64 0,.int .i64 0,.int .i64 0,.int .i64 0,.slice none 0 0,.bool false,.slice none 0 0,.slice none 0 0,.int .i64 0] 79)
 have HS:=hide h
 unfold againF
 clear h
 cases hk:lpOk p L
 ·rw [if_neg (by decide)]
  rw [hk] at C1
  obtain ⟨wi,vs,va,vr,ak⟩:=p
  unfold lpC at hN0 hN1 hbW hsW C1 ⊢
  dsimp only at *
  have H0:=hide (And.intro hN1 hbW)
  clear hN0 hN1 hbW hsW HS hk
  generalize L.length=n at *
  go_enter Tryz.func66,Tryz.ntmps66
  go_wp2_with fail
  refine (uh C1 _ (uh H0).2).mono ?_
  rintro e w1 ⟨rfl,hb1⟩
  have k0:=(hb1.block (w.heap.size+1) (Array.getElem?_eq_some_iff.1 (uh H0).1).1).trans (uh H0).1
  have hB1:=(uh H0).2.trans (hb1.mono (uh H0).2.size)
  obtain ⟨r0,r1,r2,r3,r4,r5,r6,r7,r8⟩:=row9l k0
  obtain ⟨f0,f1,f2,f3,f4,f5,f6,f7,f8⟩:=frz9l k0
  have HX:=hide (And.intro k0 hB1)
  clear k0 hB1 hb1 H0 C1
  go_wp2
  obtain ⟨k0,hB1⟩:=uh HX
  refine bodyPost_ret (v:=.agg #[.int .i64 0,.int .i64 0,.int .i64 0,.int .i64 0,.slice none 0 0,.bool false,.slice none 0 0,.slice none 0 0,.int .i64 1]) (by simp [results,Tryz.results66,asAddr,loadLo (set9_lo k0 (.int .i64 0) (.int .i64 0) (.int .i64 0) (.int .i64 0) (.slice none 0 0) (.bool false) (.slice none 0 0) (.slice none 0 0) (.int .i64 1))]) rfl ?_
  exact ⟨.slice none 0 0,.slice none 0 0,.slice none 0 0,rfl,World.ownsRow_nil _ _ _ _,World.ownsRow_nil _ _ _ _,World.ownsRow_nil _ _ _ _,(fun g hg=>by cases hg),set9_bl hB1 (by omega) _ _ _ _ _ _ _ _ _⟩
 ·rw [if_pos rfl]
  rw [hk] at C1
  have hr:=lpRt hk
  have hS7:sentN p≤7:=by have:=sentN_eq (p:=p);have:=(far_lt p.vs p.va).2;omega
  have C2:=hide fun W (hb:Below w.heap.size w W)=>iWorkOn p x y L W hr ((uh HS).below hb)
  have HR:=hide hr
  obtain ⟨wi,vs,va,vr,ak⟩:=p
  unfold lpC at hN0 hN1 hbW hsW C1 C2 ⊢
  dsimp only at *
  have H0:=hide (And.intro hN0 (And.intro hN1 (And.intro hbW hsW)))
  clear hN0 hN1 hbW hsW HS hk hr
  generalize hn:L.length=n at *
  go_enter Tryz.func66,Tryz.ntmps66
  go_wp2_with fail
  refine (uh C1 _ (uh H0).2.2.1).mono ?_
  rintro e w1 ⟨rfl,hb1⟩
  have k0:=(hb1.block w.heap.size (Array.getElem?_eq_some_iff.1 (uh H0).1).1).trans (uh H0).1
  have kR1:=(hb1.block (w.heap.size+1) (Array.getElem?_eq_some_iff.1 (uh H0).2.1).1).trans (uh H0).2.1
  have hbW:=(uh H0).2.2.1.trans (hb1.mono (uh H0).2.2.1.size)
  have hsW:w.heap.size+2≤w1.heap.size:=by have:=hb1.size;rw [(uh H0).2.2.2] at this;exact this
  obtain ⟨a0,a1,a2,a3,a4,a5⟩:=row6l k0
  have H1:=hide (And.intro kR1 (And.intro hbW hsW))
  clear k0 kR1 hbW hsW hb1 H0 C1
  go_wp2_with fail
  refine (uh C2 _ (uh H1).2.1).mono ?_
  rintro e w2 ⟨rfl,vq,hL2⟩
  have C3:=hide (iGoBack hL2 (uh HR).va (by rw [List.length_take];omega) (by rw [List.length_drop];have:=(uh HR).l20;omega))
  clear C2 a0 a1 a2 a3 a4 a5
  go_wp2_with fail
  refine (uh C3).mono ?_
  rintro e w3 ⟨rfl,vq',hL3⟩
  have CO:=hide (iOutL hL3 (uh HR).va (by simp) (by rw [List.take_append_drop];have:=(uh HR).l20;omega))
  clear C3 hL3
  rw [List.take_append_drop,List.nil_append] at CO
  go_wp2_with fail
  refine (uh CO).mono ?_
  rintro e q5 ⟨v,vf,vg,rfl,o1,o2,o3,hap,lo5⟩
  obtain ⟨va1,vc1,rfl⟩:=own_form o1
  obtain ⟨va2,vc2,rfl⟩:=own_form o2
  obtain ⟨va3,vc3,rfl⟩:=own_form o3
  have kR:=(lo5.block (w.heap.size+1) (by have:=(uh H1).2.2;omega)).trans (uh H1).1
  obtain ⟨r0,r1,r2,r3,r4,r5,r6,r7,r8⟩:=row9l kR
  obtain ⟨f0,f1,f2,f3,f4,f5,f6,f7,f8⟩:=frz9l kR
  have HX:=hide (And.intro o1 (And.intro o2 (And.intro o3 (And.intro hap (And.intro lo5 kR)))))
  clear o1 o2 o3 hap lo5 kR CO
  dsimp only [loC]
  go_wp2_with fail
  obtain ⟨o1,o2,o3,hap,lo5,kR⟩:=uh HX
  obtain ⟨_,hbW,hsW⟩:=uh H1
  refine bodyPost_ret (v:=.agg (loC ⟨wi,va,va,vr,ak⟩ (.slice va1 L.length vc1) (.slice va2 0 vc2) (.slice va3 0 vc3) 0)) (by simp [results,Tryz.results66,asAddr,loC,hn,loadLo (set9_lo kR _ _ _ _ _ _ _ _ _)]) rfl ?_
  exact AnsL.put (o:=⟨⟨wi,va,va,vr,ak⟩,L,[],[],0⟩) o1 o2 o3 hap lo5 (by omega) (by omega) hbW _ _ _ _ _ _ _ _ _
end Go.Proofs.YtkcghhkkepndnaaGreatDoor
namespace Go.Proofs.YtkcghhkkepndnaaGreatDoor
open Go.RowKit
theorem HoldsQ.lower {w:World} {b b':Nat} {v:Value} {L:List ByteArray} (h:HoldsQ w b v L) (hb:b'≤b):HoldsQ w b' v L :=
 h.imp id fun ⟨g,o,cp,cur,h1,h2,h3,h4⟩=>⟨g,o,cp,cur,h1,h2,by omega,h4⟩
theorem run_append_q {W:World} {base:Nat} {v:Value} {Q:List ByteArray} {t:ByteArray} {A:Nat} (ty:TypeId) (hq:HoldsQ W base v Q) (hA:W.cell? ⟨A,0,none⟩=some (.string t)) (hQ:Q.length≤1000) (hbase:base≤W.heap.size) :
  ∃ v' W',(Builtin.append_ #[23,23] ty #[v,.slice (some ⟨A,0,none⟩) 1 1]).run Tryz.prog W=.ok v' W'∧HoldsQ W' base v' (Q ++ [t])∧W.grownBy W' v.ownBlock:=by
 obtain ⟨i,hi,hz,hsz,hby⟩:=sinfo
 have hnews:∀ j u,([.string t]:List Value)[j]?=some u→W.cell? ((⟨A,0,none⟩:Addr).add j)=some u:=by
  intro j u hu
  cases j with
  | zero=>simp at hu;rw [Addr.add_lit,← hu];exact hA
  | succ j=>simp at hu
 have hone:∀ u ∈ ([.string t]:List Value),u.oneCell'=true:=by
  intro u hu
  simp at hu
  rw [hu]
  rfl
 rcases hq with ⟨rfl,rfl⟩ | ⟨g,o,cp,cur,rfl,h2,h3,h4,h5,h6⟩
 ·obtain ⟨v',W',h1,h2,h3,_⟩:=run_append_own (P:=Tryz.prog) W base 23 ty 9 i _ 1 16 Tryz.underlying23 hi hz hsz hby rfl (by decide) (.slice none 0 0) 0 [] (World.ownsRow_nil _ _ _ _) ⟨A,0,none⟩ 1 1 [.string t] rfl hnews hone
   (by unfold maxLen;omega) (by omega) hbase
  exact ⟨v',W',h1,HoldsQ.own (L:=[] ++ [t]) h2,h3⟩
 ·by_cases hr:Q.length+1≤cp
  ·have hc:o+Q.length<cur.size:=by omega
   have hcell:∀ j,j<([.string t]:List Value).length→(W.cell? ⟨g,o+Q.length*i.size+j,none⟩).isSome=true∧W.frozen? ⟨g,o+Q.length*i.size+j,none⟩=false:=by
    intro j hj
    simp at hj
    subst hj
    rw [hsz,Nat.mul_one,Nat.add_zero,cell_of_row _ _ _ _ _ _ h2,Array.getElem?_eq_getElem hc]
    exact ⟨rfl,frz h2 _⟩
   have hrun:=run_append_room_cells (P:=Tryz.prog) W 23 ty 9 i Tryz.underlying23 hi g o Q.length cp ⟨A,0,none⟩ 1 1 [.string t] (by rw [hsz];rfl) hnews hone hr (fun j hj=>(hcell j hj).1) (fun j hj=>(hcell j hj).2)
   rw [hsz,Nat.mul_one] at hrun
   have hset:W.setCells g (o+Q.length) [.string t]=W.setCell ⟨g,o+Q.length,none⟩ (.string t):=rfl
   rw [hset] at hrun
   refine ⟨_,_,hrun,Or.inr ⟨g,o,cp,_,by rw [List.length_append];rfl,heap_setCell_same _ _ (o+Q.length) _ _ _ h2,h3,by rw [List.length_append];exact hr,by simpa using h5,fun j hj=>?_⟩,?_⟩
   ·rw [Array.getElem?_setIfInBounds]
    rw [List.length_append,List.length_singleton] at hj
    by_cases e:o+Q.length=o+j
    ·rw [if_pos e,if_pos hc]
     have ej:j=Q.length:=by omega
     subst ej
     simp
    ·rw [if_neg e,h6 j (by omega)]
     rw [List.getElem_append_left (by omega)]
   ·have hb:=(Below.refl 0 W).setCell (p:=⟨g,o+Q.length,none⟩) (Nat.zero_le _) (.string t)
    exact ⟨hb.os,hb.tape,hb.output,hb.size,fun k _ hk=>heap_setCell_other _ _ _ _ (fun e=>hk (by rw [e];rfl))⟩
  ·obtain ⟨v',W',h1,r1,r2⟩:=run_append_arg_grows (P:=Tryz.prog) W 23 ty 9 i _ 1 16 Tryz.underlying23 hi hz hsz hby rfl (by decide) ⟨g,o,none⟩ Q.length cp (scells Q) (by rw [scells_len];omega) (fun j u hu=>by
     have hj:j<Q.length:=by have:=(List.getElem?_eq_some_iff.1 hu).1;rw [scells_len] at this;exact this
     rw [Addr.add_lit,cell_of_row _ _ _ _ _ _ h2,h6 j hj]
     rw [scells_get Q j _ (List.getElem?_eq_getElem hj)] at hu
     exact hu) ⟨A,0,none⟩ 1 1 [.string t] rfl hnews (by omega) (by unfold maxLen;omega) (by omega)
   refine ⟨v',W',h1,(HoldsQ.own (L:=Q ++ [t]) (base:=W.heap.size) ?_).lower hbase,⟨r2.os,r2.tape,r2.output,r2.size,fun k hk _=>r2.block k hk (by simp)⟩⟩
   rw [List.length_append,scells_append]
   exact r1
theorem step_append_q {ops:Array Oper} {o:Oper} {a:Act} {K:Act→World→Prop} {Q:Exit→Act→World→Prop} {E:Prop} (w:World) (hgd:o.guard=none) (s x:Operand)
  (ho:o.op=.call { callee:=.builtin .append,args:=#[s,x],argTypes:=#[23,23] }) (base:Nat) (v:Value) (L:List ByteArray) (t:ByteArray) (A:Nat) (hs:a.eval s=v) (hx:a.eval x=.slice (some ⟨A,0,none⟩) 1 1)
  (hq:HoldsQ w base v L) (hA:w.cell? ⟨A,0,none⟩=some (.string t)) (hL:L.length≤1000) (hbase:base≤w.heap.size)
  (h:∀ v' w',HoldsQ w' base v' (L ++ [t])→w.grownBy w' v.ownBlock→K (a.put o.dst v') w') :
  if Region.wanted o (yielded ops a.tmps)=true then Oper.wp Tryz.prog o a w K Q else E:=by
 have hw:Region.wanted o (yielded ops a.tmps)=true:=by simp [Region.wanted,hgd]
 rw [if_pos hw]
 obtain ⟨v',w',hr,h2,h3⟩:=run_append_q (W:=w) o.type hq hA hL hbase
 unfold Oper.wp execOp
 simp only [ho,resolve,invoke,builtin,Sem.run_bind,Sem.run_pure,Result.andThen_ok,List.map_toArray,List.map_cons,List.map_nil,hs,hx,hr]
 exact h v' w' h2 h3
theorem step_append_nb {ops:Array Oper} {o:Oper} {a:Act} {K:Act→World→Prop} {Q:Exit→Act→World→Prop} {E:Prop} (w:World) (hgd:o.guard=none) (s x:Operand)
  (ho:o.op=.call { callee:=.builtin .append,args:=#[s,x],argTypes:=#[77,77] }) (base:Nat) (v:Value) (F:List Nb) (n:Nat) (hn:F.length=n) (kd ns nr:Int) (tx:ByteArray) (A:Nat) (hs:a.eval s=v) (hx:a.eval x=.slice (some ⟨A,0,none⟩) 1 1)
  (hown:w.ownsRow base 96 4 v n (nbcells F)) (hA:w.heap[A]?=some (.cells #[.int .i64 kd,.int .i64 ns,.int .i64 nr,.string tx] 96)) (hlen:n≤1000) (hbase:base≤w.heap.size)
  (h:∀ v' w',w'.ownsRow base 96 4 v' (n+1) (nbcells (F ++ [⟨kd,ns,nr,tx⟩]))→w.grownBy w' v.ownBlock→K (a.put o.dst v') w') :
  if Region.wanted o (yielded ops a.tmps)=true then Oper.wp Tryz.prog o a w K Q else E:=by
 have hw:Region.wanted o (yielded ops a.tmps)=true:=by simp [Region.wanted,hgd]
 rw [if_pos hw]
 obtain ⟨i0,hi0,hz0,hz1,hz2⟩:=nbinfo
 obtain ⟨v',w',hr,h2,h3,_⟩:=run_append_own (P:=Tryz.prog) w base 77 o.type 96 i0 _ 4 40 Tryz.underlying77 hi0 hz0 hz1 hz2 rfl (by decide) v n (nbcells F) hown ⟨A,0,none⟩ 1 1 [.int .i64 kd,.int .i64 ns,.int .i64 nr,.string tx] rfl (fun j u hu=>by
   rw [Addr.add_lit,Nat.zero_add,cell_of_row _ _ _ _ _ _ hA,← hu]
   simp) (fun u hu=>by
   simp only [List.mem_cons,List.not_mem_nil,or_false] at hu
   rcases hu with rfl | rfl | rfl | rfl<;>rfl) (by unfold maxLen;omega) (by omega) hbase
 unfold Oper.wp execOp
 simp only [ho,resolve,invoke,builtin,Sem.run_bind,Sem.run_pure,Result.andThen_ok,List.map_toArray,List.map_cons,List.map_nil,hs,hx,hr]
 exact h v' w' (by rw [nbcells_append];exact h2) h3
section
variable {w0:World} {B M:Nat} {p:Lp} {S Q:List ByteArray} {F:List Nb} {G:List ByteArray} {vq vf vg:Value} {q q':World}
theorem Lw.putF (h:Lw w0 B M p S Q F G vq vf vg q) {vf':Value} {F':List Nb} (hg:q.grownBy q' vf.ownBlock) (ho:q'.ownsRow w0.heap.size 96 4 vf' F'.length (nbcells F')) :
  Lw w0 B M p S Q F' G vq vf' vg (q'.setCell ⟨B,7,none⟩ vf'):=by
 have nT:∀ (k:Nat) (o:Obj),q.heap[k]?=some o→(∀ cur,o≠.cells cur 96)→q'.heap[k]?=q.heap[k]?:=fun k o h1 h2=>by
  refine hg.block k (Array.getElem?_eq_some_iff.1 h1).1 (fun e=>?_)
  rcases h.of.2 with ⟨e1,_⟩ | ⟨g,cap,cur,e1,_,e3,_⟩
  ·rw [e1] at e;cases e
  ·rw [e1] at e
   have e':k=g:=Option.some.inj e
   rw [e',e3] at h1
   exact h2 cur (Option.some.inj h1).symm
 obtain ⟨es,c,hm1,hm2⟩:=h.mp
 have hB':=(nT B _ h.row (fun cur e=>by cases e)).trans h.row
 have hlo:Below w0.heap.size w0 q':=h.lo.grown hg h.lo.size (fun k hk=>(h.of.lt k hk).1)
 have hk:∀ k,k≠B→(q'.setCell ⟨B,7,none⟩ vf').heap[k]?=q'.heap[k]?:=fun k hk=>heap_setCell_other _ _ _ _ hk
 have nB:∀ g cur T,T≠104→q'.heap[g]?=some (.cells cur T)→g≠B:=fun g cur T hT h1 e=>by
  rw [e,hB'] at h1
  cases h1
  exact hT rfl
 have nM:M≠B:=fun e=>by
  rw [e,h.row] at hm1
  cases hm1
 have e1:HoldsQ q' w0.heap.size vq Q:=h.hq.other fun g cur _ h2=>nT g _ h2 (fun cur' e=>by cases e)
 have e2:q'.ownsRow w0.heap.size 9 1 vg G.length (scells G):=own_at h.og fun g cur _ h2=>nT g _ h2 (fun cur' e=>by cases e)
 exact ⟨heap_setCell_same _ _ 7 _ _ _ hB',⟨es,c,(hk M nM).trans ((nT M _ hm1 (fun cur e=>by cases e)).trans hm1),hm2⟩,e1.other fun g cur _ h2=>hk g (nB g cur _ (by decide) h2),own_at ho fun g cur _ h2=>hk g (nB g cur _ (by decide) h2),own_at e2 fun g cur _ h2=>hk g (nB g cur _ (by decide) h2),h.bB,h.bM,hlo.setCell (p:=⟨B,7,none⟩) h.bB _⟩
theorem Lw.putQ (h:Lw w0 B M p S Q F [] vq vf (.slice none 0 0) q) {vq':Value} {Q':List ByteArray} (hg:q.grownBy q' vq.ownBlock) (ho:HoldsQ q' w0.heap.size vq' Q') :
  Lw w0 B M p S Q' F [] vq' vf (.slice none 0 0) (q'.setCell ⟨B,4,none⟩ vq'):=by
 have nT:∀ (k:Nat) (o:Obj),q.heap[k]?=some o→(∀ cur,o≠.cells cur 9)→q'.heap[k]?=q.heap[k]?:=fun k o h1 h2=>by
  refine hg.block k (Array.getElem?_eq_some_iff.1 h1).1 (fun e=>?_)
  rcases h.hq with ⟨e1,_⟩ | ⟨g,o',cp,cur,e1,e3,_⟩
  ·rw [e1] at e;cases e
  ·rw [e1] at e
   have e':k=g:=Option.some.inj e
   rw [e',e3] at h1
   exact h2 cur (Option.some.inj h1).symm
 obtain ⟨es,c,hm1,hm2⟩:=h.mp
 have hB':=(nT B _ h.row (fun cur e=>by cases e)).trans h.row
 have hlo:Below w0.heap.size w0 q':=h.lo.grown hg h.lo.size (fun k hk=>by
  rcases h.hq with ⟨e1,_⟩ | ⟨g,o',cp,cur,e1,e3,e4,_⟩
  ·rw [e1] at hk;cases hk
  ·rw [e1] at hk
   have e':g=k:=Option.some.inj hk
   omega)
 have hk:∀ k,k≠B→(q'.setCell ⟨B,4,none⟩ vq').heap[k]?=q'.heap[k]?:=fun k hk=>heap_setCell_other _ _ _ _ hk
 have nB:∀ g cur T,T≠104→q'.heap[g]?=some (.cells cur T)→g≠B:=fun g cur T hT h1 e=>by
  rw [e,hB'] at h1
  cases h1
  exact hT rfl
 have nM:M≠B:=fun e=>by
  rw [e,h.row] at hm1
  cases hm1
 have e2:q'.ownsRow w0.heap.size 96 4 vf F.length (nbcells F):=own_at h.of fun g cur _ h2=>nT g _ h2 (fun cur' e=>by cases e)
 exact ⟨heap_setCell_same _ _ 4 _ _ _ hB',⟨es,c,(hk M nM).trans ((nT M _ hm1 (fun cur e=>by cases e)).trans hm1),hm2⟩,ho.other fun g cur _ h2=>hk g (nB g cur _ (by decide) h2),own_at e2 fun g cur _ h2=>hk g (nB g cur _ (by decide) h2),World.ownsRow_nil _ _ _ _,h.bB,h.bM,hlo.setCell (p:=⟨B,4,none⟩) h.bB _⟩
theorem Lw.putG (h:Lw w0 B M p S Q F [] vq vf (.slice none 0 0) q) {vg':Value} {G':List ByteArray} (hg:q.grownBy q' none) (ho:q'.ownsRow w0.heap.size 9 1 vg' G'.length (scells G')) :
  Lw w0 B M p S Q F G' vq vf vg' (q'.setCell ⟨B,8,none⟩ vg'):=by
 have hb:Below q.heap.size q q':=⟨hg.os,hg.tape,hg.output,hg.size,fun k hk=>hg.block k hk (by simp)⟩
 have h':=h.step hb
 refine h'.set (i:=8) (x:=vg') (p':=p) (vq':=vq) (vf':=vf) (vg':=vg') (Q':=Q) (F':=F) (G':=G') rfl rfl (fun _ k=>k) (fun k=>k) (fun _=>?_)
 refine own_at ho fun g cur _ h2=>heap_setCell_other _ _ _ _ (fun e=>?_)
 rw [e,h'.row] at h2
 cases h2
end
end Go.Proofs.YtkcghhkkepndnaaGreatDoor
