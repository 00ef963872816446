/- The program doubles the first sent frame of a line; what lay in memory stands but for the line and its row. Several texts, wherever their row lies, put behind others in a row: it stays where it is, or lies in a new block; what lay in memory stands but for the row that grows; no condition but those named. The model's LapbAgain; what lay in memory stands. -/
import Derived.Test.YtkcghhkkepndnaaGreatDoorS18
import Derived.Test.YtkcghhkkepndnaaGreatDoorS23
import Derived.Test.YtkcghhkkepndnaaGreatDoorS05
import Derived.Test.YtkcghhkkepndnaaGreatDoorS17
import Derived.Test.YtkcghhkkepndnaaGreatDoorShW
namespace Go.Proofs.YtkcghhkkepndnaaGreatDoor
open Go.RowKit
def dbl:List Sf→List Sf
 | []=>[]
 | p :: r=>if (p :: r).length<40 then p :: p :: r else p :: r
structure Dy (base:Nat) (T:TypeId) (W:World) (B k g o:Nat) (X Z:List Value) (v:Value) (p:Sf) (r:List Sf) (y:World):Prop where
 w:Wr base T y B X Z v (p :: r)
 fr:Fr B v v W y
 ek:X.length=k
 px:y.cell? ⟨g,o,none⟩=some (.string p.text)∧y.cell? ⟨g,o+1,none⟩=some (.string p.bytes)
 eg:v.ownBlock=some g
section
variable {base:Nat} {T:TypeId} {W:World} {B k g o:Nat} {X Z:List Value} {v v':Value} {p:Sf} {r:List Sf} {y y':World}
theorem Dy.cx (h:Dy base T W B k g o X Z v p r y):y.cell? ⟨B,k,none⟩=some v:=by rw [← h.ek];exact cell_blk h.w.row
theorem Dy.new (h:Dy base T W B k g o X Z v p r y):Dy base T W B k g o X Z v p r (y.alloc (.cells #[.string p.text,.string p.bytes] 82))∧(y.alloc (.cells #[.string p.text,.string p.bytes] 82)).heap[y.heap.size]?=some (.cells #[.string p.text,.string p.bytes] 82)∧v.ownBlock≠some y.heap.size:=by
 have hb:Below y.heap.size y (y.alloc (.cells #[.string p.text,.string p.bytes] 82)):=(Below.refl _ _).alloc (Nat.le_refl _) _
 have hg:=(h.w.ownB g h.eg).2.2.1
 refine ⟨⟨h.w.below hb,h.fr.trans (Fr.of_below hb),h.ek,⟨(hb.cell (p:=⟨g,o,none⟩) hg).trans h.px.1,(hb.cell (p:=⟨g,o+1,none⟩) hg).trans h.px.2⟩,h.eg⟩,heap_alloc_new _ _,fun e=>?_⟩
 rw [h.eg] at e
 injection e with e
 omega
theorem Dy.app (h:Dy base T W B k g o X Z v p r y) {L':List Sf} (h1:HoldsK y' base v' L') (h2:y.grownBy y' v.ownBlock) (h3:∀ g,v'.ownBlock=some g→v.ownBlock=some g∨y.heap.size≤g):Pz base T W B k X Z v v' L' y' :=
 ⟨(h2.block B h.w.lt (fun e=>(h.w.ownB B e.symm).1 rfl)).trans h.w.row,h1,h.fr.trans (Fr.grown h2 h3),h.ek,Nat.le_trans h.w.bs h2.size,h.w.nT⟩
end
set_option maxHeartbeats 4000000 in
set_option maxRecDepth 100000 in
theorem iDouble {base:Nat} {T:TypeId} {W:World} {B:Nat} {X Z:List Value} {v:Value} {L:List Sf} (h:Wr base T W B X Z v L) :
  Calls Tryz.prog 43 #[.pointer (some ⟨B,X.length,none⟩)] W fun e W'=>e=.returned (.tuple #[])∧∃ v',Wr base T W' B X Z v' (dbl L)∧Fr B v v' W W':=by
 have hc:=cell_blk h.row
 have hle:=h.le
 by_cases hd:0<L.length∧L.length<40
 ·match L,h,hd with
  | p :: r,h,hd =>
   rw [show dbl (p :: r)=p :: p :: r from if_pos hd.2]
   rw [List.length_cons] at hle
   have hl:r.length<39:=by have:=hd.2;simp at this;omega
   have hL9:(p :: p :: r).length≤40:=by simp;omega
   obtain ⟨g,o,cp,cur,hv,q1,q2,q3⟩:=h.hk.fst
   have HY:Hid (Dy base T W B X.length g o X Z v p r W.drew):=hide ⟨h.below (Below.refl _ _).drew,Fr.of_below (Below.refl _ _).drew,rfl,⟨by rw [cr (w:=W.drew) q1];exact q2,by rw [cr (w:=W.drew) q1];exact q3⟩,by rw [hv];rfl⟩
   subst hv
   clear q1 q2 q3 h hd
   generalize hk:X.length=k at *
   generalize hn:r.length=n at *
   have n1:(0:Int)<(n:Int)+1:=by omega
   have n2:(n:Int)+1<40:=by omega
   go_enter Tryz.func43,Tryz.ntmps43
   go_upto_region 1 with fail
   refine wp_region_held_drew (S:=fun _=>True) (by kernel_rfl) trivial (fun hHeld=>?_)
   clear hc
   rw [← hn] at hl
   generalize W.drew=yy at HY ⊢
   refine t2 0 ?_
   refine t2 1 ?_
   refine t2 2 ?_
   refine t2 3 ?_
   refine t2 5 ?_
   refine t2 6 ?_
   refine t2 7 ?_
   refine wpAnyH_ready (rs:=[4,8]) (by kernel_rfl) (by simp) (AllReadyH.cons rfl (fun K hK=>?_) (AllReadyH.cons rfl (fun K hK=>?_) (AllReadyH.nil)))
   ·have cx:=(uh HY).cx
    go_simp
    refine ro hK trivial fun _=>?_
    clear hK K
    clear cx
    refine r1 8 rfl (fun K hK=>?_)
    have cx:=(uh HY).cx
    go_simp
    refine ro hK trivial fun _=>?_
    clear hK K
    clear cx
    refine t2 9 ?_
    refine r1 10 rfl (fun K hK=>?_)
    obtain ⟨x0,x1⟩:=(uh HY).px
    go_simp
    refine ro hK trivial fun _=>?_
    clear hK K
    clear x0 x1
    refine r1 11 rfl (fun K hK=>?_)
    have H6:=hide ((uh HY).new)
    go_simp
    refine ro hK trivial fun _=>?_
    clear hK K
    generalize yy.heap.size=N6 at H6 ⊢
    generalize yy.alloc (.cells #[.string p.text,.string p.bytes] 82)=y6 at H6 ⊢
    clear HY
    have H6a:=hide (uh H6).1
    refine r1 12 rfl (fun K hK=>?_)
    go_simp
    refine (iInsert (uh H6).1.w.hk hl (uh H6).1.w.bs (uh H6).2.1 (uh H6).2.2).mono ?_
    rintro e y7 ⟨v7,rfl,g1,g2,g3⟩
    obtain ⟨a7,c7,e7⟩:=g1.form
    obtain ⟨n7,e9⟩:∃ n7,(p :: p :: r).length=n7:=⟨_,rfl⟩
    rw [e9] at e7
    clear e9
    subst e7
    have H7:=hide ((uh H6).1.app g1 g2 g3)
    clear g1 g2 g3 H6
    refine ro hK trivial fun _=>?_
    clear hK K
    refine t2 13 ?_
    refine t2 14 ?_
    refine r1 15 rfl (fun K hK=>?_)
    have cx:=(uh H7).cx
    have fx:=(uh H7).fx
    go_simp
    refine ro hK trivial fun _=>?_
    clear hK K
    refine dn ?_ _
    go_wp2
    refine bodyPost_end (results_none rfl _ _ _) rfl ?_
    rw [← hk]
    exact ⟨rfl,_,(uh H7).fin hL9⟩
   ·have cx:=(uh HY).cx
    go_simp
    refine ro hK trivial fun _=>?_
    clear hK K
    clear cx
    refine t2 9 ?_
    refine wpAnyH_ready (rs:=[4,10]) (by kernel_rfl) (by simp) (AllReadyH.cons rfl (fun K hK=>?_) (AllReadyH.cons rfl (fun K hK=>?_) (AllReadyH.nil)))
    ·have cx:=(uh HY).cx
     go_simp
     refine ro hK trivial fun _=>?_
     clear hK K
     clear cx
     refine r1 10 rfl (fun K hK=>?_)
     obtain ⟨x0,x1⟩:=(uh HY).px
     go_simp
     refine ro hK trivial fun _=>?_
     clear hK K
     clear x0 x1
     refine r1 11 rfl (fun K hK=>?_)
     have H6:=hide ((uh HY).new)
     go_simp
     refine ro hK trivial fun _=>?_
     clear hK K
     generalize yy.heap.size=N6 at H6 ⊢
     generalize yy.alloc (.cells #[.string p.text,.string p.bytes] 82)=y6 at H6 ⊢
     clear HY
     have H6a:=hide (uh H6).1
     refine r1 12 rfl (fun K hK=>?_)
     go_simp
     refine (iInsert (uh H6).1.w.hk hl (uh H6).1.w.bs (uh H6).2.1 (uh H6).2.2).mono ?_
     rintro e y7 ⟨v7,rfl,g1,g2,g3⟩
     obtain ⟨a7,c7,e7⟩:=g1.form
     obtain ⟨n7,e9⟩:∃ n7,(p :: p :: r).length=n7:=⟨_,rfl⟩
     rw [e9] at e7
     clear e9
     subst e7
     have H7:=hide ((uh H6).1.app g1 g2 g3)
     clear g1 g2 g3 H6
     refine ro hK trivial fun _=>?_
     clear hK K
     refine t2 13 ?_
     refine t2 14 ?_
     refine r1 15 rfl (fun K hK=>?_)
     have cx:=(uh H7).cx
     have fx:=(uh H7).fx
     go_simp
     refine ro hK trivial fun _=>?_
     clear hK K
     refine dn ?_ _
     go_wp2
     refine bodyPost_end (results_none rfl _ _ _) rfl ?_
     rw [← hk]
     exact ⟨rfl,_,(uh H7).fin hL9⟩
    ·obtain ⟨x0,x1⟩:=(uh HY).px
     go_simp
     refine ro hK trivial fun _=>?_
     clear hK K
     clear x0 x1
     refine wpAnyH_ready (rs:=[4,11]) (by kernel_rfl) (by simp) (AllReadyH.cons rfl (fun K hK=>?_) (AllReadyH.cons rfl (fun K hK=>?_) (AllReadyH.nil)))
     ·have cx:=(uh HY).cx
      go_simp
      refine ro hK trivial fun _=>?_
      clear hK K
      clear cx
      refine r1 11 rfl (fun K hK=>?_)
      have H6:=hide ((uh HY).new)
      go_simp
      refine ro hK trivial fun _=>?_
      clear hK K
      generalize yy.heap.size=N6 at H6 ⊢
      generalize yy.alloc (.cells #[.string p.text,.string p.bytes] 82)=y6 at H6 ⊢
      clear HY
      have H6a:=hide (uh H6).1
      refine r1 12 rfl (fun K hK=>?_)
      go_simp
      refine (iInsert (uh H6).1.w.hk hl (uh H6).1.w.bs (uh H6).2.1 (uh H6).2.2).mono ?_
      rintro e y7 ⟨v7,rfl,g1,g2,g3⟩
      obtain ⟨a7,c7,e7⟩:=g1.form
      obtain ⟨n7,e9⟩:∃ n7,(p :: p :: r).length=n7:=⟨_,rfl⟩
      rw [e9] at e7
      clear e9
      subst e7
      have H7:=hide ((uh H6).1.app g1 g2 g3)
      clear g1 g2 g3 H6
      refine ro hK trivial fun _=>?_
      clear hK K
      refine t2 13 ?_
      refine t2 14 ?_
      refine r1 15 rfl (fun K hK=>?_)
      have cx:=(uh H7).cx
      have fx:=(uh H7).fx
      go_simp
      refine ro hK trivial fun _=>?_
      clear hK K
      refine dn ?_ _
      go_wp2
      refine bodyPost_end (results_none rfl _ _ _) rfl ?_
      rw [← hk]
      exact ⟨rfl,_,(uh H7).fin hL9⟩
     ·have H6:=hide ((uh HY).new)
      go_simp
      refine ro hK trivial fun _=>?_
      clear hK K
      generalize yy.heap.size=N6 at H6 ⊢
      generalize yy.alloc (.cells #[.string p.text,.string p.bytes] 82)=y6 at H6 ⊢
      clear HY
      have H6a:=hide (uh H6).1
      refine r1 4 rfl (fun K hK=>?_)
      have cx:=(uh H6a).cx
      go_simp
      refine ro hK trivial fun _=>?_
      clear hK K
      clear cx
      refine r1 12 rfl (fun K hK=>?_)
      go_simp
      refine (iInsert (uh H6).1.w.hk hl (uh H6).1.w.bs (uh H6).2.1 (uh H6).2.2).mono ?_
      rintro e y7 ⟨v7,rfl,g1,g2,g3⟩
      obtain ⟨a7,c7,e7⟩:=g1.form
      obtain ⟨n7,e9⟩:∃ n7,(p :: p :: r).length=n7:=⟨_,rfl⟩
      rw [e9] at e7
      clear e9
      subst e7
      have H7:=hide ((uh H6).1.app g1 g2 g3)
      clear g1 g2 g3 H6
      refine ro hK trivial fun _=>?_
      clear hK K
      refine t2 13 ?_
      refine t2 14 ?_
      refine r1 15 rfl (fun K hK=>?_)
      have cx:=(uh H7).cx
      have fx:=(uh H7).fx
      go_simp
      refine ro hK trivial fun _=>?_
      clear hK K
      refine dn ?_ _
      go_wp2
      refine bodyPost_end (results_none rfl _ _ _) rfl ?_
      rw [← hk]
      exact ⟨rfl,_,(uh H7).fin hL9⟩
 ·have hdl:dbl L=L:=by
   unfold dbl
   split
   ·rfl
   ·rw [if_neg (fun h2=>hd ⟨by simp,h2⟩)]
  rw [hdl]
  obtain ⟨ad,cp,hv⟩:=h.hk.form
  have HW:=hide h
  subst hv
  clear h hdl
  generalize X.length=k at *
  generalize L.length=n at *
  by_cases h0:n=0
  ·subst h0
   go_enter Tryz.func43,Tryz.ntmps43
   go_wp2
   refine bodyPost_end (results_none rfl _ _ _) rfl ?_
   exact ⟨rfl,_,uh HW,Fr.refl _ _ _⟩
  ·have h40:n=40:=by omega
   subst h40
   go_enter Tryz.func43,Tryz.ntmps43
   go_wp2
   refine bodyPost_end (results_none rfl _ _ _) rfl ?_
   exact ⟨rfl,_,uh HW,Fr.refl _ _ _⟩
end Go.Proofs.YtkcghhkkepndnaaGreatDoor
namespace Go.Proofs.YtkcghhkkepndnaaGreatDoor
open Go.RowKit
theorem holdsS_news {W:World} {g o:Nat} {cur:Array Value} {F:List ByteArray} (h3:W.heap[g]?=some (.cells cur 9)) (h7:∀ j (hj:j<F.length),cur[o+j]?=some (.string F[j])):∀ j u,(scells F)[j]?=some u→W.cell? ((⟨g,o,none⟩:Addr).add j)=some u:=fun j u hu=>by
 have hj:=(List.getElem?_eq_some_iff.1 hu).1
 rw [scells_len] at hj
 rw [Addr.add_lit,cell_of_row _ _ _ _ _ _ h3,h7 j hj,← hu]
 exact (scells_get F j _ (List.getElem?_eq_getElem hj)).symm
theorem run_append_ha {W:World} {base:Nat} {v s:Value} {G F:List ByteArray} (ty:TypeId) (hown:W.ownsRow base 9 1 v G.length (scells G)) (hs:HoldsS W s F) (hG:G.length≤1048576) (hF:F.length≤1048576) (hbase:base≤W.heap.size) :
  ∃ v' W',(Builtin.append_ #[23,23] ty #[v,s]).run Tryz.prog W=.ok v' W'∧W'.ownsRow base 9 1 v' (G ++ F).length (scells (G ++ F))∧W.grownBy W' v.ownBlock:=by
 obtain ⟨i,hi,hz,hsz,hby⟩:=sinfo
 rcases hs with ⟨ad,cs,rfl,rfl⟩ | ⟨g,o,cap,cur,rfl,h3,h7⟩
 ·refine ⟨v,W,?_,by rw [List.append_nil];exact hown,⟨rfl,rfl,rfl,Nat.le_refl _,fun _ _ _=>rfl⟩⟩
  rcases hown.2 with ⟨rfl,_⟩ | ⟨g,cap,cur,rfl,_,_,hnc,_⟩
  ·cases ad<;>simp [Builtin.append_,run_underlying Tryz.underlying23,sizeOf,typeInfo,hi,Builtin.lenOf,Builtin.firstCells,loadCells,loadCellsFrom]
  ·cases ad<;>simp [Builtin.append_,run_underlying Tryz.underlying23,sizeOf,typeInfo,hi,Builtin.lenOf,Builtin.firstCells,loadCells,loadCellsFrom,hnc,storeCells]
 ·obtain ⟨v',W',h1,h2,h4,_⟩:=run_append_own (P:=Tryz.prog) W base 23 ty 9 i _ 1 16 Tryz.underlying23 hi hz hsz hby rfl (by decide) v G.length (scells G) hown ⟨g,o,none⟩ F.length cap (scells F) (by rw [scells_len];omega) (holdsS_news h3 h7) (scells_one7 F) (by unfold maxLen;omega) (by omega) hbase
  exact ⟨v',W',h1,by rw [List.length_append,scells_append];exact h2,h4⟩
theorem run_append_hb {W:World} {base:Nat} {v s:Value} {G F:List ByteArray} (ty:TypeId) (hown:W.ownsRow base 9 1 v G.length (scells G)) (hs:HoldsS W s F) (hG:G.length≤1048576) (hF:F.length≤1048576) (hbase:base≤W.heap.size) :
  ∃ v' W',(Builtin.append_ #[23,23] ty #[v,s]).run Tryz.prog W=.ok v' W'∧W'.ownsRow base 9 1 v' (G ++ F).length (scells (G ++ F))∧W.grownBy W' v.ownBlock∧∀ m,v'.ownBlock=some m→v.ownBlock=some m∨W.heap.size≤m:=by
 obtain ⟨i,hi,hz,hsz,hby⟩:=sinfo
 obtain ⟨v',W',h1,h2,h3⟩:=run_append_ha (W:=W) ty hown hs hG hF hbase
 refine ⟨v',W',h1,h2,h3,fun m hm=>?_⟩
 rcases hown.2 with ⟨e,e0⟩ | ⟨g,cap,cur,e,_,hc,hnc,hcm,hcs,htk⟩
 ·
  subst e
  obtain ⟨v2,W2,k1,k2,_⟩:=run_append_ha (W:=W) (base:=W.heap.size) (G:=[]) ty (World.ownsRow_nil _ _ _ _) hs (by simp) hF (Nat.le_refl _)
  rw [h1] at k1
  injection k1 with k1 _
  subst k1
  exact Or.inr (World.ownsRow.lt k2 m hm).1
 ·subst e
  rcases hs with ⟨ad,cs,es,ef⟩ | ⟨g2,o2,cap2,cur2,es,s3,s7⟩
  ·subst es ef
   have hrun:(Builtin.append_ #[23,23] ty #[.slice (some ⟨g,0,none⟩) G.length cap,.slice ad 0 cs]).run Tryz.prog W=.ok (.slice (some ⟨g,0,none⟩) G.length cap) W:=by
    cases ad<;>simp [Builtin.append_,run_underlying Tryz.underlying23,sizeOf,typeInfo,hi,Builtin.lenOf,Builtin.firstCells,loadCells,loadCellsFrom,hnc,storeCells]
   rw [h1] at hrun
   injection hrun with hrun _
   subst hrun
   exact Or.inl hm
  ·subst es
   have hnews:=holdsS_news s3 s7
   have holds:∀ j u,(scells G)[j]?=some u→W.cell? ((⟨g,0,none⟩:Addr).add j)=some u:=fun j u hu=>by
    rw [Addr.add_lit,Nat.zero_add,cell_of_row _ _ _ _ _ _ hc,← hu,← htk,List.getElem?_take,Array.getElem?_toList]
    have hj:=(List.getElem?_eq_some_iff.1 hu).1
    rw [scells_len] at hj
    rw [if_pos (by omega)]
   by_cases hr:G.length+F.length≤cap
   ·have hcell:∀ j,j<(scells F).length→(W.cell? ⟨g,0+G.length*i.size+j,none⟩).isSome=true∧W.frozen? ⟨g,0+G.length*i.size+j,none⟩=false:=by
     intro j hj
     rw [scells_len] at hj
     have hlt:0+G.length*1+j<cur.size:=by omega
     rw [hsz,cell_of_row _ _ _ _ _ _ hc,Array.getElem?_eq_getElem hlt]
     exact ⟨rfl,frz hc _⟩
    have hrun:=run_append_room_cells (P:=Tryz.prog) W 23 ty 9 i Tryz.underlying23 hi g 0 G.length cap ⟨g2,o2,none⟩ F.length cap2 (scells F) (by rw [hsz,scells_len];omega) hnews (scells_one7 F) hr (fun j hj=>(hcell j hj).1) (fun j hj=>(hcell j hj).2)
    rw [h1] at hrun
    injection hrun with hrun _
    subst hrun
    exact Or.inl hm
   ·obtain ⟨v2,W2,k1,r1,r2⟩:=run_append_arg_grows (P:=Tryz.prog) W 23 ty 9 i _ 1 16 Tryz.underlying23 hi hz hsz hby rfl (by decide) ⟨g,0,none⟩ G.length cap (scells G) (by rw [scells_len];omega) holds ⟨g2,o2,none⟩ F.length cap2 (scells F) (by rw [scells_len];omega) hnews (by omega) (by unfold maxLen;omega) (by omega)
    rw [h1] at k1
    injection k1 with k1 _
    subst k1
    exact Or.inr (World.ownsRow.lt r1 m hm).1
end Go.Proofs.YtkcghhkkepndnaaGreatDoor
namespace Go.Proofs.YtkcghhkkepndnaaGreatDoor
open Go.RowKit
theorem AnsW.put {w q:World} {o:LO} {v vf vg:Value} {R:Nat} {cs:Array Value}
  (h1:HoldsR q v o.Q) (h2:HoldsN q vf o.sn) (h3:HoldsS q vg o.gt) (l1:∀ g,v.ownBlock=some g→w.heap.size≤g) (l2:∀ g,vf.ownBlock=some g→w.heap.size≤g) (l3:∀ g,vg.ownBlock=some g→w.heap.size≤g)
  (hb:Below w.heap.size w q) (hR:q.heap[R]?=some (.cells cs 79)) (hRw:w.heap.size≤R) (x0 x1 x2 x3 x4 x5 x6 x7 x8:Value) :
  AnsW w o (.returned (.agg (loC o.p v vf vg o.cd))) (((((((((q.setCell ⟨R,0,none⟩ x0).setCell ⟨R,1,none⟩ x1).setCell ⟨R,2,none⟩ x2).setCell ⟨R,3,none⟩ x3).setCell ⟨R,4,none⟩ x4).setCell ⟨R,5,none⟩ x5).setCell ⟨R,6,none⟩ x6).setCell ⟨R,7,none⟩ x7).setCell ⟨R,8,none⟩ x8):=by
 refine ⟨v,vf,vg,rfl,h1.other (fun g cur _ e=>set9_ot ?_ _ _ _ _ _ _ _ _ _),h2.other (fun g cur _ e=>set9_ot ?_ _ _ _ _ _ _ _ _ _),h3.other (fun g cur _ e=>set9_ot ?_ _ _ _ _ _ _ _ _ _),l1,l2,l3,set9_bl hb hRw _ _ _ _ _ _ _ _ _⟩
 all_goals
  intro e0
  rw [e0,hR] at e
  cases e
set_option maxHeartbeats 8000000 in
theorem sAgain (p:Lp) (x:Option Addr) (y:Nat) (L:List ByteArray) (w:World) (hl:L.length≤1048576) (h:HoldsS w (.slice x L.length y) L) :
  Calls Tryz.prog 54 #[.agg (lpC p (.slice x L.length y))] w fun e q=>AnsW w (againF p L) e q:=by
 have C1:=hide fun W (hb:Below w.heap.size w W)=>sLpRight p x y L W hl (h.below hb)
 have C2:=hide fun W (hb:Below w.heap.size w W)=>sCopyL p x y L W hl (h.below hb)
 obtain ⟨hN0,hN1,hbW,hsW⟩:=new2l w (.cells (lpC p (.slice x L.length y)) 54) (.cells #[.int .i64 0,.int .i64 0,.int .i64 0,.int .i64 0,.slice none 0 0,.bool false,.slice none 0 0,.slice none 0 0,.int .i64 0] 79)
 unfold againF
 clear h
 cases hk:lpOk p L
 ·rw [if_neg (by decide)]
  rw [hk] at C1
  obtain ⟨wi,vs,va,vr,ak⟩:=p
  unfold lpC at hN0 hN1 hbW hsW C1 ⊢
  dsimp only at *
  have H0:=hide (And.intro hN1 hbW)
  clear hN0 hN1 hbW hsW hk C2
  generalize L.length=n at *
  go_enter Tryz.func54,Tryz.ntmps54
  go_wp2_with fail
  refine (uh C1 _ (uh H0).2).mono ?_
  rintro e w1 ⟨rfl,hb1⟩
  have k0:=(hb1.block (w.heap.size+1) (Array.getElem?_eq_some_iff.1 (uh H0).1).1).trans (uh H0).1
  have hB1:=(uh H0).2.trans (hb1.mono (uh H0).2.size)
  obtain ⟨r0,r1,r2,r3,r4,r5,r6,r7,r8⟩:=row9l k0
  obtain ⟨f0,f1,f2,f3,f4,f5,f6,f7,f8⟩:=frz9l k0
  have HX:=hide (And.intro k0 hB1)
  clear k0 hB1 hb1 H0 C1
  go_wp2
  obtain ⟨k0,hB1⟩:=uh HX
  refine bodyPost_ret (v:=.agg (loC lpZero (.slice none 0 0) (.slice none 0 0) (.slice none 0 0) 1)) (by simp [results,Tryz.results54,asAddr,loC,lpZero,loadLo (set9_lo k0 _ _ _ _ _ _ _ _ _)]) rfl ?_
  exact AnsW.put (o:=loErr 1) (holdsR_nil _) (holdsN_nil _ _ _) (holdsS_nil _ _ _) (fun g hg=>by cases hg) (fun g hg=>by cases hg) (fun g hg=>by cases hg) hB1 k0 (by omega) _ _ _ _ _ _ _ _ _
 ·rw [if_pos rfl]
  rw [hk] at C1
  obtain ⟨wi,vs,va,vr,ak⟩:=p
  unfold lpC at hN0 hN1 hbW hsW C1 C2 ⊢
  dsimp only at *
  have H0:=hide (And.intro hN0 (And.intro hN1 (And.intro hbW hsW)))
  clear hN0 hN1 hbW hsW hk
  generalize hn:L.length=n at *
  go_enter Tryz.func54,Tryz.ntmps54
  go_wp2_with fail
  refine (uh C1 _ (uh H0).2.2.1).mono ?_
  rintro e w1 ⟨rfl,hb1⟩
  have k0:=(hb1.block w.heap.size (Array.getElem?_eq_some_iff.1 (uh H0).1).1).trans (uh H0).1
  have k1:=(hb1.block (w.heap.size+1) (Array.getElem?_eq_some_iff.1 (uh H0).2.1).1).trans (uh H0).2.1
  have hbW:=(uh H0).2.2.1.trans (hb1.mono (uh H0).2.2.1.size)
  obtain ⟨a0,a1,a2,a3,a4,a5⟩:=row6l k0
  have H1:=hide (And.intro k0 (And.intro k1 hbW))
  clear k0 k1 hbW hb1 H0 C1
  go_wp2_with fail
  refine (uh C2 _ (uh H1).2.2).mono ?_
  rintro e w2 ⟨ua,uc,rfl,ho,hb2⟩
  have k0:=(hb2.block w.heap.size (Array.getElem?_eq_some_iff.1 (uh H1).1).1).trans (uh H1).1
  have k1:=(hb2.block (w.heap.size+1) (Array.getElem?_eq_some_iff.1 (uh H1).2.1).1).trans (uh H1).2.1
  have hbW:=(uh H1).2.2.trans (hb2.mono (uh H1).2.2.size)
  have hl0:w.heap.size<w2.heap.size:=(Array.getElem?_eq_some_iff.1 k0).1
  have hl1:w.heap.size+1<w2.heap.size:=(Array.getElem?_eq_some_iff.1 k1).1
  have hlo:∀ g,(Value.slice ua n uc).ownBlock=some g→w.heap.size≤g:=fun g hg=>by have:=(ho.lt g hg).1;have:=(uh H1).2.2.size;omega
  have hS:HoldsR w2 (.slice ua n uc) L:=by
   have:=HoldsR.own (L:=L) (by rw [hn];exact ho)
   exact this
  clear a0 a1 a2 a3 a4 a5
  obtain ⟨a0,a1,a2,a3,a4,a5⟩:=row6l k0
  obtain ⟨r0,r1,r2,r3,r4,r5,r6,r7,r8⟩:=row9l k1
  obtain ⟨f0,f1,f2,f3,f4,f5,f6,f7,f8⟩:=frz9l k1
  have n1:¬ (w.heap.size=w2.heap.size):=by omega
  have n2:¬ (w.heap.size+1=w2.heap.size):=by omega
  have n3:¬ (w2.heap.size=w.heap.size):=by omega
  have n4:¬ (w2.heap.size=w.heap.size+1):=by omega
  have kN:=heap_alloc_new w2 (.cells #[.int .i64 wi,.int .i64 vs,.int .i64 va,.int .i64 vr,.slice ua n uc,.bool ak] 54)
  have hbN:Below w2.heap.size w2 (w2.alloc (.cells #[.int .i64 wi,.int .i64 vs,.int .i64 va,.int .i64 vr,.slice ua n uc,.bool ak] 54)):=(Below.refl _ _).alloc (Nat.le_refl _) _
  have HX:=hide (And.intro hlo (And.intro (hS.below hbN) (And.intro ((hbN.block _ hl1).trans k1) (And.intro (hbW.trans (hbN.mono hbW.size)) (And.intro kN ((hbN.block _ hl0).trans k0))))))
  clear k0 k1 hbW ho hb2 H1 C2 hS hlo kN hbN
  go_upto_region 4 with fail
  refine gen_world (fun q=>HoldsR q (.slice ua n uc) L∧q.heap[w.heap.size+1]?=some (.cells #[.int .i64 0,.int .i64 0,.int .i64 0,.int .i64 0,.slice none 0 0,.bool false,.slice none 0 0,.slice none 0 0,.int .i64 0] 79)∧Below w.heap.size w q∧q.heap[w2.heap.size]?=some (.cells #[.int .i64 wi,.int .i64 vs,.int .i64 va,.int .i64 vr,.slice ua n uc,.bool ak] 54)∧q.heap[w.heap.size]?=some (.cells #[.int .i64 wi,.int .i64 vs,.int .i64 va,.int .i64 vr,.slice x n y,.bool ak] 54)) (uh HX).2 ?_
  clear a0 a1 a2 a3 a4 a5 r0 r1 r2 r3 r4 r5 r6 r7 r8 f0 f1 f2 f3 f4 f5 f6 f7 f8
  rintro q ⟨q1,q2,q3,q4,q5⟩
  obtain ⟨a0,a1,a2,a3,a4,a5⟩:=row6l q5
  obtain ⟨c0,c1,c2,c3,c4,c5⟩:=row6l q4
  have p1:=frz q4 1
  have HY:=hide (And.intro (uh HX).1 (And.intro (q1.other (w':=q.setCell ⟨w2.heap.size,1,none⟩ (.int .i64 va)) (fun g cur _ e=>heap_setCell_other _ _ _ _ (fun e0=>by rw [e0] at e;have e:=e.symm.trans q4;cases e))) (And.intro ((heap_setCell_other q ⟨w2.heap.size,1,none⟩ (w.heap.size+1) (.int .i64 va) n2).trans q2) (And.intro (q3.setCell (p:=⟨w2.heap.size,1,none⟩) (Nat.le_of_lt hl0) (.int .i64 va)) (heap_setCell_same _ _ 1 _ _ (.int .i64 va) q4)))))
  clear q1 q2 q3 q4 q5 HX
  go_upto_region 5 with fail
  refine gen_world (fun q=>HoldsR q (.slice ua n uc) L∧q.heap[w.heap.size+1]?=some (.cells #[.int .i64 0,.int .i64 0,.int .i64 0,.int .i64 0,.slice none 0 0,.bool false,.slice none 0 0,.slice none 0 0,.int .i64 0] 79)∧Below w.heap.size w q∧q.heap[w2.heap.size]?=some (.cells #[.int .i64 wi,.int .i64 va,.int .i64 va,.int .i64 vr,.slice ua n uc,.bool ak] 54)) (uh HY).2 ?_
  clear a0 a1 a2 a3 a4 a5 c0 c1 c2 c3 c4 c5 p1
  rintro q' ⟨q1,q2,q3,q4⟩
  obtain ⟨c0,c1,c2,c3,c4,c5⟩:=row6l q4
  obtain ⟨r0,r1,r2,r3,r4,r5,r6,r7,r8⟩:=row9l q2
  obtain ⟨f0,f1,f2,f3,f4,f5,f6,f7,f8⟩:=frz9l q2
  have HZ:=hide (And.intro (uh HY).1 (And.intro q1 (And.intro q2 q3)))
  clear q1 q2 q3 q4 HY
  go_wp2_with fail
  obtain ⟨hlo,q1,q2,q3⟩:=uh HZ
  refine bodyPost_ret (v:=.agg (loC ⟨wi,va,va,vr,ak⟩ (.slice ua n uc) (.slice none 0 0) (.slice none 0 0) 0)) (by simp [results,Tryz.results54,asAddr,loC,loadLo (set9_lo q2 _ _ _ _ _ _ _ _ _)]) rfl ?_
  exact AnsW.put (o:=⟨⟨wi,va,va,vr,ak⟩,L,[],[],0⟩) q1 (holdsN_nil _ _ _) (holdsS_nil _ _ _) hlo (fun g hg=>by cases hg) (fun g hg=>by cases hg) q3 q2 (by omega) _ _ _ _ _ _ _ _ _
end Go.Proofs.YtkcghhkkepndnaaGreatDoor
