/- MtD -/
import Derived.Test.YtjdgiimfpkideaaGreatDoorS20
import Derived.Test.YtjdgiimfpkideaaGreatDoorS39
set_option maxHeartbeats 4000000
set_option maxRecDepth 100000
namespace Go.Proofs.YtjdgiimfpkideaaGreatDoor
open Go.RowKit Go.Proofs.Tryz
structure Dy (base:Nat) (T:TypeId) (W:World) (B k g o:Nat) (X Z:List Value) (v:Value) (p:Op.Pk) (r:List Op.Pk) (y:World):Prop where
 w:Wr base T y B X Z v (p :: r)
 fr:Fr B v v W y
 ek:X.length=k
 px:y.cell? ⟨g,o,none⟩=some (.int .i64 p.code)∧y.cell? ⟨g,o+1,none⟩=some (.int .i64 p.id)∧y.cell? ⟨g,o+2,none⟩=some (.string p.data)
 eg:v.ownBlock=some g
section
variable {base:Nat} {T:TypeId} {W:World} {B k g o:Nat} {X Z:List Value} {v v':Value} {p:Op.Pk} {r:List Op.Pk} {y y':World}
theorem Dy.cx (h:Dy base T W B k g o X Z v p r y):y.cell? ⟨B,k,none⟩=some v:=by rw [← h.ek];exact bI h.w.row
theorem Dy.new (h:Dy base T W B k g o X Z v p r y):Dy base T W B k g o X Z v p r (y.alloc (.cells #[.int .i64 p.code,.int .i64 p.id,.string p.data] 85))∧(y.alloc (.cells #[.int .i64 p.code,.int .i64 p.id,.string p.data] 85)).heap[y.heap.size]?=some (.cells #[.int .i64 p.code,.int .i64 p.id,.string p.data] 85)∧v.ownBlock≠some y.heap.size:=by
 have hb:Below y.heap.size y (y.alloc (.cells #[.int .i64 p.code,.int .i64 p.id,.string p.data] 85)):=(zC _ _).alloc (zD _) _;have hg:=(h.w.ownB g h.eg).2.2.1;refine ⟨⟨h.w.below hb,h.fr.trans (Fr.of_below hb),h.ek,⟨(hb.cell (p:=⟨g,o,none⟩) hg).trans h.px.1,(hb.cell (p:=⟨g,o+1,none⟩) hg).trans h.px.2.1,(hb.cell (p:=⟨g,o+2,none⟩) hg).trans h.px.2.2⟩,h.eg⟩,zF _ _,fun e=>?_⟩;rw [h.eg] at e;injection e with e;omega
theorem Dy.app (h:Dy base T W B k g o X Z v p r y) {L':List Op.Pk} (h1:HoldsK y' base v' L') (h2:y.grownBy y' v.ownBlock) (h3:∀ g,v'.ownBlock=some g→v.ownBlock=some g∨y.heap.size≤g):Pz base T W B k X Z v v' L' y' :=
 ⟨(h2.block B h.w.lt (fun e=>(h.w.ownB B e.symm).1 rfl)).trans h.w.row,h1,h.fr.trans (Fr.grown h2 h3),h.ek,zE h.w.bs h2.size,h.w.nT⟩
end
theorem ol {base:Nat} {T:TypeId} {W:World} {B:Nat} {X Z:List Value} {v:Value} {L:List Op.Pk} (h:Wr base T W B X Z v L) :
  Calls prog 42 #[.pointer (some ⟨B,X.length,none⟩)] W fun e W'=>e=.returned (.tuple #[])∧∃ v',Wr base T W' B X Z v' (ml L)∧Fr B v v' W W':=by
 have hc:=bI h.row;have hle:=h.le;by_cases hd:0<L.length∧L.length<40
 ·match L,h,hd with
  | p :: r,h,hd =>
   rw [show ml (p :: r)=p :: p :: r from if_pos hd.2];rw [List.length_cons] at hle;have hl:r.length<39:=by have:=hd.2;simp at this;omega
   have hL9:(p :: p :: r).length≤40:=by simp;omega
   obtain ⟨g,o,cp,cur,hv,q1,q2,q3,q4⟩:=h.hk.fst;have HY:Hid (Dy base T W B X.length g o X Z v p r W.drew):=aa ⟨h.below (zC _ _).drew,Fr.of_below (zC _ _).drew,rfl,⟨by rw [cr (w:=W.drew) q1];exact q2,by rw [cr (w:=W.drew) q1];exact q3,by rw [cr (w:=W.drew) q1];exact q4⟩,by rw [hv];rfl⟩;subst hv;clear q1 q2 q3 q4 h hd;generalize hk:X.length=k at *;generalize hn:r.length=n at *;have n1:(0:Int)<(n:Int)+1:=by omega
   have n2:(n:Int)+1<40:=by omega
   go_enter func42,ntmps42
   go_upto_region 1 with fail
   refine wp_region_held_drew (S:=fun _=>True) (by kernel_rfl) trivial (fun hHeld=>?_);clear hc;rw [← hn] at hl;generalize W.drew=yy at HY ⊢;refine tq 0 1 2 3 ?_;refine tt 5 6 ?_;refine t2 7 ?_;refine r4 4 8 (fun K hK=>?_) (fun K hK=>?_)
   ·have cx:=(uh HY).cx;go_simp;refine ro hK trivial fun _=>?_
    clear hK K;clear cx;refine r3 8 fun K hK=>?_
    have cx:=(uh HY).cx;go_simp;refine ro hK trivial fun _=>?_
    clear hK K;clear cx;refine t2 9 ?_;refine r3 10 fun K hK=>?_
    obtain ⟨x0,x1,x2⟩:=(uh HY).px;go_simp;refine ro hK trivial fun _=>?_
    clear hK K;clear x0 x1 x2;refine r3 11 fun K hK=>?_
    have H6:=aa ((uh HY).new);go_simp;refine ro hK trivial fun _=>?_
    clear hK K;generalize yy.heap.size=N6 at H6 ⊢;generalize yy.alloc (.cells #[.int .i64 p.code,.int .i64 p.id,.string p.data] 85)=y6 at H6 ⊢;clear HY;have H6a:=aa (uh H6).1;refine r3 12 fun K hK=>?_
    go_simp;refine (iI (uh H6).1.w.hk hl (uh H6).1.w.bs (uh H6).2.1 (uh H6).2.2).mono ?_;rintro e y7 ⟨v7,rfl,g1,g2,g3⟩;obtain ⟨a7,c7,e7⟩:=g1.form;obtain ⟨n7,e9⟩:∃ n7,(p :: p :: r).length=n7:=⟨_,rfl⟩;rw [e9] at e7;clear e9;subst e7;have H7:=aa ((uh H6).1.app g1 g2 g3);clear g1 g2 g3 H6;refine ro hK trivial fun _=>?_
    clear hK K;refine tt 13 14 ?_;refine r3 15 fun K hK=>?_
    have cx:=(uh H7).cx;have fx:=(uh H7).fx;go_simp;refine ro hK trivial fun _=>?_
    clear hK K;refine dn ?_ _;go_wp2
    refine zI ?_;rw [← hk];exact ⟨rfl,_,(uh H7).fin hL9⟩
   ·have cx:=(uh HY).cx;go_simp;refine ro hK trivial fun _=>?_
    clear hK K;clear cx;refine t2 9 ?_;refine r4 4 10 (fun K hK=>?_) (fun K hK=>?_)
    ·have cx:=(uh HY).cx;go_simp;refine ro hK trivial fun _=>?_
     clear hK K;clear cx;refine r3 10 fun K hK=>?_
     obtain ⟨x0,x1,x2⟩:=(uh HY).px;go_simp;refine ro hK trivial fun _=>?_
     clear hK K;clear x0 x1 x2;refine r3 11 fun K hK=>?_
     have H6:=aa ((uh HY).new);go_simp;refine ro hK trivial fun _=>?_
     clear hK K;generalize yy.heap.size=N6 at H6 ⊢;generalize yy.alloc (.cells #[.int .i64 p.code,.int .i64 p.id,.string p.data] 85)=y6 at H6 ⊢;clear HY;have H6a:=aa (uh H6).1;refine r3 12 fun K hK=>?_
     go_simp;refine (iI (uh H6).1.w.hk hl (uh H6).1.w.bs (uh H6).2.1 (uh H6).2.2).mono ?_;rintro e y7 ⟨v7,rfl,g1,g2,g3⟩;obtain ⟨a7,c7,e7⟩:=g1.form;obtain ⟨n7,e9⟩:∃ n7,(p :: p :: r).length=n7:=⟨_,rfl⟩;rw [e9] at e7;clear e9;subst e7;have H7:=aa ((uh H6).1.app g1 g2 g3);clear g1 g2 g3 H6;refine ro hK trivial fun _=>?_
     clear hK K;refine tt 13 14 ?_;refine r3 15 fun K hK=>?_
     have cx:=(uh H7).cx;have fx:=(uh H7).fx;go_simp;refine ro hK trivial fun _=>?_
     clear hK K;refine dn ?_ _;go_wp2
     refine zI ?_;rw [← hk];exact ⟨rfl,_,(uh H7).fin hL9⟩
    ·obtain ⟨x0,x1,x2⟩:=(uh HY).px;go_simp;refine ro hK trivial fun _=>?_
     clear hK K;clear x0 x1 x2;refine r4 4 11 (fun K hK=>?_) (fun K hK=>?_)
     ·have cx:=(uh HY).cx;go_simp;refine ro hK trivial fun _=>?_
      clear hK K;clear cx;refine r3 11 fun K hK=>?_
      have H6:=aa ((uh HY).new);go_simp;refine ro hK trivial fun _=>?_
      clear hK K;generalize yy.heap.size=N6 at H6 ⊢;generalize yy.alloc (.cells #[.int .i64 p.code,.int .i64 p.id,.string p.data] 85)=y6 at H6 ⊢;clear HY;have H6a:=aa (uh H6).1;refine r3 12 fun K hK=>?_
      go_simp;refine (iI (uh H6).1.w.hk hl (uh H6).1.w.bs (uh H6).2.1 (uh H6).2.2).mono ?_;rintro e y7 ⟨v7,rfl,g1,g2,g3⟩;obtain ⟨a7,c7,e7⟩:=g1.form;obtain ⟨n7,e9⟩:∃ n7,(p :: p :: r).length=n7:=⟨_,rfl⟩;rw [e9] at e7;clear e9;subst e7;have H7:=aa ((uh H6).1.app g1 g2 g3);clear g1 g2 g3 H6;refine ro hK trivial fun _=>?_
      clear hK K;refine tt 13 14 ?_;refine r3 15 fun K hK=>?_
      have cx:=(uh H7).cx;have fx:=(uh H7).fx;go_simp;refine ro hK trivial fun _=>?_
      clear hK K;refine dn ?_ _;go_wp2
      refine zI ?_;rw [← hk];exact ⟨rfl,_,(uh H7).fin hL9⟩
     ·have H6:=aa ((uh HY).new);go_simp;refine ro hK trivial fun _=>?_
      clear hK K;generalize yy.heap.size=N6 at H6 ⊢;generalize yy.alloc (.cells #[.int .i64 p.code,.int .i64 p.id,.string p.data] 85)=y6 at H6 ⊢;clear HY;have H6a:=aa (uh H6).1;refine r3 4 fun K hK=>?_
      have cx:=(uh H6a).cx;go_simp;refine ro hK trivial fun _=>?_
      clear hK K;clear cx;refine r3 12 fun K hK=>?_
      go_simp;refine (iI (uh H6).1.w.hk hl (uh H6).1.w.bs (uh H6).2.1 (uh H6).2.2).mono ?_;rintro e y7 ⟨v7,rfl,g1,g2,g3⟩;obtain ⟨a7,c7,e7⟩:=g1.form;obtain ⟨n7,e9⟩:∃ n7,(p :: p :: r).length=n7:=⟨_,rfl⟩;rw [e9] at e7;clear e9;subst e7;have H7:=aa ((uh H6).1.app g1 g2 g3);clear g1 g2 g3 H6;refine ro hK trivial fun _=>?_
      clear hK K;refine tt 13 14 ?_;refine r3 15 fun K hK=>?_
      have cx:=(uh H7).cx;have fx:=(uh H7).fx;go_simp;refine ro hK trivial fun _=>?_
      clear hK K;refine dn ?_ _;go_wp2
      refine zI ?_;rw [← hk];exact ⟨rfl,_,(uh H7).fin hL9⟩
 ·have hdl:ml L=L:=by
   unfold ml;split
   ·rfl
   ·rw [if_neg (fun h2=>hd ⟨by simp,h2⟩)]
  rw [hdl];obtain ⟨ad,cp,hv⟩:=h.hk.form;have HW:=aa h;subst hv;clear h hdl;generalize X.length=k at *;generalize L.length=n at *;by_cases h0:n=0
  ·subst h0;go_enter func42,ntmps42
   go_wp2
   refine zI ?_;exact ⟨rfl,_,uh HW,Fr.refl _ _ _⟩
  ·have h40:n=40:=by omega
   subst h40;go_enter func42,ntmps42
   go_wp2
   refine zI ?_;exact ⟨rfl,_,uh HW,Fr.refl _ _ _⟩
end Go.Proofs.YtjdgiimfpkideaaGreatDoor
