/- DrawCf DrawMt -/
import Derived.Test.YtjdgiimfpkideaaGreatDoorS43
set_option maxHeartbeats 16000000
set_option maxRecDepth 100000
set_option linter.unusedSimpArgs false
namespace Go.Proofs.YtjdgiimfpkideaaGreatDoor
open Go.RowKit Go.Proofs.Tryz
variable {z w W' W:World} {g B h9 n base size m:Nat} {x0 x1 x2 x3 x4 x5 sl v:Value} {T e:TypeId} {xs:List Value} {c':Array Value}
structure CfF(w:World)(B:Nat)(sl:Value)(n:Nat)(l0 l1 l2 l3 l4 l5 l6 l7 l8 l9 l10 l11 l12 l13 l14 l15 l16 l17 l18 l19 l20 l21:Bool)(y3 y4 y5 y6 y7 y8 y9 y10 y11 y12 y13 y14 y15 y16 y17 y18 y19 y20 y21 y22 y23:Value)(z:World):Prop where
 s:Src z B sl n
 d:Dat z B sl n
 g:Nigh B w z
 r:z.heap[w.heap.size]?=some (.cells #[.int .i64 0,.int .i64 0,.int .i64 0,.bool false,.bool false,.bool false] 24)
 f0:l0=true->∃g,y4=.slice (some ⟨g,0,none⟩) 4 4/\z.heap[g]?=some (.cells #[.int .i64 64,.int .i64 300,.int .i64 100,.int .i64 200] 2)/\g≠B
 f1:l1=true->y5=.pointer (some ⟨B,0,none⟩)
 f2:l2=true->∃r:Nat,y6=.int .i64 r/\r<4
 f3:l3=true->∃(g r:Nat),y7=.pointer (some ⟨g,r,none⟩)/\z.heap[g]?=some (.cells #[.int .i64 64,.int .i64 300,.int .i64 100,.int .i64 200] 2)/\g≠B/\r<4
 f4:l4=true->∃x,y8=.int .i64 x
 f5:l5=true->∃g,y9=.slice (some ⟨g,0,none⟩) 3 3/\z.heap[g]?=some (.cells #[.int .i64 0,.int .i64 4294967295,.int .i64 131072] 2)/\g≠B
 f6:l6=true->y10=.pointer (some ⟨B,0,none⟩)
 f7:l7=true->∃r:Nat,y11=.int .i64 r/\r<3
 f8:l8=true->∃(g r:Nat),y12=.pointer (some ⟨g,r,none⟩)/\z.heap[g]?=some (.cells #[.int .i64 0,.int .i64 4294967295,.int .i64 131072] 2)/\g≠B/\r<3
 f9:l9=true->∃x,y13=.int .i64 x
 f10:l10=true->y14=.pointer (some ⟨B,0,none⟩)
 f11:l11=true->∃r:Nat,y15=.int .i64 r/\r<4
 f12:l12=true->∃x,y16=.int .i64 x
 f13:l13=true->y17=.pointer (some ⟨B,0,none⟩)
 f14:l14=true->∃b,y18=.bool b
 f15:l15=true->y19=.pointer (some ⟨B,0,none⟩)
 f16:l16=true->∃b,y20=.bool b
 f17:l17=true->y21=.pointer (some ⟨B,0,none⟩)
 f18:l18=true->∃b,y22=.bool b
 f19:l19=true->∃m a g p c d,y23=.agg #[.int .i64 m,.int .i64 a,.int .i64 g,.bool p,.bool c,.bool d]
 f20:l20=true->∃(h:Nat)(m a g:Int)(p c d:Bool),y3=.pointer (some ⟨h,0,none⟩)/\z.heap[h]?=some (.cells #[.int .i64 m,.int .i64 a,.int .i64 g,.bool p,.bool c,.bool d] 24)/\h≠B/\w.heap.size<h
def CfI(w:World)(B:Nat)(sl:Value)(n:Nat)(L:Array Bool)(a:Act)(z:World):Prop :=
 ∃(l0 l1 l2 l3 l4 l5 l6 l7 l8 l9 l10 l11 l12 l13 l14 l15 l16 l17 l18 l19 l20 l21:Bool)(y3 y4 y5 y6 y7 y8 y9 y10 y11 y12 y13 y14 y15 y16 y17 y18 y19 y20 y21 y22 y23:Value),L=#[l0,l1,l2,l3,l4,l5,l6,l7,l8,l9,l10,l11,l12,l13,l14,l15,l16,l17,l18,l19,l20,l21]/\a=⟨#[.pointer (some ⟨B,0,none⟩),undef,.pointer (some ⟨w.heap.size,0,none⟩),y3,y4,y5,y6,y7,y8,y9,y10,y11,y12,y13,y14,y15,y16,y17,y18,y19,y20,y21,y22,y23,undef,undef,undef,undef,undef,undef,undef,undef,undef,undef,undef,undef,undef,undef,undef,undef,undef,undef,undef,undef,undef,undef,undef,undef],[]⟩/\CfF w B sl n l0 l1 l2 l3 l4 l5 l6 l7 l8 l9 l10 l11 l12 l13 l14 l15 l16 l17 l18 l19 l20 l21 y3 y4 y5 y6 y7 y8 y9 y10 y11 y12 y13 y14 y15 y16 y17 y18 y19 y20 y21 y22 y23 z
theorem oU{o:Obj}(h:z.heap[g]?=some o):g<z.heap.size:=(ge.1 h).1
section
variable {w:World} {B:Nat} {sl:Value} {n:Nat} {l0 l1 l2 l3 l4 l5 l6 l7 l8 l9 l10 l11 l12 l13 l14 l15 l16 l17 l18 l19 l20 l21:Bool} {y3 y4 y5 y6 y7 y8 y9 y10 y11 y12 y13 y14 y15 y16 y17 y18 y19 y20 y21 y22 y23:Value} {z:World}
theorem CfF.step(h:CfF w B sl n l0 l1 l2 l3 l4 l5 l6 l7 l8 l9 l10 l11 l12 l13 l14 l15 l16 l17 l18 l19 l20 l21 y3 y4 y5 y6 y7 y8 y9 y10 y11 y12 y13 y14 y15 y16 y17 y18 y19 y20 y21 y22 y23 z){z':World}(hn:Nigh B z z')(hs:Src z' B sl n)(hB:B<w.heap.size):CfF w B sl n l0 l1 l2 l3 l4 l5 l6 l7 l8 l9 l10 l11 l12 l13 l14 l15 l16 l17 l18 l19 l20 l21 y3 y4 y5 y6 y7 y8 y9 y10 y11 y12 y13 y14 y15 y16 y17 y18 y19 y20 y21 y22 y23 z' :=
 ⟨hs,h.d.below (hn.below (Nat.le_of_lt h.s.lt)),h.g.trans hn,(hn.block _ (oU h.r) (by omega)).trans h.r,
  fun e=>let ⟨g,e1,e2,e3⟩:=h.f0 e;⟨g,e1,(hn.block g (oU e2) e3).trans e2,e3⟩,h.f1,h.f2,fun e=>let ⟨g,r,e1,e2,e3,e4⟩:=h.f3 e;⟨g,r,e1,(hn.block g (oU e2) e3).trans e2,e3,e4⟩,h.f4,fun e=>let ⟨g,e1,e2,e3⟩:=h.f5 e;⟨g,e1,(hn.block g (oU e2) e3).trans e2,e3⟩,h.f6,h.f7,fun e=>let ⟨g,r,e1,e2,e3,e4⟩:=h.f8 e;⟨g,r,e1,(hn.block g (oU e2) e3).trans e2,e3,e4⟩,h.f9,h.f10,h.f11,h.f12,h.f13,h.f14,h.f15,h.f16,h.f17,h.f18,h.f19,fun e=>let ⟨h9,m,a,g,p,c,d,e1,e2,e3,e4⟩:=h.f20 e;⟨h9,m,a,g,p,c,d,e1,(hn.block h9 (oU e2) e3).trans e2,e3,e4⟩⟩
end
theorem A7{p:Prop}:false=true->p:=fun e=>Bool.noConfusion e
theorem x9(h:w.heap[B]?=some (.cells #[x0,x1,x2,x3,x4,x5] T)):w.cell? (B,0)=some x0/\w.cell? (B,1)=some x1/\w.cell? (B,2)=some x2/\w.cell? (B,3)=some x3/\w.cell? (B,4)=some x4/\w.cell? (B,5)=some x5 :=
 ⟨cv h,cv h,cv h,cv h,cv h,cv h⟩
theorem Av{cs:Array Value}(h:w.heap[B]?=some (.cells cs T)):w.frozen? (B,0)=false/\w.frozen? (B,1)=false/\w.frozen? (B,2)=false/\w.frozen? (B,3)=false/\w.frozen? (B,4)=false/\w.frozen? (B,5)=false :=
 ⟨by simp[World.frozen?,h],by simp[World.frozen?,h],by simp[World.frozen?,h],by simp[World.frozen?,h],by simp[World.frozen?,h],by simp[World.frozen?,h]⟩
theorem G5{h:Nat}{c d:Array Value}{U:TypeId}(h1:z.heap[g]?=some (.cells c T))(h2:z.heap[h]?=some (.cells d U))(hT:T≠U):g≠h:=fun e=>by
 rw[e,h2]at h1;injection h1 with h1;injection h1 with _ h1;exact hT h1.symm
theorem EE(e3:z.heap[h9]?=some (.cells #[x0,x1,x2,x3,x4,x5] T))(m a g:Int)(p c d:Bool):((((((z.setCell ⟨h9,0,none⟩ (.int .i64 m)).setCell ⟨h9,1,none⟩ (.int .i64 a)).setCell ⟨h9,2,none⟩ (.int .i64 g)).setCell ⟨h9,3,none⟩ (.bool p)).setCell ⟨h9,4,none⟩ (.bool c)).setCell ⟨h9,5,none⟩ (.bool d)).heap[h9]?=some (.cells #[.int .i64 m,.int .i64 a,.int .i64 g,.bool p,.bool c,.bool d] T)/\Touch h9 z ((((((z.setCell ⟨h9,0,none⟩ (.int .i64 m)).setCell ⟨h9,1,none⟩ (.int .i64 a)).setCell ⟨h9,2,none⟩ (.int .i64 g)).setCell ⟨h9,3,none⟩ (.bool p)).setCell ⟨h9,4,none⟩ (.bool c)).setCell ⟨h9,5,none⟩ (.bool d)) :=
 ⟨zH _ _ 5 _ _ _ (zH _ _ 4 _ _ _ (zH _ _ 3 _ _ _ (zH _ _ 2 _ _ _ (zH _ _ 1 _ _ _ (zH _ _ 0 _ _ _ e3))))),((((((Touch.refl _ _).setCell 0 _).setCell 1 _).setCell 2 _).setCell 3 _).setCell 4 _).setCell 5 _⟩
theorem CfF.store{l0 l1 l2 l3 l4 l5 l6 l7 l8 l9 l10 l11 l12 l13 l14 l15 l16 l17 l18 l19 l20 l21:Bool}{y3 y4 y5 y6 y7 y8 y9 y10 y11 y12 y13 y14 y15 y16 y17 y18 y19 y20 y21 y22 y23:Value}(h:CfF w B sl n l0 l1 l2 l3 l4 l5 l6 l7 l8 l9 l10 l11 l12 l13 l14 l15 l16 l17 l18 l19 l20 l21 y3 y4 y5 y6 y7 y8 y9 y10 y11 y12 y13 y14 y15 y16 y17 y18 y19 y20 y21 y22 y23 z)(hB:B<w.heap.size)(e2:y3=.pointer (some ⟨h9,0,none⟩))(e3:z.heap[h9]?=some (.cells #[x0,x1,x2,x3,x4,x5] 24))(e4:h9≠B)(e5:w.heap.size<h9)(m a g:Int)(p c d:Bool):CfF w B sl n l0 l1 l2 l3 l4 l5 l6 l7 l8 l9 l10 l11 l12 l13 l14 l15 l16 l17 l18 l19 l20 true y3 y4 y5 y6 y7 y8 y9 y10 y11 y12 y13 y14 y15 y16 y17 y18 y19 y20 y21 y22 y23 ((((((z.setCell ⟨h9,0,none⟩ (.int .i64 m)).setCell ⟨h9,1,none⟩ (.int .i64 a)).setCell ⟨h9,2,none⟩ (.int .i64 g)).setCell ⟨h9,3,none⟩ (.bool p)).setCell ⟨h9,4,none⟩ (.bool c)).setCell ⟨h9,5,none⟩ (.bool d)):=by
 obtain⟨k1,k2⟩:=EE e3 m a g p c d;generalize ((((((z.setCell ⟨h9,0,none⟩ (.int .i64 m)).setCell ⟨h9,1,none⟩ (.int .i64 a)).setCell ⟨h9,2,none⟩ (.int .i64 g)).setCell ⟨h9,3,none⟩ (.bool p)).setCell ⟨h9,4,none⟩ (.bool c)).setCell ⟨h9,5,none⟩ (.bool d))=z' at k1 k2;have hA:∀(g:Nat)(cs:Array Value),z.heap[g]?=some (.cells cs 2)->z'.heap[g]?=some (.cells cs 2):=fun g cs e=>(k2.block g (G5 e e3 (by decide))).trans e
 refine⟨h.s.same (k2.block B (Ne.symm e4)),h.d.below (k2.below.mono (by omega)),?_,(k2.block _ (by omega)).trans h.r,fun e=>let ⟨g,e1,e2,e3⟩:=h.f0 e;⟨g,e1,hA g _ e2,e3⟩,h.f1,h.f2,fun e=>let ⟨g,r,e1,e2,e3,e4⟩:=h.f3 e;⟨g,r,e1,hA g _ e2,e3,e4⟩,h.f4,fun e=>let ⟨g,e1,e2,e3⟩:=h.f5 e;⟨g,e1,hA g _ e2,e3⟩,h.f6,h.f7,fun e=>let ⟨g,r,e1,e2,e3,e4⟩:=h.f8 e;⟨g,r,e1,hA g _ e2,e3,e4⟩,h.f9,h.f10,h.f11,h.f12,h.f13,h.f14,h.f15,h.f16,h.f17,h.f18,h.f19,fun e=>⟨h9,_,_,_,_,_,_,e2,k1,e4,e5⟩⟩;exact⟨k2.os.trans h.g.os,k2.tape.trans h.g.tape,k2.output.trans h.g.output,zE h.g.size (Nat.le_of_eq k2.size.symm),fun b hb hne=>(k2.block b (by omega)).trans (h.g.block b hb hne)⟩
structure Cst(w W:World)(B:Nat)(sl:Value)(n E:Nat)(m a g:Int)(p c d:Bool):Prop where
 r:W.heap[w.heap.size]?=some (.cells #[(0:Int),(0:Int),(0:Int),false,false,false] 24)
 x:W.heap[E]?=some (.cells #[m,a,g,p,c,d] 24)
 s:Src W B sl n
 g:Nigh B w W
section
variable {w W:World} {B:Nat} {sl:Value} {n E:Nat} {m a g:Int} {p c d:Bool}
theorem Cst.step(h:Cst w W B sl n E m a g p c d)(hn:Nigh B W W')(hs:Src W' B sl n)(h2:E≠B)(hB:B<w.heap.size):Cst w W' B sl n E m a g p c d :=
 ⟨(hn.block _ (oU h.r) (by omega)).trans h.r,(hn.block E (oU h.x) h2).trans h.x,hs,h.g.trans hn⟩
theorem Cst.set0(h:Cst w W B sl n E m a g p c d)(y:Int)(h2:E≠B)(h3:w.heap.size<E):Cst w (W.setCell (E,0) y) B sl n E y a g p c d :=
 ⟨(zJ _ (E,0) _ _ (by simp;omega)).trans h.r,by rw[zH _ _ 0 _ _ _ h.x];rfl,h.s.same (zJ _ (E,0) _ B (Ne.symm h2)),h.g.setCell (E,0) _ (by simp;omega)⟩
theorem Cst.set1(h:Cst w W B sl n E m a g p c d)(y:Int)(h2:E≠B)(h3:w.heap.size<E):Cst w (W.setCell (E,1) y) B sl n E m y g p c d :=
 ⟨(zJ _ (E,1) _ _ (by simp;omega)).trans h.r,by rw[zH _ _ 1 _ _ _ h.x];rfl,h.s.same (zJ _ (E,1) _ B (Ne.symm h2)),h.g.setCell (E,1) _ (by simp;omega)⟩
theorem Cst.set2(h:Cst w W B sl n E m a g p c d)(y:Int)(h2:E≠B)(h3:w.heap.size<E):Cst w (W.setCell (E,2) y) B sl n E m a y p c d :=
 ⟨(zJ _ (E,2) _ _ (by simp;omega)).trans h.r,by rw[zH _ _ 2 _ _ _ h.x];rfl,h.s.same (zJ _ (E,2) _ B (Ne.symm h2)),h.g.setCell (E,2) _ (by simp;omega)⟩
theorem Er:(prog.info? 24).map (·.size)=some 6:=by kernel_rfl
structure Calls9(w W:World)(B:Nat)(sl:Value)(n:Nat)(m a g:Int)(p c d:Bool):Prop where
 s:Src ((((((W.setCell (w,0) m).setCell (w,1) a).setCell (w,2) g).setCell (w,3) p).setCell (w,4) c).setCell (w,5) d) B sl n
 ng:Nigh B w ((((((W.setCell (w,0) m).setCell (w,1) a).setCell (w,2) g).setCell (w,3) p).setCell (w,4) c).setCell (w,5) d)
 l:(loadVar 24 (w,0)).run prog ((((((W.setCell (w,0) m).setCell (w,1) a).setCell (w,2) g).setCell (w,3) p).setCell (w,4) c).setCell (w,5) d)=.ok (.agg #[m,a,g,p,c,d]) ((((((W.setCell (w,0) m).setCell (w,1) a).setCell (w,2) g).setCell (w,3) p).setCell (w,4) c).setCell (w,5) d)
theorem Cst.fin(h:Cst w W B sl n E m a g p c d)(hB:B<w.heap.size):Calls9 w W B sl n m a g p c d:=by
 obtain⟨k1,k2⟩:=EE h.r m a g p c d;refine⟨h.s.same (k2.block B (by omega)),⟨k2.os.trans h.g.os,k2.tape.trans h.g.tape,k2.output.trans h.g.output,zE h.g.size (Nat.le_of_eq k2.size.symm),fun b hb hne=>(k2.block b (by omega)).trans (h.g.block b hb hne)⟩,?_⟩;exact run_loadVar_row (P:=prog) _ _ 24 24 #[m,a,g,p,c,d] (0,0) _ k1 underlying24 rfl Er
end
theorem A0(w:World)(B:Nat)(sl:Value)(n:Nat)(hn:n<=maxLen)(hS:Src w B sl n)(hD:Dat w B sl n):Calls prog 19 #[(B,0)] w fun e w'=>∃(m a g:Int)(p c d:Bool),e=.returned (.agg #[m,a,g,p,c,d])/\Src w' B sl n/\Nigh B w w':=by
 have hB:=hS.lt;have HD:=aa hD;have n0:Nigh B w (w.alloc (.cells #[(0:Int),(0:Int),(0:Int),false,false,false] 24)):=(Nigh.refl _ _).alloc _;have F0:CfF w B sl n false false false false false false false false false false false false false false false false false false false false false false undef undef undef undef undef undef undef undef undef undef undef undef undef undef undef undef undef undef undef undef undef (w.alloc (.cells #[(0:Int),(0:Int),(0:Int),false,false,false] 24)).drew :=
  ⟨(hS.same (zG _ _ _ hB):Src (w.alloc _) B sl n).same rfl,(hD.below (n0.below (Nat.le_of_lt hB))).below ((zC _ _).drew),n0.trans ((Nigh.of_below ((zC _ _).drew))),zF w _,A7,A7,A7,A7,A7,A7,A7,A7,A7,A7,A7,A7,A7,A7,A7,A7,A7,A7,A7,A7,A7⟩
 have H0:=aa F0;clear hS hD F0 n0;go_enter func19,ntmps19
 go_wp2_with fail
 go_cut [3] (fun y W=>∃(h9:Nat)(m a g:Int)(p c d:Bool),y=.pointer (some (h9,0))/\W.heap[h9]?=some (.cells #[m,a,g,p,c,d] 24)/\h9≠B/\w.heap.size<h9/\W.heap[w.heap.size]?=some (.cells #[(0:Int),(0:Int),(0:Int),false,false,false] 24)/\Src W B sl n/\Nigh B w W)
 case first =>
  refine zS (I:=CfI w B sl n) (by kernel_rfl) ⟨false,false,false,false,false,false,false,false,false,false,false,false,false,false,false,false,false,false,false,false,false,false,undef,undef,undef,undef,undef,undef,undef,undef,undef,undef,undef,undef,undef,undef,undef,undef,undef,undef,undef,undef,undef,rfl,rfl,uh H0⟩ ?_ (by kernel_rfl) ?_
  .rintro L a z ⟨l0,l1,l2,l3,l4,l5,l6,l7,l8,l9,l10,l11,l12,l13,l14,l15,l16,l17,l18,l19,l20,l21,y3,y4,y5,y6,y7,y8,y9,y10,y11,y12,y13,y14,y15,y16,y17,y18,y19,y20,y21,y22,y23,rfl,rfl,F⟩ hc;have W9:l20=true:=by
    cases l20
    .exact absurd (by simp) (List.count_eq_zero.1 hc)
    .rfl
   obtain⟨h9,m,a,g,p,c,d,e1,e2,e3,e4⟩:=F.f20 W9;have H9:=aa F;subst e1;go_wp2_with fail
   go_meet;exact⟨h9,m,a,g,p,c,d,rfl,e2,e3,e4,H9.out.r,H9.out.s,H9.out.g⟩
  .rintro L a z i ⟨l0,l1,l2,l3,l4,l5,l6,l7,l8,l9,l10,l11,l12,l13,l14,l15,l16,l17,l18,l19,l20,l21,y3,y4,y5,y6,y7,y8,y9,y10,y11,y12,y13,y14,y15,y16,y17,y18,y19,y20,y21,y22,y23,rfl,rfl,F⟩ hi _ hw;match i,hi,hw with
   | 0,_,hw =>
    refine wpOp_step rfl fun K hK=>?_
    go_simp;exact hK _ _ ⟨true,l1,l2,l3,l4,l5,l6,l7,l8,l9,l10,l11,l12,l13,l14,l15,l16,l17,l18,l19,l20,l21,_,_,_,_,_,_,_,_,_,_,_,_,_,_,_,_,_,_,_,_,_,rfl,rfl,{F.step ((Nigh.refl _ _).alloc _) (F.s.same (zG _ _ _ F.s.lt)) hB with f0:=fun _=>⟨_,rfl,zF z _,by have:=F.s.lt;omega⟩}⟩
   | 1,_,hw =>
    refine wpOp_step rfl fun K hK=>?_
    go_simp;exact hK _ _ ⟨l0,true,l2,l3,l4,l5,l6,l7,l8,l9,l10,l11,l12,l13,l14,l15,l16,l17,l18,l19,l20,l21,_,_,_,_,_,_,_,_,_,_,_,_,_,_,_,_,_,_,_,_,_,rfl,rfl,{F with f1:=fun _=>rfl}⟩
   | 2,_,hw =>
    simp[pg,Region.binds]at hw;have W9:l1=true:=by simp[hw]
    refine wpOp_step rfl fun K hK=>?_
    have e1:=F.f1 W9;subst e1;go_simp;refine(x8 z B sl n 4 (by decide) hn F.s F.d).mono ?_;rintro e z1⟨r,rfl,hr,hS1,ht1⟩;exact hK _ _ ⟨l0,l1,true,l3,l4,l5,l6,l7,l8,l9,l10,l11,l12,l13,l14,l15,l16,l17,l18,l19,l20,l21,_,_,_,_,_,_,_,_,_,_,_,_,_,_,_,_,_,_,_,_,_,rfl,rfl,{F.step (Nigh.of_touch ht1) hS1 hB with f2:=fun _=>⟨r,rfl,by omega⟩}⟩
   | 3,_,hw =>
    simp[pg,Region.binds]at hw;have WA3:l0=true:=by simp[hw]
    have WB3:l2=true:=by simp[hw]
    refine wpOp_step rfl fun K hK=>?_
    obtain⟨g,e1,e2,e3⟩:=F.f0 WA3;obtain⟨r,e4,e5⟩:=F.f2 WB3;subst e1 e4;have e6:(r:Int)<4:=by omega
    go_simp;exact hK _ _ ⟨l0,l1,l2,true,l4,l5,l6,l7,l8,l9,l10,l11,l12,l13,l14,l15,l16,l17,l18,l19,l20,l21,_,_,_,_,_,_,_,_,_,_,_,_,_,_,_,_,_,_,_,_,_,rfl,rfl,{F with f3:=fun _=>⟨g,r,by first|rfl|simp,e2,e3,e5⟩}⟩
   | 4,_,hw =>
    simp[pg,Region.binds]at hw;have WA4:l3=true:=by simp[hw]
    refine wpOp_step rfl fun K hK=>?_
    obtain⟨g,r,e1,e2,e3,e4⟩:=F.f3 WA4;subst e1;obtain⟨x,hx,_,_⟩:=sz e2 (by decide) r (by simpa using e4);go_simp;exact hK _ _ ⟨l0,l1,l2,l3,true,l5,l6,l7,l8,l9,l10,l11,l12,l13,l14,l15,l16,l17,l18,l19,l20,l21,_,_,_,_,_,_,_,_,_,_,_,_,_,_,_,_,_,_,_,_,_,rfl,rfl,{F with f4:=fun _=>⟨x,rfl⟩}⟩
   | 5,_,hw =>
    refine wpOp_step rfl fun K hK=>?_
    go_simp;exact hK _ _ ⟨l0,l1,l2,l3,l4,true,l6,l7,l8,l9,l10,l11,l12,l13,l14,l15,l16,l17,l18,l19,l20,l21,_,_,_,_,_,_,_,_,_,_,_,_,_,_,_,_,_,_,_,_,_,rfl,rfl,{F.step ((Nigh.refl _ _).alloc _) (F.s.same (zG _ _ _ F.s.lt)) hB with f5:=fun _=>⟨_,rfl,zF z _,by have:=F.s.lt;omega⟩}⟩
   | 6,_,hw =>
    refine wpOp_step rfl fun K hK=>?_
    go_simp;exact hK _ _ ⟨l0,l1,l2,l3,l4,l5,true,l7,l8,l9,l10,l11,l12,l13,l14,l15,l16,l17,l18,l19,l20,l21,_,_,_,_,_,_,_,_,_,_,_,_,_,_,_,_,_,_,_,_,_,rfl,rfl,{F with f6:=fun _=>rfl}⟩
   | 7,_,hw =>
    simp[pg,Region.binds]at hw;have W9:l6=true:=by simp[hw]
    refine wpOp_step rfl fun K hK=>?_
    have e1:=F.f6 W9;subst e1;go_simp;refine(x8 z B sl n 3 (by decide) hn F.s F.d).mono ?_;rintro e z1⟨r,rfl,hr,hS1,ht1⟩;exact hK _ _ ⟨l0,l1,l2,l3,l4,l5,l6,true,l8,l9,l10,l11,l12,l13,l14,l15,l16,l17,l18,l19,l20,l21,_,_,_,_,_,_,_,_,_,_,_,_,_,_,_,_,_,_,_,_,_,rfl,rfl,{F.step (Nigh.of_touch ht1) hS1 hB with f7:=fun _=>⟨r,rfl,by omega⟩}⟩
   | 8,_,hw =>
    simp[pg,Region.binds]at hw;have WA8:l5=true:=by simp[hw]
    have WB8:l7=true:=by simp[hw]
    refine wpOp_step rfl fun K hK=>?_
    obtain⟨g,e1,e2,e3⟩:=F.f5 WA8;obtain⟨r,e4,e5⟩:=F.f7 WB8;subst e1 e4;have e6:(r:Int)<3:=by omega
    go_simp;exact hK _ _ ⟨l0,l1,l2,l3,l4,l5,l6,l7,true,l9,l10,l11,l12,l13,l14,l15,l16,l17,l18,l19,l20,l21,_,_,_,_,_,_,_,_,_,_,_,_,_,_,_,_,_,_,_,_,_,rfl,rfl,{F with f8:=fun _=>⟨g,r,by first|rfl|simp,e2,e3,e5⟩}⟩
   | 9,_,hw =>
    simp[pg,Region.binds]at hw;have WA9:l8=true:=by simp[hw]
    refine wpOp_step rfl fun K hK=>?_
    obtain⟨g,r,e1,e2,e3,e4⟩:=F.f8 WA9;subst e1;obtain⟨x,hx,_,_⟩:=sz e2 (by decide) r (by simpa using e4);go_simp;exact hK _ _ ⟨l0,l1,l2,l3,l4,l5,l6,l7,l8,true,l10,l11,l12,l13,l14,l15,l16,l17,l18,l19,l20,l21,_,_,_,_,_,_,_,_,_,_,_,_,_,_,_,_,_,_,_,_,_,rfl,rfl,{F with f9:=fun _=>⟨x,rfl⟩}⟩
   | 10,_,hw =>
    refine wpOp_step rfl fun K hK=>?_
    go_simp;exact hK _ _ ⟨l0,l1,l2,l3,l4,l5,l6,l7,l8,l9,true,l11,l12,l13,l14,l15,l16,l17,l18,l19,l20,l21,_,_,_,_,_,_,_,_,_,_,_,_,_,_,_,_,_,_,_,_,_,rfl,rfl,{F with f10:=fun _=>rfl}⟩
   | 11,_,hw =>
    simp[pg,Region.binds]at hw;have W9:l10=true:=by simp[hw]
    refine wpOp_step rfl fun K hK=>?_
    have e1:=F.f10 W9;subst e1;go_simp;refine(x8 z B sl n 4 (by decide) hn F.s F.d).mono ?_;rintro e z1⟨r,rfl,hr,hS1,ht1⟩;exact hK _ _ ⟨l0,l1,l2,l3,l4,l5,l6,l7,l8,l9,l10,true,l12,l13,l14,l15,l16,l17,l18,l19,l20,l21,_,_,_,_,_,_,_,_,_,_,_,_,_,_,_,_,_,_,_,_,_,rfl,rfl,{F.step (Nigh.of_touch ht1) hS1 hB with f11:=fun _=>⟨r,rfl,by omega⟩}⟩
   | 12,_,hw =>
    simp[pg,Region.binds]at hw;have WA12:l11=true:=by simp[hw]
    refine wpOp_step rfl fun K hK=>?_
    obtain⟨r,e1,e2⟩:=F.f11 WA12;subst e1;go_simp;exact hK _ _ ⟨l0,l1,l2,l3,l4,l5,l6,l7,l8,l9,l10,l11,true,l13,l14,l15,l16,l17,l18,l19,l20,l21,_,_,_,_,_,_,_,_,_,_,_,_,_,_,_,_,_,_,_,_,_,rfl,rfl,{F with f12:=fun _=>⟨_,rfl⟩}⟩
   | 13,_,hw =>
    refine wpOp_step rfl fun K hK=>?_
    go_simp;exact hK _ _ ⟨l0,l1,l2,l3,l4,l5,l6,l7,l8,l9,l10,l11,l12,true,l14,l15,l16,l17,l18,l19,l20,l21,_,_,_,_,_,_,_,_,_,_,_,_,_,_,_,_,_,_,_,_,_,rfl,rfl,{F with f13:=fun _=>rfl}⟩
   | 14,_,hw =>
    simp[pg,Region.binds]at hw;have W9:l13=true:=by simp[hw]
    refine wpOp_step rfl fun K hK=>?_
    have e1:=F.f13 W9;subst e1;go_simp;refine(zB z B sl n 2 (by decide) hn F.s F.d).mono ?_;rintro e z1⟨b,rfl,hS1,ht1⟩;exact hK _ _ ⟨l0,l1,l2,l3,l4,l5,l6,l7,l8,l9,l10,l11,l12,l13,true,l15,l16,l17,l18,l19,l20,l21,_,_,_,_,_,_,_,_,_,_,_,_,_,_,_,_,_,_,_,_,_,rfl,rfl,{F.step (Nigh.of_touch ht1) hS1 hB with f14:=fun _=>⟨b,rfl⟩}⟩
   | 15,_,hw =>
    refine wpOp_step rfl fun K hK=>?_
    go_simp;exact hK _ _ ⟨l0,l1,l2,l3,l4,l5,l6,l7,l8,l9,l10,l11,l12,l13,l14,true,l16,l17,l18,l19,l20,l21,_,_,_,_,_,_,_,_,_,_,_,_,_,_,_,_,_,_,_,_,_,rfl,rfl,{F with f15:=fun _=>rfl}⟩
   | 16,_,hw =>
    simp[pg,Region.binds]at hw;have W9:l15=true:=by simp[hw]
    refine wpOp_step rfl fun K hK=>?_
    have e1:=F.f15 W9;subst e1;go_simp;refine(zB z B sl n 2 (by decide) hn F.s F.d).mono ?_;rintro e z1⟨b,rfl,hS1,ht1⟩;exact hK _ _ ⟨l0,l1,l2,l3,l4,l5,l6,l7,l8,l9,l10,l11,l12,l13,l14,l15,true,l17,l18,l19,l20,l21,_,_,_,_,_,_,_,_,_,_,_,_,_,_,_,_,_,_,_,_,_,rfl,rfl,{F.step (Nigh.of_touch ht1) hS1 hB with f16:=fun _=>⟨b,rfl⟩}⟩
   | 17,_,hw =>
    refine wpOp_step rfl fun K hK=>?_
    go_simp;exact hK _ _ ⟨l0,l1,l2,l3,l4,l5,l6,l7,l8,l9,l10,l11,l12,l13,l14,l15,l16,true,l18,l19,l20,l21,_,_,_,_,_,_,_,_,_,_,_,_,_,_,_,_,_,_,_,_,_,rfl,rfl,{F with f17:=fun _=>rfl}⟩
   | 18,_,hw =>
    simp[pg,Region.binds]at hw;have W9:l17=true:=by simp[hw]
    refine wpOp_step rfl fun K hK=>?_
    have e1:=F.f17 W9;subst e1;go_simp;refine(zB z B sl n 2 (by decide) hn F.s F.d).mono ?_;rintro e z1⟨b,rfl,hS1,ht1⟩;exact hK _ _ ⟨l0,l1,l2,l3,l4,l5,l6,l7,l8,l9,l10,l11,l12,l13,l14,l15,l16,l17,true,l19,l20,l21,_,_,_,_,_,_,_,_,_,_,_,_,_,_,_,_,_,_,_,_,_,rfl,rfl,{F.step (Nigh.of_touch ht1) hS1 hB with f18:=fun _=>⟨b,rfl⟩}⟩
   | 19,_,hw =>
    simp[pg,Region.binds]at hw;have WA19_4:l4=true:=by simp[hw]
    have WA19_9:l9=true:=by simp[hw]
    have WA19_12:l12=true:=by simp[hw]
    have WA19_14:l14=true:=by simp[hw]
    have WA19_16:l16=true:=by simp[hw]
    have WA19_18:l18=true:=by simp[hw]
    refine wpOp_step rfl fun K hK=>?_
    obtain⟨x1,e4⟩:=F.f4 WA19_4;obtain⟨x2,e9⟩:=F.f9 WA19_9;obtain⟨x3,e12⟩:=F.f12 WA19_12;obtain⟨b1,e14⟩:=F.f14 WA19_14;obtain⟨b2,e16⟩:=F.f16 WA19_16;obtain⟨b3,e18⟩:=F.f18 WA19_18;subst e4 e9 e12 e14 e16 e18;go_simp;exact hK _ _ ⟨l0,l1,l2,l3,l4,l5,l6,l7,l8,l9,l10,l11,l12,l13,l14,l15,l16,l17,l18,true,l20,l21,_,_,_,_,_,_,_,_,_,_,_,_,_,_,_,_,_,_,_,_,_,rfl,rfl,{F with f19:=fun _=>⟨_,_,_,_,_,_,rfl⟩}⟩
   | 20,_,hw =>
    refine wpOp_step rfl fun K hK=>?_
    go_simp;exact hK _ _ ⟨l0,l1,l2,l3,l4,l5,l6,l7,l8,l9,l10,l11,l12,l13,l14,l15,l16,l17,l18,l19,true,l21,_,_,_,_,_,_,_,_,_,_,_,_,_,_,_,_,_,_,_,_,_,rfl,rfl,{F.step ((Nigh.refl _ _).alloc _) (F.s.same (zG _ _ _ F.s.lt)) hB with f20:=fun _=>⟨_,_,_,_,_,_,_,rfl,zF z _,by have:=F.s.lt;omega,oU F.r⟩}⟩
   | 21,_,hw =>
    simp[pg,Region.binds]at hw;have WA21_19:l19=true:=by simp[hw]
    have WA21_20:l20=true:=by simp[hw]
    refine wpOp_step rfl fun K hK=>?_
    obtain⟨m,a,g,p,c,d,e1⟩:=F.f19 WA21_19;obtain⟨h9,m1,a1,g1,p1,c1,d1,e2,e3,e4,e5⟩:=F.f20 WA21_20;subst e1;obtain⟨q0,q1,q2,q3,q4,q5⟩:=x9 e3;obtain⟨z0,z1,z2,z3,z4,z5⟩:=Av e3;have P6:=aa (CfF.store F hB e2 e3 e4 e5 m a g p c d);clear e3;subst e2;go_simp;exact hK _ _ ⟨l0,l1,l2,l3,l4,l5,l6,l7,l8,l9,l10,l11,l12,l13,l14,l15,l16,l17,l18,l19,l20,true,_,_,_,_,_,_,_,_,_,_,_,_,_,_,_,_,_,_,_,_,_,rfl,rfl,uh P6⟩
   | k+22,hi,_=>exact absurd hi (by simp)
 case rest =>
  obtain⟨E,m,a,g,p,c,d,rfl,q1,q2,q3,q4,q5,q6⟩:=hcut;rename World=>w1
  have H1:Hid (Cst w w1 B sl n E m a g p c d):=aa ⟨q4,q1,q5,q6⟩;clear q1 q4 q5 q6 H0;have DB:Hid (∀W,Nigh B w W->Dat W B sl n):=aa fun W h=>HD.out.below (h.below (by omega))
  have FIN:Hid (∀(W:World)(m a g:Int)(p c d:Bool),Cst w W B sl n E m a g p c d->Calls9 w W B sl n m a g p c d):=aa fun W m a g p c d h=>Cst.fin h hB
  have nER:¬(E=w.heap.size):=by omega
  have nRE:¬(w.heap.size=E):=by omega
  go_wp2_with fail
  refine(zB w1 B sl n 20 (by decide) hn H1.out.s (uh DB _ H1.out.g)).mono ?_;rintro e w5⟨b5,rfl,hS5,ht5⟩;have hX:=H1.out.step (Nigh.of_touch ht5) hS5 q2 hB;clear hS5 ht5 H1;cases b5
  .obtain ⟨x0,x1,x2,x3,x4,x5⟩:=x9 hX.x;obtain⟨y0,y1,y2,y3,y4,y5⟩:=x9 hX.r;obtain⟨f0,f1,f2,f3,f4,f5⟩:=Av hX.r;have HF:=aa (uh FIN _ _ _ _ _ _ _ hX);clear FIN hX;go_wp2
   refine bodyPost_ret (v:=.agg #[_,_,_,_,_,_]) (by simp[results,results19,asAddr,HF.out.l];first|exact⟨rfl,rfl,rfl,rfl,rfl,rfl⟩|rfl) rfl ⟨_,_,_,_,_,_,rfl,HF.out.s,HF.out.ng⟩
  .have HX:=aa hX;clear hX;go_wp2_with fail
   refine(x8 w5 B sl n 3 (by decide) hn HX.out.s (uh DB _ HX.out.g)).mono ?_;rintro e w6⟨q,rfl,hq,hS6,ht6⟩;have HX6:=aa (HX.out.step (Nigh.of_touch ht6) hS6 q2 hB);have hB6:=hS6.lt;clear hS6 ht6 HX hq;by_cases q0:q=0
   .subst q0;go_wp2_with fail
    have hsq:Src (w6.alloc (.cells #[(63:Int),(301:Int)] 2)) B sl n:=HX6.out.s.same (zG _ _ _ hB6);have hnq:Nigh B w (w6.alloc (.cells #[(63:Int),(301:Int)] 2)):=HX6.out.g.alloc _;refine(x8 _ B sl n 2 (by decide) hn hsq (uh DB _ hnq)).mono ?_;rintro e w7⟨r7,rfl,hr7,hS7,ht7⟩;have hr7':r7<2:=by omega
    obtain⟨y,hy,_,_⟩:=sz ((ht7.block w6 (by omega)).trans (zF w6 _)) (by decide) r7 (by simpa using hr7');have hX7:=(HX6.out.step ((Nigh.refl _ _).alloc _) hsq q2 hB).step (Nigh.of_touch ht7) hS7 q2 hB;clear hsq hnq hr7 ht7;obtain⟨x0,x1,x2,x3,x4,x5⟩:=x9 hX7.x;obtain⟨f0,f1,f2,f3,f4,f5⟩:=Av hX7.x;have HX8:=aa (hX7.set0 y q2 q3);clear hX7 hS7 HX6;go_upto_region 9 with fail
    refine bb (fun q=>Cst w q B sl n E _ _ _ _ _ _) HX8.out ?_;clear x0 x1 x2 x3 x4 x5 f0 f1 f2 f3 f4 f5 HX8;rintro q2 hX;obtain⟨x0,x1,x2,x3,x4,x5⟩:=x9 hX.x;obtain⟨y0,y1,y2,y3,y4,y5⟩:=x9 hX.r;obtain⟨f0,f1,f2,f3,f4,f5⟩:=Av hX.r;have HF:=aa (uh FIN _ _ _ _ _ _ _ hX);clear FIN hX;go_wp2
    refine bodyPost_ret (v:=.agg #[_,_,_,_,_,_]) (by simp[results,results19,asAddr,HF.out.l];first|exact⟨rfl,rfl,rfl,rfl,rfl,rfl⟩|rfl) rfl ⟨_,_,_,_,_,_,rfl,HF.out.s,HF.out.ng⟩
   .have e0:((q:Int)==0)=false:=zL (by omega);by_cases q1:q=1
    .subst q1;go_wp2_with fail
     refine(Cj w6 B sl n hn HX6.out.s (uh DB _ HX6.out.g)).mono ?_;rintro e w7⟨y,rfl,_,_,hS7,hn7⟩;have hX7:=HX6.out.step hn7 hS7 q2 hB;obtain⟨x0,x1,x2,x3,x4,x5⟩:=x9 hX7.x;obtain⟨f0,f1,f2,f3,f4,f5⟩:=Av hX7.x;have HX8:=aa (hX7.set1 y q2 q3);clear hX7 hS7 HX6;go_upto_region 9 with fail
     refine bb (fun q=>Cst w q B sl n E _ _ _ _ _ _) HX8.out ?_;clear x0 x1 x2 x3 x4 x5 f0 f1 f2 f3 f4 f5 HX8;rintro q2 hX;obtain⟨x0,x1,x2,x3,x4,x5⟩:=x9 hX.x;obtain⟨y0,y1,y2,y3,y4,y5⟩:=x9 hX.r;obtain⟨f0,f1,f2,f3,f4,f5⟩:=Av hX.r;have HF:=aa (uh FIN _ _ _ _ _ _ _ hX);clear FIN hX;go_wp2
     refine bodyPost_ret (v:=.agg #[_,_,_,_,_,_]) (by simp[results,results19,asAddr,HF.out.l];first|exact⟨rfl,rfl,rfl,rfl,rfl,rfl⟩|rfl) rfl ⟨_,_,_,_,_,_,rfl,HF.out.s,HF.out.ng⟩
    .have e1:((q:Int)==1)=false:=zL (by omega);go_wp2_with fail
     have hsq:Src (w6.alloc (.cells #[.int .i64 (-1),(4294967295:Int),(4294967296:Int),(4294967219:Int)] 2)) B sl n:=HX6.out.s.same (zG _ _ _ hB6);have hnq:Nigh B w (w6.alloc (.cells #[.int .i64 (-1),(4294967295:Int),(4294967296:Int),(4294967219:Int)] 2)):=HX6.out.g.alloc _;refine(x8 _ B sl n 4 (by decide) hn hsq (uh DB _ hnq)).mono ?_;rintro e w7⟨r7,rfl,hr7,hS7,ht7⟩;have hr7':r7<4:=by omega
     obtain⟨y,hy,_,_⟩:=sz ((ht7.block w6 (by omega)).trans (zF w6 _)) (by decide) r7 (by simpa using hr7');have hX7:=(HX6.out.step ((Nigh.refl _ _).alloc _) hsq q2 hB).step (Nigh.of_touch ht7) hS7 q2 hB;clear hsq hnq hr7 ht7;obtain⟨x0,x1,x2,x3,x4,x5⟩:=x9 hX7.x;obtain⟨f0,f1,f2,f3,f4,f5⟩:=Av hX7.x;have HX8:=aa (hX7.set2 y q2 q3);clear hX7 hS7 HX6;go_upto_region 9 with fail
     refine bb (fun q=>Cst w q B sl n E _ _ _ _ _ _) HX8.out ?_;clear x0 x1 x2 x3 x4 x5 f0 f1 f2 f3 f4 f5 HX8;rintro q2 hX;obtain⟨x0,x1,x2,x3,x4,x5⟩:=x9 hX.x;obtain⟨y0,y1,y2,y3,y4,y5⟩:=x9 hX.r;obtain⟨f0,f1,f2,f3,f4,f5⟩:=Av hX.r;have HF:=aa (uh FIN _ _ _ _ _ _ _ hX);clear FIN hX;go_wp2
     refine bodyPost_ret (v:=.agg #[_,_,_,_,_,_]) (by simp[results,results19,asAddr,HF.out.l];first|exact⟨rfl,rfl,rfl,rfl,rfl,rfl⟩|rfl) rfl ⟨_,_,_,_,_,_,rfl,HF.out.s,HF.out.ng⟩
abbrev uA:Array Value:=#[(0:Int),(0:Int),(0:Int),false,false,false]
abbrev tI(m a g:Int)(p c d:Bool):Array Value:=#[m,a,g,p,c,d]
theorem Aj(h:W.ownsRow base e size v n xs)(g:Nat)(hg:v.ownBlock=some g):base<=g/\g<W.heap.size/\∃cur,W.heap[g]?=some (.cells cur e):=by
 rcases h.2 with⟨e1,_⟩|⟨g',cap,cur,e1,h2,h3,_⟩
 .rw [e1]at hg;cases hg
 .rw [e1]at hg;cases hg;exact⟨h2,(ge.1 h3).1,cur,h3⟩
theorem BZ{w':World}(h:w.ownsRow base e size v n xs)(hb:∀g,v.ownBlock=some g->w'.heap[g]?=w.heap[g]?):w'.ownsRow base e size v n xs :=
 ⟨h.1,h.2.imp id fun⟨g,cap,cur,h1,h2,h3,h4⟩=>⟨g,cap,cur,h1,h2,(hb g (by rw[h1];rfl)).trans h3,h4⟩⟩
structure Dn(w:World)(sl:Value)(m:Nat)(W:World):Prop where
 s:Src W (w.heap.size+2) sl m
 d:Dat W (w.heap.size+2) sl m
 r0:W.heap[w.heap.size]?=some (.cells uA 24)
 r1:W.heap[w.heap.size+1]?=some (.cells uA 24)
 g:Below w w W
theorem Dn.nigh(h:Dn w sl m W)(hs:Src W' (w.heap.size+2) sl m)(hn:Nigh (w.heap.size+2) W W'):Dn w sl m W' :=
 ⟨hs,h.d.below (hn.below (Nat.le_of_lt h.s.lt)),(hn.block _ (ge.1 h.r0).1 (by omega)).trans h.r0,(hn.block _ (ge.1 h.r1).1 (by omega)).trans h.r1,h.g.trans ((hn.below (Nat.le_of_lt h.s.lt)).mono (by omega))⟩
theorem Dn.up(h:Dn w sl m W)(hb:Below W W W'):Dn w sl m W':=h.nigh (h.s.same (hb.block _ h.s.lt)) (Nigh.of_below hb)
structure Dm(w:World)(sl:Value)(m:Nat)(A C:Nat)(ca cb:Array Value)(u:Value)(L:List Int)(W:World):Prop where
 n:Dn w sl m W
 a:W.heap[A]?=some (.cells ca 24)
 b:W.heap[C]?=some (.cells cb 24)
 la:w.heap.size+2<A/\w.heap.size+2<C
 l:W.ownsRow (w.heap.size+3) 2 1 u L.length (fE L)
 R:∀e∈L,e<=9223372036854775807
section
variable {w W W':World} {sl:Value} {m A C:Nat} {ca cb:Array Value} {u:Value} {L:List Int}
theorem Dm.nigh(h:Dm w sl m A C ca cb u L W)(hs:Src W' (w.heap.size+2) sl m)(hn:Nigh (w.heap.size+2) W W'):Dm w sl m A C ca cb u L W' :=
 ⟨h.n.nigh hs hn,(hn.block _ (ge.1 h.a).1 (by have:=h.la;omega)).trans h.a,(hn.block _ (ge.1 h.b).1 (by have:=h.la;omega)).trans h.b,h.la,BZ h.l fun g hv=>hn.block g (Aj h.l g hv).2.1 (by have:=(Aj h.l g hv).1;omega),h.R⟩
theorem Dm.alloc(h:Dm w sl m A C ca cb u L W)(o:Obj):Dm w sl m A C ca cb u L (W.alloc o) :=
 h.nigh (h.n.s.same (zG _ _ _ h.n.s.lt)) ((Nigh.refl _ _).alloc _)
theorem Dm.setL{u':Value}{x:Int}(h:Dm w sl m A C ca cb u L W)(ho:W'.ownsRow (w.heap.size+3) 2 1 u' (L++[x]).length (fE (L++[x])))(hg:W.grownBy W' u.ownBlock)(hx:x<=9223372036854775807):Dm w sl m A C ca cb u' (L++[x]) W':=by
 have hv:∀q,u.ownBlock=some q->w.heap.size+3<=q:=fun q hq=>(Aj h.l q hq).1
 have hne:∀(k:Nat)(cs:Array Value),W.heap[k]?=some (.cells cs 24)->u.ownBlock≠some k:=fun k cs hk e=>by
  obtain⟨_,_,cur,hc⟩:=Aj h.l k e;rw[hk]at hc;injection hc with hc;injection hc with _ hc;exact absurd hc (by decide)
 have hb:∀(k:Nat)(cs:Array Value),W.heap[k]?=some (.cells cs 24)->W'.heap[k]?=some (.cells cs 24):=fun k cs hk=>(hg.block k (ge.1 hk).1 (fun e=>hne k cs hk e.symm)).trans hk
 refine⟨⟨h.n.s.same (hg.block _ h.n.s.lt fun e=>by have:=hv _ e.symm;omega),?_,hb _ _ h.n.r0,hb _ _ h.n.r1,h.n.g.grown hg h.n.g.size (fun q hq=>by have:=hv q hq;omega)⟩,hb _ _ h.a,hb _ _ h.b,h.la,ho,fun e he=>?_⟩
 .exact h.n.d.below ((zC _ _).grown hg (Nat.le_of_lt h.n.s.lt) (fun q hq=>by have:=hv q hq;omega))
 .rcases List.mem_append.1 he with he|he
  .exact h.R e he
  .rw [List.mem_singleton.1 he];exact hx
theorem Dm.cell3(h:Dm w sl m A C ca cb u L W):∃z:Nat,z<=12/\W.cell? (w.heap.size+2,3)=some (.int .i64 (z:Int)):=by
 obtain⟨p,q,z,_,_,hz,hr⟩:=h.n.s;exact⟨z,hz,cv hr⟩
theorem Dm.put0(h:Dm w sl m A C ca cb u L W):((W.setRow w c').heap[A]?=some (.cells ca 24)/\(W.setRow w c').heap[C]?=some (.cells cb 24))/\(W.setRow w c').heap[w.heap.size+1]?=some (.cells uA 24):=by
 have:=h.la
 exact⟨⟨(bH W w A c' (by omega)).trans h.a,(bH W w C c' (by omega)).trans h.b⟩,(bH W w (w.heap.size+1) c' (by omega)).trans h.n.r1⟩
theorem Dm.put1(h:Dm w sl m A C ca cb u L W){c2:Array Value}:(((W.setRow w c').setRow (w.heap.size+1) c2).heap[A]?=some (.cells ca 24)/\((W.setRow w c').setRow (w.heap.size+1) c2).heap[C]?=some (.cells cb 24)) /\
  ((W.setRow w c').setRow (w.heap.size+1) c2).heap[w.heap.size]?=some (.cells c' 24)/\((W.setRow w c').setRow (w.heap.size+1) c2).heap[w.heap.size+1]?=some (.cells c2 24) /\
  ((W.setRow w c').setRow (w.heap.size+1) c2).ownsRow w 2 1 u L.length (fE L)/\Below w w ((W.setRow w c').setRow (w.heap.size+1) c2):=by
 have hla:=h.la;obtain⟨⟨k1,k2⟩,k3⟩:=h.put0 (c':=c');have k0:=setRow_heap W w _ c' _ _ h.n.r0;refine⟨⟨(bH _ _ A c2 (by omega)).trans k1,(bH _ _ C c2 (by omega)).trans k2⟩,(bH _ _ w c2 (by omega)).trans k0,setRow_heap _ _ _ c2 _ _ k3,?_,am (am h.n.g (zD _) _) (by omega) _⟩;have h1:=BZ h.l (w':=(W.setRow w c').setRow (w.heap.size+1) c2) fun g hv=>by
  have:=(Aj h.l g hv).1
  rw[bH _ _ g c2 (by omega),bH _ _ g c' (by omega)]
 exact⟨h1.1,h1.2.imp id fun⟨g,cap,cur,e1,e2,e3⟩=>⟨g,cap,cur,e1,zE (by omega) e2,e3⟩⟩
end
theorem FA(w:World)(sl:Value)(m:Nat)(hn:m<=maxLen)(hD:Dat w w sl m):Calls prog 5 #[sl] w fun e w'=>∃(m1 a1 g1:Int)(p1 c1 d1:Bool)(m2 a2 g2:Int)(p2 c2 d2:Bool)(u:Value)(L:List Int)(st:Bool),e=.returned (.tuple #[.agg (tI m1 a1 g1 p1 c1 d1),.agg (tI m2 a2 g2 p2 c2 d2),u,st])/\L.length<=99/\w'.ownsRow w 2 1 u L.length (fE L)/\(∀e∈L,e<=9223372036854775807)/\Below w w w':=by
 have hb0:Below w w ((w.alloc (.cells uA 24)).alloc (.cells uA 24)):=((zC _ _).alloc (zD _) _).alloc (by simp) _;have hs0:((w.alloc (.cells uA 24)).alloc (.cells uA 24)).heap.size=w.heap.size+2:=by simp
 obtain⟨_,q0,q1,_⟩:=br w (.cells uA 24) (.cells uA 24);have c:=D3 ((w.alloc (.cells uA 24)).alloc (.cells uA 24)) sl m hn ((hD.below hb0).mono (by omega));rw[hs0]at c;have HD:=aa ((hD.below hb0).mono (show w.heap.size<=w.heap.size+2 by omega));have H0:=aa (zA q0 (zA q1 hb0));clear hD hb0 q0 q1;go_enter func5,ntmps5
 go_wp2_with fail
 refine c.mono ?_;rintro e w1⟨rfl,hS1,hb1⟩;have H1:Hid (Dn w sl m w1):=aa ⟨hS1,HD.out.below hb1,(hb1.block _ (by omega)).trans H0.out.1,(hb1.block _ (by omega)).trans H0.out.2.1,H0.out.2.2.trans (hb1.mono (by omega))⟩;clear hS1 hb1 c HD H0;go_wp2_with fail
 refine(A0 w1 (w.heap.size+2) sl m hn H1.out.s H1.out.d).mono ?_;rintro e w2⟨m1,a1,g1,p1,c1,d1,rfl,hS2,hn2⟩;have H2:=aa (H1.out.nigh hS2 hn2);clear hS2 hn2 H1;go_upto_region 3 with(refine wpList_store_rowTo rfl 24 (.tmp 7) (.tmp 14) rfl rfl w2 (tI m1 a1 g1 p1 c1 d1) rfl rfl 24 uA (zF w2 _) xE rfl (by kernel_rfl) ?_)
 refine bb (fun q=>q.heap[w2.heap.size]?=some (.cells (tI m1 a1 g1 p1 c1 d1) 24)/\Dn w sl m q/\w.heap.size+2<w2.heap.size) ?_ ?_
 .have hb:Below w2 w2 ((w2.alloc (.cells uA 24)).setRow w2 (tI m1 a1 g1 p1 c1 d1)):=am ((zC _ _).alloc (zD _) _) (zD _) _;exact⟨setRow_heap _ _ _ _ _ _ (zF w2 _),H2.out.up hb,H2.out.s.lt⟩
 intro w3 hq3;have H3:=aa hq3;generalize w2.heap.size=A at*;clear hq3 H2;go_wp2_with fail
 refine(A0 w3 (w.heap.size+2) sl m hn H3.out.2.1.s H3.out.2.1.d).mono ?_;rintro e w4⟨m2,a2,g2,p2,c2,d2,rfl,hS4,hn4⟩;have H4:=aa (zA ((hn4.block _ (ge.1 H3.out.1).1 (by have:=H3.out.2.2;omega)).trans H3.out.1) (zA (H3.out.2.1.nigh hS4 hn4) H3.out.2.2));clear hS4 hn4 H3;go_upto_region 4 with(refine wpList_store_rowTo rfl 24 (.tmp 8) (.tmp 16) rfl rfl w4 (tI m2 a2 g2 p2 c2 d2) rfl rfl 24 uA (zF w4 _) xE rfl (by kernel_rfl) ?_)
 refine bb (fun q=>q.heap[A]?=some (.cells (tI m1 a1 g1 p1 c1 d1) 24)/\q.heap[w4.heap.size]?=some (.cells (tI m2 a2 g2 p2 c2 d2) 24)/\Dn w sl m q/\w.heap.size+2<A/\w.heap.size+2<w4.heap.size) ?_ ?_
 .have hb:Below w4 w4 ((w4.alloc (.cells uA 24)).setRow w4 (tI m2 a2 g2 p2 c2 d2)):=am ((zC _ _).alloc (zD _) _) (zD _) _;exact⟨(hb.block _ (ge.1 H4.out.1).1).trans H4.out.1,setRow_heap _ _ _ _ _ _ (zF w4 _),H4.out.2.1.up hb,H4.out.2.2,H4.out.2.1.s.lt⟩
 intro w5 hq5
 have H5:Hid (Dm w sl m A w4 (tI m1 a1 g1 p1 c1 d1) (tI m2 a2 g2 p2 c2 d2) (.slice (some (w5,0)) 0 0) [] (w5.alloc (.cells #[] 2))):=aa
  ⟨hq5.2.2.1.up ((zC _ _).alloc (zD _) _),(zG _ _ _ (ge.1 hq5.1).1).trans hq5.1,(zG _ _ _ (ge.1 hq5.2.1).1).trans hq5.2.1,hq5.2.2.2,World.ownsRow_lit w5 #[] 0 hq5.2.2.1.s.lt (Nat.zero_le _) rfl,fun _ h=>(by cases h)⟩
 generalize w4.heap.size=C at*;clear hq5 H4;go_upto_region 5 with fail
 generalize w5.alloc (.cells #[] 2)=w6 at H5|-;generalize (some ⟨w5.heap.size,0,none⟩:Option Addr)=p0 at H5|-;obtain⟨z,hz,c3⟩:=H5.out.cell3;have c:=x8 _ (w.heap.size+2) sl m (10+2*z) (by omega) hn H5.out.n.s H5.out.n.d;have e1:((10+2*z:Nat):Int)=10+2*(z:Int):=by omega
 rw[e1]at c;have HC:=aa c;clear c e1;go_wp2_with fail
 refine HC.out.mono ?_;rintro e w7⟨k0,rfl,hk0,hS7,ht7⟩;have hk:k0<=33:=by omega
 have H7:=aa (H5.out.nigh hS7 (Nigh.of_touch ht7));clear hk0 hS7 ht7 HC c3 hz H5;go_wp2_with fail
 go_loopw [9,10] (fun u k wr=>∃(j:Nat)(L:List Int)(ya:Option Addr)(yc:Nat),j<=k0/\k=.int .i64 ((k0-j:Nat):Int)/\u=.slice ya j yc/\L.length=j/\Dm w sl m A C (tI m1 a1 g1 p1 c1 d1) (tI m2 a2 g2 p2 c2 d2) (ya,j,yc) L wr) (fun _ k _=>(intOf k).toNat)
 case atStart=>exact⟨0,[],p0,0,Nat.zero_le _,by simp,rfl,rfl,uh H7⟩
 case round =>
  rename World=>w17
  obtain⟨j,L,ya,yc,hj,rfl,rfl,hL,hv⟩:=hrel;clear H7;by_cases hlt:j<k0
  .obtain ⟨q,hq⟩:∃q:Nat,k0-j=q:=⟨_,rfl⟩;have HQ:=aa hq;have hq0:0<q:=by omega
   have hq67:q<=67:=by omega
   rw[hq];have dz1:(0:Int)<(q:Int):=by omega
   have HLL:=aa hL;have HV:=aa (hv.alloc (.cells #[(0:Int),(0:Int),(0:Int),(1:Int),(2:Int),(3:Int),(3:Int),(3:Int),(4:Int),(5:Int),(6:Int),(6:Int)] 2));have hBw:=hv.n.s.lt;have c:=aa (x8 _ (w.heap.size+2) sl m 12 (by decide) hn HV.out.n.s HV.out.n.d);clear hv hq hL;go_wp2_with fail
   refine c.out.mono ?_;rintro e w18⟨ri,rfl,hri,hS18,ht18⟩;have hri':ri<12:=by omega
   obtain⟨y,hy,hy1,hy2⟩:=sz ((ht18.block w17 (by omega)).trans (heap_alloc_last w17 _)) (by decide) ri (by simpa using hri');have H18:=aa (HV.out.nigh hS18 (Nigh.of_touch ht18));clear hri hS18 ht18 c HV
   go_wp2_with (first
    | (at_builtin;refine Cd rfl _ _ rfl (w.heap.size+3) (ya,j,yc) L j HLL.out rfl (by rw[<- uh HLL];have h:=H18.out.l;rw[uh HLL]at h|-;exact h) y rfl (by omega) (by have:=H18.out.n.s.lt;omega) ?_
       rintro v6 w6 ho6 hg6;obtain⟨a6,c6,rfl⟩:=af ho6;have H6:=aa ((H18.out.alloc _).setL (x:=y) (by rw[List.length_append,uh HLL];exact ho6) hg6 hy2);clear ho6 hg6 H18))
   go_roundw
   case rel =>
    refine⟨j+1,L++[y],a6,c6,by omega,?_,rfl,by rw[List.length_append,uh HLL];rfl,uh H6⟩;have:=uh HQ
    exact congrArg (Value.int .i64) (by omega)
   case measure=>simp[intOf]<;>omega
  .have e:j=k0:=by omega
   subst e;have dz1:¬((0:Int)<((j-j:Nat):Int)):=by omega
   have HV:=aa hv;have HLL:=aa hL;clear hv hL hlt hj;go_upto_region 9 with fail
   have SY:Hid (∀z,Dm w sl m A C (tI m1 a1 g1 p1 c1 d1) (tI m2 a2 g2 p2 c2 d2) (ya,j,yc) L z->(z.heap[A]?=some (.cells (tI m1 a1 g1 p1 c1 d1).toList.toArray 24)/\z.heap[C]?=some (.cells (tI m2 a2 g2 p2 c2 d2).toList.toArray 24))):=aa fun z h=>⟨h.a,h.b⟩
   have E0:Hid (Dm w sl m A C (tI m1 a1 g1 p1 c1 d1) (tI m2 a2 g2 p2 c2 d2) (ya,j,yc) L w17.drew):=aa (HV.out.nigh (HV.out.n.s.same rfl) (Nigh.of_below (zC _ _).drew));clear HV;refine wp_region_held_drew (S:=fun z=>z.heap[A]?=some (.cells (tI m1 a1 g1 p1 c1 d1).toList.toArray 24)/\z.heap[C]?=some (.cells (tI m2 a2 g2 p2 c2 d2).toList.toArray 24)) (by kernel_rfl) (uh SY _ E0.out) (fun hHeld=>?_);generalize w17.drew=yy at E0 hHeld|-;refine t4 0 (.agg (tI m1 a1 g1 p1 c1 d1)) rfl (yieldsIf_load_mid (by rfl) 24 (.tmp 7) rfl A 0 rfl (tI m1 a1 g1 p1 c1 d1).toList _ (fun z hz=>BC hz.1) underlying24 rfl xE) ?_;try simp only[Act.put,sA,sZ,sS,gA,gZ,gS]
   refine t4 1 (.agg (tI m2 a2 g2 p2 c2 d2)) rfl (yieldsIf_load_mid (by rfl) 24 (.tmp 8) rfl C 0 rfl (tI m2 a2 g2 p2 c2 d2).toList _ (fun z hz=>BC hz.2) underlying24 rfl xE) ?_;try simp only[Act.put,sA,sZ,sS,gA,gZ,gS]
   refine tt 2 3 ?_;refine r3 4 fun K hK=>?_
   go_simp;refine(zB yy (w.heap.size+2) sl m 4 (by decide) hn E0.out.n.s E0.out.n.d).mono ?_;rintro e y21⟨st,rfl,hS9,ht21⟩;have E21:=aa (E0.out.nigh hS9 (Nigh.of_touch ht21));clear ht21 hS9;go_wp2_with fail
   refine ro hK (uh SY _ E21.out) fun _=>?_
   clear hK K;refine t2 5 ?_;refine r3 6 fun K hK=>?_
   rw[if_pos (by rfl)];refine wp_store_row 24 (.tmp 2) (.tmp 38) rfl w (tI m1 a1 g1 p1 c1 d1) rfl rfl 24 uA E21.out.n.r0 xE rfl (by kernel_rfl) ?_;have E22:=aa (E21.out.put0 (c':=(tI m1 a1 g1 p1 c1 d1)));refine ro hK E22.out.1 fun _=>?_
   clear hK K;refine r3 7 fun K hK=>?_
   rw[if_pos (by rfl)];refine wp_store_row 24 (.tmp 3) (.tmp 39) rfl (w.heap.size+1) (tI m2 a2 g2 p2 c2 d2) rfl rfl 24 uA E22.out.2 xE rfl (by kernel_rfl) ?_;have E23:=aa (E21.out.put1 (c':=(tI m1 a1 g1 p1 c1 d1)) (c2:=(tI m2 a2 g2 p2 c2 d2)));refine ro hK E23.out.1 fun _=>?_
   clear hK K;refine tt 8 9 ?_;refine dn ?_ _;go_wp2_with fail
   refine bodyPost_ret (v:=.tuple #[.agg (tI m1 a1 g1 p1 c1 d1),.agg (tI m2 a2 g2 p2 c2 d2),(ya,j,yc),.bool (!st)]) (by simp[results,results5,asAddr,Act.put,jU E23.out.2.1,jU E23.out.2.2.1]) rfl ⟨m1,a1,g1,p1,c1,d1,m2,a2,g2,p2,c2,d2,(ya,j,yc),L,!st,rfl,by rw[uh HLL];omega,E23.out.2.2.2.1,E21.out.R,E23.out.2.2.2.2⟩
end Go.Proofs.YtjdgiimfpkideaaGreatDoor
