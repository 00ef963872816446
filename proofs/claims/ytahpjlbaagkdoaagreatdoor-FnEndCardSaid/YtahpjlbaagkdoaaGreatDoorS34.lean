/- DrawCf -/
import Derived.Test.YtahpjlbaagkdoaaGreatDoorS33
set_option maxHeartbeats 16000000
set_option maxRecDepth 100000
namespace Go.Proofs.YtahpjlbaagkdoaaGreatDoor
open Go.RowKit Go.Proofs.Tryz
structure CfF (w:World) (B:Nat) (sl:Value) (n:Nat) (l0 l1 l2 l3 l4 l5 l6 l7 l8 l9 l10 l11 l12 l13 l14 l15 l16 l17 l18 l19 l20 l21:Bool) (y3 y4 y5 y6 y7 y8 y9 y10 y11 y12 y13 y14 y15 y16 y17 y18 y19 y20 y21 y22 y23:Value) (z:World):Prop where
 s:Src z B sl n
 d:Dat z B sl n
 g:Nigh B w z
 r:z.heap[w.heap.size]?=some (.cells #[.int .i64 0,.int .i64 0,.int .i64 0,.bool false,.bool false,.bool false] 24)
 f0:l0=true→∃ g,y4=.slice (some ⟨g,0,none⟩) 4 4∧z.heap[g]?=some (.cells #[.int .i64 64,.int .i64 300,.int .i64 100,.int .i64 200] 2)∧g≠B
 f1:l1=true→y5=.pointer (some ⟨B,0,none⟩)
 f2:l2=true→∃ r:Nat,y6=.int .i64 r∧r<4
 f3:l3=true→∃ (g r:Nat),y7=.pointer (some ⟨g,r,none⟩)∧z.heap[g]?=some (.cells #[.int .i64 64,.int .i64 300,.int .i64 100,.int .i64 200] 2)∧g≠B∧r<4
 f4:l4=true→∃ x,y8=.int .i64 x
 f5:l5=true→∃ g,y9=.slice (some ⟨g,0,none⟩) 3 3∧z.heap[g]?=some (.cells #[.int .i64 0,.int .i64 4294967295,.int .i64 131072] 2)∧g≠B
 f6:l6=true→y10=.pointer (some ⟨B,0,none⟩)
 f7:l7=true→∃ r:Nat,y11=.int .i64 r∧r<3
 f8:l8=true→∃ (g r:Nat),y12=.pointer (some ⟨g,r,none⟩)∧z.heap[g]?=some (.cells #[.int .i64 0,.int .i64 4294967295,.int .i64 131072] 2)∧g≠B∧r<3
 f9:l9=true→∃ x,y13=.int .i64 x
 f10:l10=true→y14=.pointer (some ⟨B,0,none⟩)
 f11:l11=true→∃ r:Nat,y15=.int .i64 r∧r<4
 f12:l12=true→∃ x,y16=.int .i64 x
 f13:l13=true→y17=.pointer (some ⟨B,0,none⟩)
 f14:l14=true→∃ b,y18=.bool b
 f15:l15=true→y19=.pointer (some ⟨B,0,none⟩)
 f16:l16=true→∃ b,y20=.bool b
 f17:l17=true→y21=.pointer (some ⟨B,0,none⟩)
 f18:l18=true→∃ b,y22=.bool b
 f19:l19=true→∃ m a g p c d,y23=.agg #[.int .i64 m,.int .i64 a,.int .i64 g,.bool p,.bool c,.bool d]
 f20:l20=true→∃ (h:Nat) (m a g:Int) (p c d:Bool),y3=.pointer (some ⟨h,0,none⟩)∧z.heap[h]?=some (.cells #[.int .i64 m,.int .i64 a,.int .i64 g,.bool p,.bool c,.bool d] 24)∧h≠B∧w.heap.size<h
def CfI (w:World) (B:Nat) (sl:Value) (n:Nat) (L:Array Bool) (a:Act) (z:World):Prop :=
 ∃ (l0 l1 l2 l3 l4 l5 l6 l7 l8 l9 l10 l11 l12 l13 l14 l15 l16 l17 l18 l19 l20 l21:Bool) (y3 y4 y5 y6 y7 y8 y9 y10 y11 y12 y13 y14 y15 y16 y17 y18 y19 y20 y21 y22 y23:Value),L=#[l0,l1,l2,l3,l4,l5,l6,l7,l8,l9,l10,l11,l12,l13,l14,l15,l16,l17,l18,l19,l20,l21]∧a=⟨#[.pointer (some ⟨B,0,none⟩),undef,.pointer (some ⟨w.heap.size,0,none⟩),y3,y4,y5,y6,y7,y8,y9,y10,y11,y12,y13,y14,y15,y16,y17,y18,y19,y20,y21,y22,y23,undef,undef,undef,undef,undef,undef,undef,undef,undef,undef,undef,undef,undef,undef,undef,undef,undef,undef,undef,undef,undef,undef,undef,undef],[]⟩∧CfF w B sl n l0 l1 l2 l3 l4 l5 l6 l7 l8 l9 l10 l11 l12 l13 l14 l15 l16 l17 l18 l19 l20 l21 y3 y4 y5 y6 y7 y8 y9 y10 y11 y12 y13 y14 y15 y16 y17 y18 y19 y20 y21 y22 y23 z
theorem lt_of_row {z:World} {g:Nat} {o:Obj} (h:z.heap[g]?=some o):g<z.heap.size:=(ge.1 h).1
section
variable {w:World} {B:Nat} {sl:Value} {n:Nat} {l0 l1 l2 l3 l4 l5 l6 l7 l8 l9 l10 l11 l12 l13 l14 l15 l16 l17 l18 l19 l20 l21:Bool} {y3 y4 y5 y6 y7 y8 y9 y10 y11 y12 y13 y14 y15 y16 y17 y18 y19 y20 y21 y22 y23:Value} {z:World}
theorem CfF.step (h:CfF w B sl n l0 l1 l2 l3 l4 l5 l6 l7 l8 l9 l10 l11 l12 l13 l14 l15 l16 l17 l18 l19 l20 l21 y3 y4 y5 y6 y7 y8 y9 y10 y11 y12 y13 y14 y15 y16 y17 y18 y19 y20 y21 y22 y23 z) {z':World} (hn:Nigh B z z') (hs:Src z' B sl n) (hB:B<w.heap.size):CfF w B sl n l0 l1 l2 l3 l4 l5 l6 l7 l8 l9 l10 l11 l12 l13 l14 l15 l16 l17 l18 l19 l20 l21 y3 y4 y5 y6 y7 y8 y9 y10 y11 y12 y13 y14 y15 y16 y17 y18 y19 y20 y21 y22 y23 z' :=
 ⟨hs,h.d.below (hn.below (Nat.le_of_lt h.s.lt)),h.g.trans hn,(hn.block _ (lt_of_row h.r) (by omega)).trans h.r,
  fun e=>let ⟨g,e1,e2,e3⟩:=h.f0 e;⟨g,e1,(hn.block g (lt_of_row e2) e3).trans e2,e3⟩,h.f1,h.f2,fun e=>let ⟨g,r,e1,e2,e3,e4⟩:=h.f3 e;⟨g,r,e1,(hn.block g (lt_of_row e2) e3).trans e2,e3,e4⟩,h.f4,fun e=>let ⟨g,e1,e2,e3⟩:=h.f5 e;⟨g,e1,(hn.block g (lt_of_row e2) e3).trans e2,e3⟩,h.f6,h.f7,fun e=>let ⟨g,r,e1,e2,e3,e4⟩:=h.f8 e;⟨g,r,e1,(hn.block g (lt_of_row e2) e3).trans e2,e3,e4⟩,h.f9,h.f10,h.f11,h.f12,h.f13,h.f14,h.f15,h.f16,h.f17,h.f18,h.f19,fun e=>let ⟨h9,m,a,g,p,c,d,e1,e2,e3,e4⟩:=h.f20 e;⟨h9,m,a,g,p,c,d,e1,(hn.block h9 (lt_of_row e2) e3).trans e2,e3,e4⟩⟩
theorem CfF.p0 (h:CfF w B sl n l0 l1 l2 l3 l4 l5 l6 l7 l8 l9 l10 l11 l12 l13 l14 l15 l16 l17 l18 l19 l20 l21 y3 y4 y5 y6 y7 y8 y9 y10 y11 y12 y13 y14 y15 y16 y17 y18 y19 y20 y21 y22 y23 z) {v:Value} (hv:∃ g,v=.slice (some ⟨g,0,none⟩) 4 4∧z.heap[g]?=some (.cells #[.int .i64 64,.int .i64 300,.int .i64 100,.int .i64 200] 2)∧g≠B):CfF w B sl n true l1 l2 l3 l4 l5 l6 l7 l8 l9 l10 l11 l12 l13 l14 l15 l16 l17 l18 l19 l20 l21 y3 v y5 y6 y7 y8 y9 y10 y11 y12 y13 y14 y15 y16 y17 y18 y19 y20 y21 y22 y23 z :=
 ⟨h.s,h.d,h.g,h.r,fun _=>hv,h.f1,h.f2,h.f3,h.f4,h.f5,h.f6,h.f7,h.f8,h.f9,h.f10,h.f11,h.f12,h.f13,h.f14,h.f15,h.f16,h.f17,h.f18,h.f19,h.f20⟩
theorem CfF.p1 (h:CfF w B sl n l0 l1 l2 l3 l4 l5 l6 l7 l8 l9 l10 l11 l12 l13 l14 l15 l16 l17 l18 l19 l20 l21 y3 y4 y5 y6 y7 y8 y9 y10 y11 y12 y13 y14 y15 y16 y17 y18 y19 y20 y21 y22 y23 z) {v:Value} (hv:v=.pointer (some ⟨B,0,none⟩)):CfF w B sl n l0 true l2 l3 l4 l5 l6 l7 l8 l9 l10 l11 l12 l13 l14 l15 l16 l17 l18 l19 l20 l21 y3 y4 v y6 y7 y8 y9 y10 y11 y12 y13 y14 y15 y16 y17 y18 y19 y20 y21 y22 y23 z :=
 ⟨h.s,h.d,h.g,h.r,h.f0,fun _=>hv,h.f2,h.f3,h.f4,h.f5,h.f6,h.f7,h.f8,h.f9,h.f10,h.f11,h.f12,h.f13,h.f14,h.f15,h.f16,h.f17,h.f18,h.f19,h.f20⟩
theorem CfF.p2 (h:CfF w B sl n l0 l1 l2 l3 l4 l5 l6 l7 l8 l9 l10 l11 l12 l13 l14 l15 l16 l17 l18 l19 l20 l21 y3 y4 y5 y6 y7 y8 y9 y10 y11 y12 y13 y14 y15 y16 y17 y18 y19 y20 y21 y22 y23 z) {v:Value} (hv:∃ r:Nat,v=.int .i64 r∧r<4):CfF w B sl n l0 l1 true l3 l4 l5 l6 l7 l8 l9 l10 l11 l12 l13 l14 l15 l16 l17 l18 l19 l20 l21 y3 y4 y5 v y7 y8 y9 y10 y11 y12 y13 y14 y15 y16 y17 y18 y19 y20 y21 y22 y23 z :=
 ⟨h.s,h.d,h.g,h.r,h.f0,h.f1,fun _=>hv,h.f3,h.f4,h.f5,h.f6,h.f7,h.f8,h.f9,h.f10,h.f11,h.f12,h.f13,h.f14,h.f15,h.f16,h.f17,h.f18,h.f19,h.f20⟩
theorem CfF.p3 (h:CfF w B sl n l0 l1 l2 l3 l4 l5 l6 l7 l8 l9 l10 l11 l12 l13 l14 l15 l16 l17 l18 l19 l20 l21 y3 y4 y5 y6 y7 y8 y9 y10 y11 y12 y13 y14 y15 y16 y17 y18 y19 y20 y21 y22 y23 z) {v:Value} (hv:∃ (g r:Nat),v=.pointer (some ⟨g,r,none⟩)∧z.heap[g]?=some (.cells #[.int .i64 64,.int .i64 300,.int .i64 100,.int .i64 200] 2)∧g≠B∧r<4):CfF w B sl n l0 l1 l2 true l4 l5 l6 l7 l8 l9 l10 l11 l12 l13 l14 l15 l16 l17 l18 l19 l20 l21 y3 y4 y5 y6 v y8 y9 y10 y11 y12 y13 y14 y15 y16 y17 y18 y19 y20 y21 y22 y23 z :=
 ⟨h.s,h.d,h.g,h.r,h.f0,h.f1,h.f2,fun _=>hv,h.f4,h.f5,h.f6,h.f7,h.f8,h.f9,h.f10,h.f11,h.f12,h.f13,h.f14,h.f15,h.f16,h.f17,h.f18,h.f19,h.f20⟩
theorem CfF.p4 (h:CfF w B sl n l0 l1 l2 l3 l4 l5 l6 l7 l8 l9 l10 l11 l12 l13 l14 l15 l16 l17 l18 l19 l20 l21 y3 y4 y5 y6 y7 y8 y9 y10 y11 y12 y13 y14 y15 y16 y17 y18 y19 y20 y21 y22 y23 z) {v:Value} (hv:∃ x,v=.int .i64 x):CfF w B sl n l0 l1 l2 l3 true l5 l6 l7 l8 l9 l10 l11 l12 l13 l14 l15 l16 l17 l18 l19 l20 l21 y3 y4 y5 y6 y7 v y9 y10 y11 y12 y13 y14 y15 y16 y17 y18 y19 y20 y21 y22 y23 z :=
 ⟨h.s,h.d,h.g,h.r,h.f0,h.f1,h.f2,h.f3,fun _=>hv,h.f5,h.f6,h.f7,h.f8,h.f9,h.f10,h.f11,h.f12,h.f13,h.f14,h.f15,h.f16,h.f17,h.f18,h.f19,h.f20⟩
theorem CfF.p5 (h:CfF w B sl n l0 l1 l2 l3 l4 l5 l6 l7 l8 l9 l10 l11 l12 l13 l14 l15 l16 l17 l18 l19 l20 l21 y3 y4 y5 y6 y7 y8 y9 y10 y11 y12 y13 y14 y15 y16 y17 y18 y19 y20 y21 y22 y23 z) {v:Value} (hv:∃ g,v=.slice (some ⟨g,0,none⟩) 3 3∧z.heap[g]?=some (.cells #[.int .i64 0,.int .i64 4294967295,.int .i64 131072] 2)∧g≠B):CfF w B sl n l0 l1 l2 l3 l4 true l6 l7 l8 l9 l10 l11 l12 l13 l14 l15 l16 l17 l18 l19 l20 l21 y3 y4 y5 y6 y7 y8 v y10 y11 y12 y13 y14 y15 y16 y17 y18 y19 y20 y21 y22 y23 z :=
 ⟨h.s,h.d,h.g,h.r,h.f0,h.f1,h.f2,h.f3,h.f4,fun _=>hv,h.f6,h.f7,h.f8,h.f9,h.f10,h.f11,h.f12,h.f13,h.f14,h.f15,h.f16,h.f17,h.f18,h.f19,h.f20⟩
theorem CfF.p6 (h:CfF w B sl n l0 l1 l2 l3 l4 l5 l6 l7 l8 l9 l10 l11 l12 l13 l14 l15 l16 l17 l18 l19 l20 l21 y3 y4 y5 y6 y7 y8 y9 y10 y11 y12 y13 y14 y15 y16 y17 y18 y19 y20 y21 y22 y23 z) {v:Value} (hv:v=.pointer (some ⟨B,0,none⟩)):CfF w B sl n l0 l1 l2 l3 l4 l5 true l7 l8 l9 l10 l11 l12 l13 l14 l15 l16 l17 l18 l19 l20 l21 y3 y4 y5 y6 y7 y8 y9 v y11 y12 y13 y14 y15 y16 y17 y18 y19 y20 y21 y22 y23 z :=
 ⟨h.s,h.d,h.g,h.r,h.f0,h.f1,h.f2,h.f3,h.f4,h.f5,fun _=>hv,h.f7,h.f8,h.f9,h.f10,h.f11,h.f12,h.f13,h.f14,h.f15,h.f16,h.f17,h.f18,h.f19,h.f20⟩
theorem CfF.p7 (h:CfF w B sl n l0 l1 l2 l3 l4 l5 l6 l7 l8 l9 l10 l11 l12 l13 l14 l15 l16 l17 l18 l19 l20 l21 y3 y4 y5 y6 y7 y8 y9 y10 y11 y12 y13 y14 y15 y16 y17 y18 y19 y20 y21 y22 y23 z) {v:Value} (hv:∃ r:Nat,v=.int .i64 r∧r<3):CfF w B sl n l0 l1 l2 l3 l4 l5 l6 true l8 l9 l10 l11 l12 l13 l14 l15 l16 l17 l18 l19 l20 l21 y3 y4 y5 y6 y7 y8 y9 y10 v y12 y13 y14 y15 y16 y17 y18 y19 y20 y21 y22 y23 z :=
 ⟨h.s,h.d,h.g,h.r,h.f0,h.f1,h.f2,h.f3,h.f4,h.f5,h.f6,fun _=>hv,h.f8,h.f9,h.f10,h.f11,h.f12,h.f13,h.f14,h.f15,h.f16,h.f17,h.f18,h.f19,h.f20⟩
theorem CfF.p8 (h:CfF w B sl n l0 l1 l2 l3 l4 l5 l6 l7 l8 l9 l10 l11 l12 l13 l14 l15 l16 l17 l18 l19 l20 l21 y3 y4 y5 y6 y7 y8 y9 y10 y11 y12 y13 y14 y15 y16 y17 y18 y19 y20 y21 y22 y23 z) {v:Value} (hv:∃ (g r:Nat),v=.pointer (some ⟨g,r,none⟩)∧z.heap[g]?=some (.cells #[.int .i64 0,.int .i64 4294967295,.int .i64 131072] 2)∧g≠B∧r<3):CfF w B sl n l0 l1 l2 l3 l4 l5 l6 l7 true l9 l10 l11 l12 l13 l14 l15 l16 l17 l18 l19 l20 l21 y3 y4 y5 y6 y7 y8 y9 y10 y11 v y13 y14 y15 y16 y17 y18 y19 y20 y21 y22 y23 z :=
 ⟨h.s,h.d,h.g,h.r,h.f0,h.f1,h.f2,h.f3,h.f4,h.f5,h.f6,h.f7,fun _=>hv,h.f9,h.f10,h.f11,h.f12,h.f13,h.f14,h.f15,h.f16,h.f17,h.f18,h.f19,h.f20⟩
theorem CfF.p9 (h:CfF w B sl n l0 l1 l2 l3 l4 l5 l6 l7 l8 l9 l10 l11 l12 l13 l14 l15 l16 l17 l18 l19 l20 l21 y3 y4 y5 y6 y7 y8 y9 y10 y11 y12 y13 y14 y15 y16 y17 y18 y19 y20 y21 y22 y23 z) {v:Value} (hv:∃ x,v=.int .i64 x):CfF w B sl n l0 l1 l2 l3 l4 l5 l6 l7 l8 true l10 l11 l12 l13 l14 l15 l16 l17 l18 l19 l20 l21 y3 y4 y5 y6 y7 y8 y9 y10 y11 y12 v y14 y15 y16 y17 y18 y19 y20 y21 y22 y23 z :=
 ⟨h.s,h.d,h.g,h.r,h.f0,h.f1,h.f2,h.f3,h.f4,h.f5,h.f6,h.f7,h.f8,fun _=>hv,h.f10,h.f11,h.f12,h.f13,h.f14,h.f15,h.f16,h.f17,h.f18,h.f19,h.f20⟩
theorem CfF.p10 (h:CfF w B sl n l0 l1 l2 l3 l4 l5 l6 l7 l8 l9 l10 l11 l12 l13 l14 l15 l16 l17 l18 l19 l20 l21 y3 y4 y5 y6 y7 y8 y9 y10 y11 y12 y13 y14 y15 y16 y17 y18 y19 y20 y21 y22 y23 z) {v:Value} (hv:v=.pointer (some ⟨B,0,none⟩)):CfF w B sl n l0 l1 l2 l3 l4 l5 l6 l7 l8 l9 true l11 l12 l13 l14 l15 l16 l17 l18 l19 l20 l21 y3 y4 y5 y6 y7 y8 y9 y10 y11 y12 y13 v y15 y16 y17 y18 y19 y20 y21 y22 y23 z :=
 ⟨h.s,h.d,h.g,h.r,h.f0,h.f1,h.f2,h.f3,h.f4,h.f5,h.f6,h.f7,h.f8,h.f9,fun _=>hv,h.f11,h.f12,h.f13,h.f14,h.f15,h.f16,h.f17,h.f18,h.f19,h.f20⟩
theorem CfF.p11 (h:CfF w B sl n l0 l1 l2 l3 l4 l5 l6 l7 l8 l9 l10 l11 l12 l13 l14 l15 l16 l17 l18 l19 l20 l21 y3 y4 y5 y6 y7 y8 y9 y10 y11 y12 y13 y14 y15 y16 y17 y18 y19 y20 y21 y22 y23 z) {v:Value} (hv:∃ r:Nat,v=.int .i64 r∧r<4):CfF w B sl n l0 l1 l2 l3 l4 l5 l6 l7 l8 l9 l10 true l12 l13 l14 l15 l16 l17 l18 l19 l20 l21 y3 y4 y5 y6 y7 y8 y9 y10 y11 y12 y13 y14 v y16 y17 y18 y19 y20 y21 y22 y23 z :=
 ⟨h.s,h.d,h.g,h.r,h.f0,h.f1,h.f2,h.f3,h.f4,h.f5,h.f6,h.f7,h.f8,h.f9,h.f10,fun _=>hv,h.f12,h.f13,h.f14,h.f15,h.f16,h.f17,h.f18,h.f19,h.f20⟩
theorem CfF.p12 (h:CfF w B sl n l0 l1 l2 l3 l4 l5 l6 l7 l8 l9 l10 l11 l12 l13 l14 l15 l16 l17 l18 l19 l20 l21 y3 y4 y5 y6 y7 y8 y9 y10 y11 y12 y13 y14 y15 y16 y17 y18 y19 y20 y21 y22 y23 z) {v:Value} (hv:∃ x,v=.int .i64 x):CfF w B sl n l0 l1 l2 l3 l4 l5 l6 l7 l8 l9 l10 l11 true l13 l14 l15 l16 l17 l18 l19 l20 l21 y3 y4 y5 y6 y7 y8 y9 y10 y11 y12 y13 y14 y15 v y17 y18 y19 y20 y21 y22 y23 z :=
 ⟨h.s,h.d,h.g,h.r,h.f0,h.f1,h.f2,h.f3,h.f4,h.f5,h.f6,h.f7,h.f8,h.f9,h.f10,h.f11,fun _=>hv,h.f13,h.f14,h.f15,h.f16,h.f17,h.f18,h.f19,h.f20⟩
theorem CfF.p13 (h:CfF w B sl n l0 l1 l2 l3 l4 l5 l6 l7 l8 l9 l10 l11 l12 l13 l14 l15 l16 l17 l18 l19 l20 l21 y3 y4 y5 y6 y7 y8 y9 y10 y11 y12 y13 y14 y15 y16 y17 y18 y19 y20 y21 y22 y23 z) {v:Value} (hv:v=.pointer (some ⟨B,0,none⟩)):CfF w B sl n l0 l1 l2 l3 l4 l5 l6 l7 l8 l9 l10 l11 l12 true l14 l15 l16 l17 l18 l19 l20 l21 y3 y4 y5 y6 y7 y8 y9 y10 y11 y12 y13 y14 y15 y16 v y18 y19 y20 y21 y22 y23 z :=
 ⟨h.s,h.d,h.g,h.r,h.f0,h.f1,h.f2,h.f3,h.f4,h.f5,h.f6,h.f7,h.f8,h.f9,h.f10,h.f11,h.f12,fun _=>hv,h.f14,h.f15,h.f16,h.f17,h.f18,h.f19,h.f20⟩
theorem CfF.p14 (h:CfF w B sl n l0 l1 l2 l3 l4 l5 l6 l7 l8 l9 l10 l11 l12 l13 l14 l15 l16 l17 l18 l19 l20 l21 y3 y4 y5 y6 y7 y8 y9 y10 y11 y12 y13 y14 y15 y16 y17 y18 y19 y20 y21 y22 y23 z) {v:Value} (hv:∃ b,v=.bool b):CfF w B sl n l0 l1 l2 l3 l4 l5 l6 l7 l8 l9 l10 l11 l12 l13 true l15 l16 l17 l18 l19 l20 l21 y3 y4 y5 y6 y7 y8 y9 y10 y11 y12 y13 y14 y15 y16 y17 v y19 y20 y21 y22 y23 z :=
 ⟨h.s,h.d,h.g,h.r,h.f0,h.f1,h.f2,h.f3,h.f4,h.f5,h.f6,h.f7,h.f8,h.f9,h.f10,h.f11,h.f12,h.f13,fun _=>hv,h.f15,h.f16,h.f17,h.f18,h.f19,h.f20⟩
theorem CfF.p15 (h:CfF w B sl n l0 l1 l2 l3 l4 l5 l6 l7 l8 l9 l10 l11 l12 l13 l14 l15 l16 l17 l18 l19 l20 l21 y3 y4 y5 y6 y7 y8 y9 y10 y11 y12 y13 y14 y15 y16 y17 y18 y19 y20 y21 y22 y23 z) {v:Value} (hv:v=.pointer (some ⟨B,0,none⟩)):CfF w B sl n l0 l1 l2 l3 l4 l5 l6 l7 l8 l9 l10 l11 l12 l13 l14 true l16 l17 l18 l19 l20 l21 y3 y4 y5 y6 y7 y8 y9 y10 y11 y12 y13 y14 y15 y16 y17 y18 v y20 y21 y22 y23 z :=
 ⟨h.s,h.d,h.g,h.r,h.f0,h.f1,h.f2,h.f3,h.f4,h.f5,h.f6,h.f7,h.f8,h.f9,h.f10,h.f11,h.f12,h.f13,h.f14,fun _=>hv,h.f16,h.f17,h.f18,h.f19,h.f20⟩
theorem CfF.p16 (h:CfF w B sl n l0 l1 l2 l3 l4 l5 l6 l7 l8 l9 l10 l11 l12 l13 l14 l15 l16 l17 l18 l19 l20 l21 y3 y4 y5 y6 y7 y8 y9 y10 y11 y12 y13 y14 y15 y16 y17 y18 y19 y20 y21 y22 y23 z) {v:Value} (hv:∃ b,v=.bool b):CfF w B sl n l0 l1 l2 l3 l4 l5 l6 l7 l8 l9 l10 l11 l12 l13 l14 l15 true l17 l18 l19 l20 l21 y3 y4 y5 y6 y7 y8 y9 y10 y11 y12 y13 y14 y15 y16 y17 y18 y19 v y21 y22 y23 z :=
 ⟨h.s,h.d,h.g,h.r,h.f0,h.f1,h.f2,h.f3,h.f4,h.f5,h.f6,h.f7,h.f8,h.f9,h.f10,h.f11,h.f12,h.f13,h.f14,h.f15,fun _=>hv,h.f17,h.f18,h.f19,h.f20⟩
theorem CfF.p17 (h:CfF w B sl n l0 l1 l2 l3 l4 l5 l6 l7 l8 l9 l10 l11 l12 l13 l14 l15 l16 l17 l18 l19 l20 l21 y3 y4 y5 y6 y7 y8 y9 y10 y11 y12 y13 y14 y15 y16 y17 y18 y19 y20 y21 y22 y23 z) {v:Value} (hv:v=.pointer (some ⟨B,0,none⟩)):CfF w B sl n l0 l1 l2 l3 l4 l5 l6 l7 l8 l9 l10 l11 l12 l13 l14 l15 l16 true l18 l19 l20 l21 y3 y4 y5 y6 y7 y8 y9 y10 y11 y12 y13 y14 y15 y16 y17 y18 y19 y20 v y22 y23 z :=
 ⟨h.s,h.d,h.g,h.r,h.f0,h.f1,h.f2,h.f3,h.f4,h.f5,h.f6,h.f7,h.f8,h.f9,h.f10,h.f11,h.f12,h.f13,h.f14,h.f15,h.f16,fun _=>hv,h.f18,h.f19,h.f20⟩
theorem CfF.p18 (h:CfF w B sl n l0 l1 l2 l3 l4 l5 l6 l7 l8 l9 l10 l11 l12 l13 l14 l15 l16 l17 l18 l19 l20 l21 y3 y4 y5 y6 y7 y8 y9 y10 y11 y12 y13 y14 y15 y16 y17 y18 y19 y20 y21 y22 y23 z) {v:Value} (hv:∃ b,v=.bool b):CfF w B sl n l0 l1 l2 l3 l4 l5 l6 l7 l8 l9 l10 l11 l12 l13 l14 l15 l16 l17 true l19 l20 l21 y3 y4 y5 y6 y7 y8 y9 y10 y11 y12 y13 y14 y15 y16 y17 y18 y19 y20 y21 v y23 z :=
 ⟨h.s,h.d,h.g,h.r,h.f0,h.f1,h.f2,h.f3,h.f4,h.f5,h.f6,h.f7,h.f8,h.f9,h.f10,h.f11,h.f12,h.f13,h.f14,h.f15,h.f16,h.f17,fun _=>hv,h.f19,h.f20⟩
theorem CfF.p19 (h:CfF w B sl n l0 l1 l2 l3 l4 l5 l6 l7 l8 l9 l10 l11 l12 l13 l14 l15 l16 l17 l18 l19 l20 l21 y3 y4 y5 y6 y7 y8 y9 y10 y11 y12 y13 y14 y15 y16 y17 y18 y19 y20 y21 y22 y23 z) {v:Value} (hv:∃ m a g p c d,v=.agg #[.int .i64 m,.int .i64 a,.int .i64 g,.bool p,.bool c,.bool d]):CfF w B sl n l0 l1 l2 l3 l4 l5 l6 l7 l8 l9 l10 l11 l12 l13 l14 l15 l16 l17 l18 true l20 l21 y3 y4 y5 y6 y7 y8 y9 y10 y11 y12 y13 y14 y15 y16 y17 y18 y19 y20 y21 y22 v z :=
 ⟨h.s,h.d,h.g,h.r,h.f0,h.f1,h.f2,h.f3,h.f4,h.f5,h.f6,h.f7,h.f8,h.f9,h.f10,h.f11,h.f12,h.f13,h.f14,h.f15,h.f16,h.f17,h.f18,fun _=>hv,h.f20⟩
theorem CfF.p20 (h:CfF w B sl n l0 l1 l2 l3 l4 l5 l6 l7 l8 l9 l10 l11 l12 l13 l14 l15 l16 l17 l18 l19 l20 l21 y3 y4 y5 y6 y7 y8 y9 y10 y11 y12 y13 y14 y15 y16 y17 y18 y19 y20 y21 y22 y23 z) {v:Value} (hv:∃ (h:Nat) (m a g:Int) (p c d:Bool),v=.pointer (some ⟨h,0,none⟩)∧z.heap[h]?=some (.cells #[.int .i64 m,.int .i64 a,.int .i64 g,.bool p,.bool c,.bool d] 24)∧h≠B∧w.heap.size<h):CfF w B sl n l0 l1 l2 l3 l4 l5 l6 l7 l8 l9 l10 l11 l12 l13 l14 l15 l16 l17 l18 l19 true l21 v y4 y5 y6 y7 y8 y9 y10 y11 y12 y13 y14 y15 y16 y17 y18 y19 y20 y21 y22 y23 z :=
 ⟨h.s,h.d,h.g,h.r,h.f0,h.f1,h.f2,h.f3,h.f4,h.f5,h.f6,h.f7,h.f8,h.f9,h.f10,h.f11,h.f12,h.f13,h.f14,h.f15,h.f16,h.f17,h.f18,h.f19,fun _=>hv⟩
end
theorem noF {p:Prop}:false=true→p:=fun e=>Bool.noConfusion e
theorem row6c {w:World} {B:Nat} {x0 x1 x2 x3 x4 x5:Value} {T:TypeId} (h:w.heap[B]?=some (.cells #[x0,x1,x2,x3,x4,x5] T)) :
  w.cell? ⟨B,0,none⟩=some x0∧w.cell? ⟨B,1,none⟩=some x1∧w.cell? ⟨B,2,none⟩=some x2∧w.cell? ⟨B,3,none⟩=some x3∧w.cell? ⟨B,4,none⟩=some x4∧w.cell? ⟨B,5,none⟩=some x5 :=
 ⟨by rw [cr h];rfl,by rw [cr h];rfl,by rw [cr h];rfl,by rw [cr h];rfl,by rw [cr h];rfl,by rw [cr h];rfl⟩
theorem frz6c {w:World} {B:Nat} {cs:Array Value} {T:TypeId} (h:w.heap[B]?=some (.cells cs T)) :
  w.frozen? ⟨B,0,none⟩=false∧w.frozen? ⟨B,1,none⟩=false∧w.frozen? ⟨B,2,none⟩=false∧w.frozen? ⟨B,3,none⟩=false∧w.frozen? ⟨B,4,none⟩=false∧w.frozen? ⟨B,5,none⟩=false :=
 ⟨by simp [World.frozen?,h],by simp [World.frozen?,h],by simp [World.frozen?,h],by simp [World.frozen?,h],by simp [World.frozen?,h],by simp [World.frozen?,h]⟩
theorem ne_ty {z:World} {g h:Nat} {c d:Array Value} {T U:TypeId} (h1:z.heap[g]?=some (.cells c T)) (h2:z.heap[h]?=some (.cells d U)) (hT:T≠U):g≠h:=fun e=>by
 rw [e,h2] at h1;injection h1 with h1;injection h1 with _ h1;exact hT h1.symm
theorem set6h {z:World} {h9:Nat} {x0 x1 x2 x3 x4 x5:Value} {T:TypeId} (e3:z.heap[h9]?=some (.cells #[x0,x1,x2,x3,x4,x5] T)) (m a g:Int) (p c d:Bool):((((((z.setCell ⟨h9,0,none⟩ (.int .i64 m)).setCell ⟨h9,1,none⟩ (.int .i64 a)).setCell ⟨h9,2,none⟩ (.int .i64 g)).setCell ⟨h9,3,none⟩ (.bool p)).setCell ⟨h9,4,none⟩ (.bool c)).setCell ⟨h9,5,none⟩ (.bool d)).heap[h9]?=some (.cells #[.int .i64 m,.int .i64 a,.int .i64 g,.bool p,.bool c,.bool d] T)∧Touch h9 z ((((((z.setCell ⟨h9,0,none⟩ (.int .i64 m)).setCell ⟨h9,1,none⟩ (.int .i64 a)).setCell ⟨h9,2,none⟩ (.int .i64 g)).setCell ⟨h9,3,none⟩ (.bool p)).setCell ⟨h9,4,none⟩ (.bool c)).setCell ⟨h9,5,none⟩ (.bool d)) :=
 ⟨heap_setCell_same _ _ 5 _ _ _ (heap_setCell_same _ _ 4 _ _ _ (heap_setCell_same _ _ 3 _ _ _ (heap_setCell_same _ _ 2 _ _ _ (heap_setCell_same _ _ 1 _ _ _ (heap_setCell_same _ _ 0 _ _ _ e3))))),((((((Touch.refl _ _).setCell 0 _).setCell 1 _).setCell 2 _).setCell 3 _).setCell 4 _).setCell 5 _⟩
theorem CfF.store {w:World} {B:Nat} {sl:Value} {n:Nat} {l0 l1 l2 l3 l4 l5 l6 l7 l8 l9 l10 l11 l12 l13 l14 l15 l16 l17 l18 l19 l20 l21:Bool} {y3 y4 y5 y6 y7 y8 y9 y10 y11 y12 y13 y14 y15 y16 y17 y18 y19 y20 y21 y22 y23:Value} {z:World} (h:CfF w B sl n l0 l1 l2 l3 l4 l5 l6 l7 l8 l9 l10 l11 l12 l13 l14 l15 l16 l17 l18 l19 l20 l21 y3 y4 y5 y6 y7 y8 y9 y10 y11 y12 y13 y14 y15 y16 y17 y18 y19 y20 y21 y22 y23 z) (hB:B<w.heap.size) {h9:Nat} {x0 x1 x2 x3 x4 x5:Value} (e2:y3=.pointer (some ⟨h9,0,none⟩)) (e3:z.heap[h9]?=some (.cells #[x0,x1,x2,x3,x4,x5] 24)) (e4:h9≠B) (e5:w.heap.size<h9) (m a g:Int) (p c d:Bool) :
  CfF w B sl n l0 l1 l2 l3 l4 l5 l6 l7 l8 l9 l10 l11 l12 l13 l14 l15 l16 l17 l18 l19 l20 true y3 y4 y5 y6 y7 y8 y9 y10 y11 y12 y13 y14 y15 y16 y17 y18 y19 y20 y21 y22 y23 ((((((z.setCell ⟨h9,0,none⟩ (.int .i64 m)).setCell ⟨h9,1,none⟩ (.int .i64 a)).setCell ⟨h9,2,none⟩ (.int .i64 g)).setCell ⟨h9,3,none⟩ (.bool p)).setCell ⟨h9,4,none⟩ (.bool c)).setCell ⟨h9,5,none⟩ (.bool d)):=by
 obtain ⟨k1,k2⟩:=set6h e3 m a g p c d;generalize ((((((z.setCell ⟨h9,0,none⟩ (.int .i64 m)).setCell ⟨h9,1,none⟩ (.int .i64 a)).setCell ⟨h9,2,none⟩ (.int .i64 g)).setCell ⟨h9,3,none⟩ (.bool p)).setCell ⟨h9,4,none⟩ (.bool c)).setCell ⟨h9,5,none⟩ (.bool d))=z' at k1 k2;have hA:∀ (g:Nat) (cs:Array Value),z.heap[g]?=some (.cells cs 2)→z'.heap[g]?=some (.cells cs 2):=fun g cs e=>(k2.block g (ne_ty e e3 (by decide))).trans e
 refine ⟨h.s.same (k2.block B (Ne.symm e4)),h.d.below (k2.below.mono (by omega)),?_,(k2.block _ (by omega)).trans h.r,fun e=>let ⟨g,e1,e2,e3⟩:=h.f0 e;⟨g,e1,hA g _ e2,e3⟩,h.f1,h.f2,fun e=>let ⟨g,r,e1,e2,e3,e4⟩:=h.f3 e;⟨g,r,e1,hA g _ e2,e3,e4⟩,h.f4,fun e=>let ⟨g,e1,e2,e3⟩:=h.f5 e;⟨g,e1,hA g _ e2,e3⟩,h.f6,h.f7,fun e=>let ⟨g,r,e1,e2,e3,e4⟩:=h.f8 e;⟨g,r,e1,hA g _ e2,e3,e4⟩,h.f9,h.f10,h.f11,h.f12,h.f13,h.f14,h.f15,h.f16,h.f17,h.f18,h.f19,fun e=>⟨h9,_,_,_,_,_,_,e2,k1,e4,e5⟩⟩;exact ⟨k2.os.trans h.g.os,k2.tape.trans h.g.tape,k2.output.trans h.g.output,Nat.le_trans h.g.size (Nat.le_of_eq k2.size.symm),fun b hb hne=>(k2.block b (by omega)).trans (h.g.block b hb hne)⟩
structure Cst (w W:World) (B:Nat) (sl:Value) (n E:Nat) (m a g:Int) (p c d:Bool):Prop where
 r:W.heap[w.heap.size]?=some (.cells #[.int .i64 0,.int .i64 0,.int .i64 0,.bool false,.bool false,.bool false] 24)
 x:W.heap[E]?=some (.cells #[.int .i64 m,.int .i64 a,.int .i64 g,.bool p,.bool c,.bool d] 24)
 s:Src W B sl n
 g:Nigh B w W
section
variable {w W:World} {B:Nat} {sl:Value} {n E:Nat} {m a g:Int} {p c d:Bool}
theorem Cst.step (h:Cst w W B sl n E m a g p c d) {W':World} (hn:Nigh B W W') (hs:Src W' B sl n) (h2:E≠B) (hB:B<w.heap.size):Cst w W' B sl n E m a g p c d :=
 ⟨(hn.block _ (lt_of_row h.r) (by omega)).trans h.r,(hn.block E (lt_of_row h.x) h2).trans h.x,hs,h.g.trans hn⟩
theorem Cst.set0 (h:Cst w W B sl n E m a g p c d) (y:Int) (h2:E≠B) (h3:w.heap.size<E):Cst w (W.setCell ⟨E,0,none⟩ (.int .i64 y)) B sl n E y a g p c d :=
 ⟨(Below.heap_setCell _ ⟨E,0,none⟩ _ _ (by simp;omega)).trans h.r,by rw [heap_setCell_same _ _ 0 _ _ _ h.x];rfl,h.s.same (Below.heap_setCell _ ⟨E,0,none⟩ _ B (Ne.symm h2)),h.g.setCell ⟨E,0,none⟩ _ (by simp;omega)⟩
theorem Cst.set1 (h:Cst w W B sl n E m a g p c d) (y:Int) (h2:E≠B) (h3:w.heap.size<E):Cst w (W.setCell ⟨E,1,none⟩ (.int .i64 y)) B sl n E m y g p c d :=
 ⟨(Below.heap_setCell _ ⟨E,1,none⟩ _ _ (by simp;omega)).trans h.r,by rw [heap_setCell_same _ _ 1 _ _ _ h.x];rfl,h.s.same (Below.heap_setCell _ ⟨E,1,none⟩ _ B (Ne.symm h2)),h.g.setCell ⟨E,1,none⟩ _ (by simp;omega)⟩
theorem Cst.set2 (h:Cst w W B sl n E m a g p c d) (y:Int) (h2:E≠B) (h3:w.heap.size<E):Cst w (W.setCell ⟨E,2,none⟩ (.int .i64 y)) B sl n E m a y p c d :=
 ⟨(Below.heap_setCell _ ⟨E,2,none⟩ _ _ (by simp;omega)).trans h.r,by rw [heap_setCell_same _ _ 2 _ _ _ h.x];rfl,h.s.same (Below.heap_setCell _ ⟨E,2,none⟩ _ B (Ne.symm h2)),h.g.setCell ⟨E,2,none⟩ _ (by simp;omega)⟩
theorem infoCf6:(prog.info? 24).map (·.size)=some 6:=by kernel_rfl
structure Calls9 (w W:World) (B:Nat) (sl:Value) (n:Nat) (m a g:Int) (p c d:Bool):Prop where
 s:Src ((((((W.setCell ⟨w.heap.size,0,none⟩ (.int .i64 m)).setCell ⟨w.heap.size,1,none⟩ (.int .i64 a)).setCell ⟨w.heap.size,2,none⟩ (.int .i64 g)).setCell ⟨w.heap.size,3,none⟩ (.bool p)).setCell ⟨w.heap.size,4,none⟩ (.bool c)).setCell ⟨w.heap.size,5,none⟩ (.bool d)) B sl n
 ng:Nigh B w ((((((W.setCell ⟨w.heap.size,0,none⟩ (.int .i64 m)).setCell ⟨w.heap.size,1,none⟩ (.int .i64 a)).setCell ⟨w.heap.size,2,none⟩ (.int .i64 g)).setCell ⟨w.heap.size,3,none⟩ (.bool p)).setCell ⟨w.heap.size,4,none⟩ (.bool c)).setCell ⟨w.heap.size,5,none⟩ (.bool d))
 l:(loadVar 24 ⟨w.heap.size,0,none⟩).run prog ((((((W.setCell ⟨w.heap.size,0,none⟩ (.int .i64 m)).setCell ⟨w.heap.size,1,none⟩ (.int .i64 a)).setCell ⟨w.heap.size,2,none⟩ (.int .i64 g)).setCell ⟨w.heap.size,3,none⟩ (.bool p)).setCell ⟨w.heap.size,4,none⟩ (.bool c)).setCell ⟨w.heap.size,5,none⟩ (.bool d))=.ok (.agg #[.int .i64 m,.int .i64 a,.int .i64 g,.bool p,.bool c,.bool d]) ((((((W.setCell ⟨w.heap.size,0,none⟩ (.int .i64 m)).setCell ⟨w.heap.size,1,none⟩ (.int .i64 a)).setCell ⟨w.heap.size,2,none⟩ (.int .i64 g)).setCell ⟨w.heap.size,3,none⟩ (.bool p)).setCell ⟨w.heap.size,4,none⟩ (.bool c)).setCell ⟨w.heap.size,5,none⟩ (.bool d))
theorem Cst.fin (h:Cst w W B sl n E m a g p c d) (hB:B<w.heap.size):Calls9 w W B sl n m a g p c d:=by
 obtain ⟨k1,k2⟩:=set6h h.r m a g p c d;refine ⟨h.s.same (k2.block B (by omega)),⟨k2.os.trans h.g.os,k2.tape.trans h.g.tape,k2.output.trans h.g.output,Nat.le_trans h.g.size (Nat.le_of_eq k2.size.symm),fun b hb hne=>(k2.block b (by omega)).trans (h.g.block b hb hne)⟩,?_⟩;exact run_loadVar_row (P:=prog) _ _ 24 24 #[.int .i64 m,.int .i64 a,.int .i64 g,.bool p,.bool c,.bool d] (0,0) _ k1 underlying24 rfl infoCf6
end
theorem src_config (w:World) (B:Nat) (sl:Value) (n:Nat) (hn:n≤maxLen) (hS:Src w B sl n) (hD:Dat w B sl n) :
  Calls prog 66 #[.pointer (some ⟨B,0,none⟩)] w fun e w'=>∃ (m a g:Int) (p c d:Bool),e=.returned (.agg #[.int .i64 m,.int .i64 a,.int .i64 g,.bool p,.bool c,.bool d])∧Src w' B sl n∧Nigh B w w':=by
 have hB:=hS.lt;have HD:=hide hD;have n0:Nigh B w (w.alloc (.cells #[.int .i64 0,.int .i64 0,.int .i64 0,.bool false,.bool false,.bool false] 24)):=(Nigh.refl _ _).alloc _;have F0:CfF w B sl n false false false false false false false false false false false false false false false false false false false false false false undef undef undef undef undef undef undef undef undef undef undef undef undef undef undef undef undef undef undef undef undef (w.alloc (.cells #[.int .i64 0,.int .i64 0,.int .i64 0,.bool false,.bool false,.bool false] 24)).drew :=
  ⟨(hS.same (Below.heap_alloc _ _ _ hB):Src (w.alloc _) B sl n).same rfl,(hD.below (n0.below (Nat.le_of_lt hB))).below ((Below.refl _ _).drew),n0.trans ((Nigh.of_below ((Below.refl _ _).drew))),heap_alloc_new w _,noF,noF,noF,noF,noF,noF,noF,noF,noF,noF,noF,noF,noF,noF,noF,noF,noF,noF,noF,noF,noF⟩
 have H0:=hide F0;clear hS hD F0 n0;go_enter func66,ntmps66
 go_wp2_with fail
 go_cut [3] (fun y W=>∃ (h9:Nat) (m a g:Int) (p c d:Bool),y=.pointer (some ⟨h9,0,none⟩)∧W.heap[h9]?=some (.cells #[.int .i64 m,.int .i64 a,.int .i64 g,.bool p,.bool c,.bool d] 24)∧h9≠B∧w.heap.size<h9∧W.heap[w.heap.size]?=some (.cells #[.int .i64 0,.int .i64 0,.int .i64 0,.bool false,.bool false,.bool false] 24)∧Src W B sl n∧Nigh B w W)
 case first =>
  refine wp_region_inv (I:=CfI w B sl n) (by kernel_rfl) ⟨false,false,false,false,false,false,false,false,false,false,false,false,false,false,false,false,false,false,false,false,false,false,undef,undef,undef,undef,undef,undef,undef,undef,undef,undef,undef,undef,undef,undef,undef,undef,undef,undef,undef,undef,undef,rfl,rfl,uh H0⟩ ?_ (by kernel_rfl) ?_
  ·rintro L a z ⟨l0,l1,l2,l3,l4,l5,l6,l7,l8,l9,l10,l11,l12,l13,l14,l15,l16,l17,l18,l19,l20,l21,y3,y4,y5,y6,y7,y8,y9,y10,y11,y12,y13,y14,y15,y16,y17,y18,y19,y20,y21,y22,y23,rfl,rfl,F⟩ hc;have W9:l20=true:=by
    cases l20
    ·exact absurd (by simp) (List.count_eq_zero.1 hc)
    ·rfl
   obtain ⟨h9,m,a,g,p,c,d,e1,e2,e3,e4⟩:=F.f20 W9;have H9:=hide F;subst e1;go_wp2_with fail
   go_meet;exact ⟨h9,m,a,g,p,c,d,rfl,e2,e3,e4,(uh H9).r,(uh H9).s,(uh H9).g⟩
  ·rintro L a z i ⟨l0,l1,l2,l3,l4,l5,l6,l7,l8,l9,l10,l11,l12,l13,l14,l15,l16,l17,l18,l19,l20,l21,y3,y4,y5,y6,y7,y8,y9,y10,y11,y12,y13,y14,y15,y16,y17,y18,y19,y20,y21,y22,y23,rfl,rfl,F⟩ hi _ hw;match i,hi,hw with
   | 0,_,hw =>
    refine wpOp_step rfl fun K hK=>?_
    go_simp;exact hK _ _ ⟨true,l1,l2,l3,l4,l5,l6,l7,l8,l9,l10,l11,l12,l13,l14,l15,l16,l17,l18,l19,l20,l21,_,_,_,_,_,_,_,_,_,_,_,_,_,_,_,_,_,_,_,_,_,rfl,rfl,(F.step ((Nigh.refl _ _).alloc _) (F.s.same (Below.heap_alloc _ _ _ F.s.lt)) hB).p0 ⟨_,rfl,heap_alloc_new z _,by have:=F.s.lt;omega⟩⟩
   | 1,_,hw =>
    refine wpOp_step rfl fun K hK=>?_
    go_simp;exact hK _ _ ⟨l0,true,l2,l3,l4,l5,l6,l7,l8,l9,l10,l11,l12,l13,l14,l15,l16,l17,l18,l19,l20,l21,_,_,_,_,_,_,_,_,_,_,_,_,_,_,_,_,_,_,_,_,_,rfl,rfl,F.p1 rfl⟩
   | 2,_,hw =>
    simp [waits,Region.binds] at hw;have W9:l1=true:=by simp [hw]
    refine wpOp_step rfl fun K hK=>?_
    have e1:=F.f1 W9;subst e1;go_simp;refine (src_n z B sl n 4 (by decide) hn F.s F.d).mono ?_;rintro e z1 ⟨r,rfl,hr,hS1,ht1⟩;exact hK _ _ ⟨l0,l1,true,l3,l4,l5,l6,l7,l8,l9,l10,l11,l12,l13,l14,l15,l16,l17,l18,l19,l20,l21,_,_,_,_,_,_,_,_,_,_,_,_,_,_,_,_,_,_,_,_,_,rfl,rfl,(F.step (Nigh.of_touch ht1) hS1 hB).p2 ⟨r,rfl,by omega⟩⟩
   | 3,_,hw =>
    simp [waits,Region.binds] at hw;have WA3:l0=true:=by simp [hw]
    have WB3:l2=true:=by simp [hw]
    refine wpOp_step rfl fun K hK=>?_
    obtain ⟨g,e1,e2,e3⟩:=F.f0 WA3;obtain ⟨r,e4,e5⟩:=F.f2 WB3;subst e1 e4;have e6:(r:Int)<4:=by omega
    go_simp;exact hK _ _ ⟨l0,l1,l2,true,l4,l5,l6,l7,l8,l9,l10,l11,l12,l13,l14,l15,l16,l17,l18,l19,l20,l21,_,_,_,_,_,_,_,_,_,_,_,_,_,_,_,_,_,_,_,_,_,rfl,rfl,F.p3 ⟨g,r,by first | rfl | simp,e2,e3,e5⟩⟩
   | 4,_,hw =>
    simp [waits,Region.binds] at hw;have WA4:l3=true:=by simp [hw]
    refine wpOp_step rfl fun K hK=>?_
    obtain ⟨g,r,e1,e2,e3,e4⟩:=F.f3 WA4;subst e1;obtain ⟨x,hx,_,_⟩:=lit_cell e2 (by decide) r (by simpa using e4);go_simp;exact hK _ _ ⟨l0,l1,l2,l3,true,l5,l6,l7,l8,l9,l10,l11,l12,l13,l14,l15,l16,l17,l18,l19,l20,l21,_,_,_,_,_,_,_,_,_,_,_,_,_,_,_,_,_,_,_,_,_,rfl,rfl,F.p4 ⟨x,rfl⟩⟩
   | 5,_,hw =>
    refine wpOp_step rfl fun K hK=>?_
    go_simp;exact hK _ _ ⟨l0,l1,l2,l3,l4,true,l6,l7,l8,l9,l10,l11,l12,l13,l14,l15,l16,l17,l18,l19,l20,l21,_,_,_,_,_,_,_,_,_,_,_,_,_,_,_,_,_,_,_,_,_,rfl,rfl,(F.step ((Nigh.refl _ _).alloc _) (F.s.same (Below.heap_alloc _ _ _ F.s.lt)) hB).p5 ⟨_,rfl,heap_alloc_new z _,by have:=F.s.lt;omega⟩⟩
   | 6,_,hw =>
    refine wpOp_step rfl fun K hK=>?_
    go_simp;exact hK _ _ ⟨l0,l1,l2,l3,l4,l5,true,l7,l8,l9,l10,l11,l12,l13,l14,l15,l16,l17,l18,l19,l20,l21,_,_,_,_,_,_,_,_,_,_,_,_,_,_,_,_,_,_,_,_,_,rfl,rfl,F.p6 rfl⟩
   | 7,_,hw =>
    simp [waits,Region.binds] at hw;have W9:l6=true:=by simp [hw]
    refine wpOp_step rfl fun K hK=>?_
    have e1:=F.f6 W9;subst e1;go_simp;refine (src_n z B sl n 3 (by decide) hn F.s F.d).mono ?_;rintro e z1 ⟨r,rfl,hr,hS1,ht1⟩;exact hK _ _ ⟨l0,l1,l2,l3,l4,l5,l6,true,l8,l9,l10,l11,l12,l13,l14,l15,l16,l17,l18,l19,l20,l21,_,_,_,_,_,_,_,_,_,_,_,_,_,_,_,_,_,_,_,_,_,rfl,rfl,(F.step (Nigh.of_touch ht1) hS1 hB).p7 ⟨r,rfl,by omega⟩⟩
   | 8,_,hw =>
    simp [waits,Region.binds] at hw;have WA8:l5=true:=by simp [hw]
    have WB8:l7=true:=by simp [hw]
    refine wpOp_step rfl fun K hK=>?_
    obtain ⟨g,e1,e2,e3⟩:=F.f5 WA8;obtain ⟨r,e4,e5⟩:=F.f7 WB8;subst e1 e4;have e6:(r:Int)<3:=by omega
    go_simp;exact hK _ _ ⟨l0,l1,l2,l3,l4,l5,l6,l7,true,l9,l10,l11,l12,l13,l14,l15,l16,l17,l18,l19,l20,l21,_,_,_,_,_,_,_,_,_,_,_,_,_,_,_,_,_,_,_,_,_,rfl,rfl,F.p8 ⟨g,r,by first | rfl | simp,e2,e3,e5⟩⟩
   | 9,_,hw =>
    simp [waits,Region.binds] at hw;have WA9:l8=true:=by simp [hw]
    refine wpOp_step rfl fun K hK=>?_
    obtain ⟨g,r,e1,e2,e3,e4⟩:=F.f8 WA9;subst e1;obtain ⟨x,hx,_,_⟩:=lit_cell e2 (by decide) r (by simpa using e4);go_simp;exact hK _ _ ⟨l0,l1,l2,l3,l4,l5,l6,l7,l8,true,l10,l11,l12,l13,l14,l15,l16,l17,l18,l19,l20,l21,_,_,_,_,_,_,_,_,_,_,_,_,_,_,_,_,_,_,_,_,_,rfl,rfl,F.p9 ⟨x,rfl⟩⟩
   | 10,_,hw =>
    refine wpOp_step rfl fun K hK=>?_
    go_simp;exact hK _ _ ⟨l0,l1,l2,l3,l4,l5,l6,l7,l8,l9,true,l11,l12,l13,l14,l15,l16,l17,l18,l19,l20,l21,_,_,_,_,_,_,_,_,_,_,_,_,_,_,_,_,_,_,_,_,_,rfl,rfl,F.p10 rfl⟩
   | 11,_,hw =>
    simp [waits,Region.binds] at hw;have W9:l10=true:=by simp [hw]
    refine wpOp_step rfl fun K hK=>?_
    have e1:=F.f10 W9;subst e1;go_simp;refine (src_n z B sl n 4 (by decide) hn F.s F.d).mono ?_;rintro e z1 ⟨r,rfl,hr,hS1,ht1⟩;exact hK _ _ ⟨l0,l1,l2,l3,l4,l5,l6,l7,l8,l9,l10,true,l12,l13,l14,l15,l16,l17,l18,l19,l20,l21,_,_,_,_,_,_,_,_,_,_,_,_,_,_,_,_,_,_,_,_,_,rfl,rfl,(F.step (Nigh.of_touch ht1) hS1 hB).p11 ⟨r,rfl,by omega⟩⟩
   | 12,_,hw =>
    simp [waits,Region.binds] at hw;have WA12:l11=true:=by simp [hw]
    refine wpOp_step rfl fun K hK=>?_
    obtain ⟨r,e1,e2⟩:=F.f11 WA12;subst e1;go_simp;exact hK _ _ ⟨l0,l1,l2,l3,l4,l5,l6,l7,l8,l9,l10,l11,true,l13,l14,l15,l16,l17,l18,l19,l20,l21,_,_,_,_,_,_,_,_,_,_,_,_,_,_,_,_,_,_,_,_,_,rfl,rfl,F.p12 ⟨_,rfl⟩⟩
   | 13,_,hw =>
    refine wpOp_step rfl fun K hK=>?_
    go_simp;exact hK _ _ ⟨l0,l1,l2,l3,l4,l5,l6,l7,l8,l9,l10,l11,l12,true,l14,l15,l16,l17,l18,l19,l20,l21,_,_,_,_,_,_,_,_,_,_,_,_,_,_,_,_,_,_,_,_,_,rfl,rfl,F.p13 rfl⟩
   | 14,_,hw =>
    simp [waits,Region.binds] at hw;have W9:l13=true:=by simp [hw]
    refine wpOp_step rfl fun K hK=>?_
    have e1:=F.f13 W9;subst e1;go_simp;refine (src_one z B sl n 2 (by decide) hn F.s F.d).mono ?_;rintro e z1 ⟨b,rfl,hS1,ht1⟩;exact hK _ _ ⟨l0,l1,l2,l3,l4,l5,l6,l7,l8,l9,l10,l11,l12,l13,true,l15,l16,l17,l18,l19,l20,l21,_,_,_,_,_,_,_,_,_,_,_,_,_,_,_,_,_,_,_,_,_,rfl,rfl,(F.step (Nigh.of_touch ht1) hS1 hB).p14 ⟨b,rfl⟩⟩
   | 15,_,hw =>
    refine wpOp_step rfl fun K hK=>?_
    go_simp;exact hK _ _ ⟨l0,l1,l2,l3,l4,l5,l6,l7,l8,l9,l10,l11,l12,l13,l14,true,l16,l17,l18,l19,l20,l21,_,_,_,_,_,_,_,_,_,_,_,_,_,_,_,_,_,_,_,_,_,rfl,rfl,F.p15 rfl⟩
   | 16,_,hw =>
    simp [waits,Region.binds] at hw;have W9:l15=true:=by simp [hw]
    refine wpOp_step rfl fun K hK=>?_
    have e1:=F.f15 W9;subst e1;go_simp;refine (src_one z B sl n 2 (by decide) hn F.s F.d).mono ?_;rintro e z1 ⟨b,rfl,hS1,ht1⟩;exact hK _ _ ⟨l0,l1,l2,l3,l4,l5,l6,l7,l8,l9,l10,l11,l12,l13,l14,l15,true,l17,l18,l19,l20,l21,_,_,_,_,_,_,_,_,_,_,_,_,_,_,_,_,_,_,_,_,_,rfl,rfl,(F.step (Nigh.of_touch ht1) hS1 hB).p16 ⟨b,rfl⟩⟩
   | 17,_,hw =>
    refine wpOp_step rfl fun K hK=>?_
    go_simp;exact hK _ _ ⟨l0,l1,l2,l3,l4,l5,l6,l7,l8,l9,l10,l11,l12,l13,l14,l15,l16,true,l18,l19,l20,l21,_,_,_,_,_,_,_,_,_,_,_,_,_,_,_,_,_,_,_,_,_,rfl,rfl,F.p17 rfl⟩
   | 18,_,hw =>
    simp [waits,Region.binds] at hw;have W9:l17=true:=by simp [hw]
    refine wpOp_step rfl fun K hK=>?_
    have e1:=F.f17 W9;subst e1;go_simp;refine (src_one z B sl n 2 (by decide) hn F.s F.d).mono ?_;rintro e z1 ⟨b,rfl,hS1,ht1⟩;exact hK _ _ ⟨l0,l1,l2,l3,l4,l5,l6,l7,l8,l9,l10,l11,l12,l13,l14,l15,l16,l17,true,l19,l20,l21,_,_,_,_,_,_,_,_,_,_,_,_,_,_,_,_,_,_,_,_,_,rfl,rfl,(F.step (Nigh.of_touch ht1) hS1 hB).p18 ⟨b,rfl⟩⟩
   | 19,_,hw =>
    simp [waits,Region.binds] at hw;have WA19_4:l4=true:=by simp [hw]
    have WA19_9:l9=true:=by simp [hw]
    have WA19_12:l12=true:=by simp [hw]
    have WA19_14:l14=true:=by simp [hw]
    have WA19_16:l16=true:=by simp [hw]
    have WA19_18:l18=true:=by simp [hw]
    refine wpOp_step rfl fun K hK=>?_
    obtain ⟨x1,e4⟩:=F.f4 WA19_4;obtain ⟨x2,e9⟩:=F.f9 WA19_9;obtain ⟨x3,e12⟩:=F.f12 WA19_12;obtain ⟨b1,e14⟩:=F.f14 WA19_14;obtain ⟨b2,e16⟩:=F.f16 WA19_16;obtain ⟨b3,e18⟩:=F.f18 WA19_18;subst e4 e9 e12 e14 e16 e18;go_simp;exact hK _ _ ⟨l0,l1,l2,l3,l4,l5,l6,l7,l8,l9,l10,l11,l12,l13,l14,l15,l16,l17,l18,true,l20,l21,_,_,_,_,_,_,_,_,_,_,_,_,_,_,_,_,_,_,_,_,_,rfl,rfl,F.p19 ⟨_,_,_,_,_,_,rfl⟩⟩
   | 20,_,hw =>
    refine wpOp_step rfl fun K hK=>?_
    go_simp;exact hK _ _ ⟨l0,l1,l2,l3,l4,l5,l6,l7,l8,l9,l10,l11,l12,l13,l14,l15,l16,l17,l18,l19,true,l21,_,_,_,_,_,_,_,_,_,_,_,_,_,_,_,_,_,_,_,_,_,rfl,rfl,(F.step ((Nigh.refl _ _).alloc _) (F.s.same (Below.heap_alloc _ _ _ F.s.lt)) hB).p20 ⟨_,_,_,_,_,_,_,rfl,heap_alloc_new z _,by have:=F.s.lt;omega,lt_of_row F.r⟩⟩
   | 21,_,hw =>
    simp [waits,Region.binds] at hw;have WA21_19:l19=true:=by simp [hw]
    have WA21_20:l20=true:=by simp [hw]
    refine wpOp_step rfl fun K hK=>?_
    obtain ⟨m,a,g,p,c,d,e1⟩:=F.f19 WA21_19;obtain ⟨h9,m1,a1,g1,p1,c1,d1,e2,e3,e4,e5⟩:=F.f20 WA21_20;subst e1;obtain ⟨q0,q1,q2,q3,q4,q5⟩:=row6c e3;obtain ⟨z0,z1,z2,z3,z4,z5⟩:=frz6c e3;have P6:=hide (CfF.store F hB e2 e3 e4 e5 m a g p c d);clear e3;subst e2;go_simp;exact hK _ _ ⟨l0,l1,l2,l3,l4,l5,l6,l7,l8,l9,l10,l11,l12,l13,l14,l15,l16,l17,l18,l19,l20,true,_,_,_,_,_,_,_,_,_,_,_,_,_,_,_,_,_,_,_,_,_,rfl,rfl,uh P6⟩
   | k+22,hi,_=>exact absurd hi (by simp)
 case rest =>
  obtain ⟨E,m,a,g,p,c,d,rfl,q1,q2,q3,q4,q5,q6⟩:=hcut;rename World=>w1
  have H1:Hid (Cst w w1 B sl n E m a g p c d):=hide ⟨q4,q1,q5,q6⟩;clear q1 q4 q5 q6 H0;have DB:Hid (∀ W,Nigh B w W→Dat W B sl n):=hide fun W h=>(uh HD).below (h.below (by omega))
  have FIN:Hid (∀ (W:World) (m a g:Int) (p c d:Bool),Cst w W B sl n E m a g p c d→Calls9 w W B sl n m a g p c d):=hide fun W m a g p c d h=>Cst.fin h hB
  have nER:¬ (E=w.heap.size):=by omega
  have nRE:¬ (w.heap.size=E):=by omega
  go_wp2_with fail
  refine (src_one w1 B sl n 20 (by decide) hn (uh H1).s (uh DB _ (uh H1).g)).mono ?_;rintro e w5 ⟨b5,rfl,hS5,ht5⟩;have hX:=(uh H1).step (Nigh.of_touch ht5) hS5 q2 hB;clear hS5 ht5 H1;cases b5
  ·obtain ⟨x0,x1,x2,x3,x4,x5⟩:=row6c hX.x;obtain ⟨y0,y1,y2,y3,y4,y5⟩:=row6c hX.r;obtain ⟨f0,f1,f2,f3,f4,f5⟩:=frz6c hX.r;have HF:=hide (uh FIN _ _ _ _ _ _ _ hX);clear FIN hX;go_wp2
   refine bodyPost_ret (v:=.agg #[.int .i64 _,.int .i64 _,.int .i64 _,.bool _,.bool _,.bool _]) (by simp [results,results66,asAddr,(uh HF).l];first | exact ⟨rfl,rfl,rfl,rfl,rfl,rfl⟩ | rfl) rfl ⟨_,_,_,_,_,_,rfl,(uh HF).s,(uh HF).ng⟩
  ·have HX:=hide hX;clear hX;go_wp2_with fail
   refine (src_n w5 B sl n 3 (by decide) hn (uh HX).s (uh DB _ (uh HX).g)).mono ?_;rintro e w6 ⟨q,rfl,hq,hS6,ht6⟩;have HX6:=hide ((uh HX).step (Nigh.of_touch ht6) hS6 q2 hB);have hB6:=hS6.lt;clear hS6 ht6 HX hq;by_cases q0:q=0
   ·subst q0;go_wp2_with fail
    have hsq:Src (w6.alloc (.cells #[.int .i64 63,.int .i64 301] 2)) B sl n:=(uh HX6).s.same (Below.heap_alloc _ _ _ hB6);have hnq:Nigh B w (w6.alloc (.cells #[.int .i64 63,.int .i64 301] 2)):=(uh HX6).g.alloc _;refine (src_n _ B sl n 2 (by decide) hn hsq (uh DB _ hnq)).mono ?_;rintro e w7 ⟨r7,rfl,hr7,hS7,ht7⟩;have hr7':r7<2:=by omega
    obtain ⟨y,hy,_,_⟩:=lit_cell ((ht7.block w6.heap.size (by omega)).trans (heap_alloc_new w6 _)) (by decide) r7 (by simpa using hr7');have hX7:=((uh HX6).step ((Nigh.refl _ _).alloc _) hsq q2 hB).step (Nigh.of_touch ht7) hS7 q2 hB;clear hsq hnq hr7 ht7;obtain ⟨x0,x1,x2,x3,x4,x5⟩:=row6c hX7.x;obtain ⟨f0,f1,f2,f3,f4,f5⟩:=frz6c hX7.x;have HX8:=hide (hX7.set0 y q2 q3);clear hX7 hS7 HX6;go_upto_region 9 with fail
    refine gen_world (fun q=>Cst w q B sl n E _ _ _ _ _ _) (uh HX8) ?_;clear x0 x1 x2 x3 x4 x5 f0 f1 f2 f3 f4 f5 HX8;rintro q2 hX;obtain ⟨x0,x1,x2,x3,x4,x5⟩:=row6c hX.x;obtain ⟨y0,y1,y2,y3,y4,y5⟩:=row6c hX.r;obtain ⟨f0,f1,f2,f3,f4,f5⟩:=frz6c hX.r;have HF:=hide (uh FIN _ _ _ _ _ _ _ hX);clear FIN hX;go_wp2
    refine bodyPost_ret (v:=.agg #[.int .i64 _,.int .i64 _,.int .i64 _,.bool _,.bool _,.bool _]) (by simp [results,results66,asAddr,(uh HF).l];first | exact ⟨rfl,rfl,rfl,rfl,rfl,rfl⟩ | rfl) rfl ⟨_,_,_,_,_,_,rfl,(uh HF).s,(uh HF).ng⟩
   ·have e0:((q:Int) == 0)=false:=beq_eq_false_iff_ne.2 (by omega);by_cases q1:q=1
    ·subst q1;go_wp2_with fail
     refine (src_accm_n w6 B sl n hn (uh HX6).s (uh DB _ (uh HX6).g)).mono ?_;rintro e w7 ⟨y,rfl,_,_,hS7,hn7⟩;have hX7:=(uh HX6).step hn7 hS7 q2 hB;obtain ⟨x0,x1,x2,x3,x4,x5⟩:=row6c hX7.x;obtain ⟨f0,f1,f2,f3,f4,f5⟩:=frz6c hX7.x;have HX8:=hide (hX7.set1 y q2 q3);clear hX7 hS7 HX6;go_upto_region 9 with fail
     refine gen_world (fun q=>Cst w q B sl n E _ _ _ _ _ _) (uh HX8) ?_;clear x0 x1 x2 x3 x4 x5 f0 f1 f2 f3 f4 f5 HX8;rintro q2 hX;obtain ⟨x0,x1,x2,x3,x4,x5⟩:=row6c hX.x;obtain ⟨y0,y1,y2,y3,y4,y5⟩:=row6c hX.r;obtain ⟨f0,f1,f2,f3,f4,f5⟩:=frz6c hX.r;have HF:=hide (uh FIN _ _ _ _ _ _ _ hX);clear FIN hX;go_wp2
     refine bodyPost_ret (v:=.agg #[.int .i64 _,.int .i64 _,.int .i64 _,.bool _,.bool _,.bool _]) (by simp [results,results66,asAddr,(uh HF).l];first | exact ⟨rfl,rfl,rfl,rfl,rfl,rfl⟩ | rfl) rfl ⟨_,_,_,_,_,_,rfl,(uh HF).s,(uh HF).ng⟩
    ·have e1:((q:Int) == 1)=false:=beq_eq_false_iff_ne.2 (by omega);go_wp2_with fail
     have hsq:Src (w6.alloc (.cells #[.int .i64 (-1),.int .i64 4294967295,.int .i64 4294967296,.int .i64 4294967219] 2)) B sl n:=(uh HX6).s.same (Below.heap_alloc _ _ _ hB6);have hnq:Nigh B w (w6.alloc (.cells #[.int .i64 (-1),.int .i64 4294967295,.int .i64 4294967296,.int .i64 4294967219] 2)):=(uh HX6).g.alloc _;refine (src_n _ B sl n 4 (by decide) hn hsq (uh DB _ hnq)).mono ?_;rintro e w7 ⟨r7,rfl,hr7,hS7,ht7⟩;have hr7':r7<4:=by omega
     obtain ⟨y,hy,_,_⟩:=lit_cell ((ht7.block w6.heap.size (by omega)).trans (heap_alloc_new w6 _)) (by decide) r7 (by simpa using hr7');have hX7:=((uh HX6).step ((Nigh.refl _ _).alloc _) hsq q2 hB).step (Nigh.of_touch ht7) hS7 q2 hB;clear hsq hnq hr7 ht7;obtain ⟨x0,x1,x2,x3,x4,x5⟩:=row6c hX7.x;obtain ⟨f0,f1,f2,f3,f4,f5⟩:=frz6c hX7.x;have HX8:=hide (hX7.set2 y q2 q3);clear hX7 hS7 HX6;go_upto_region 9 with fail
     refine gen_world (fun q=>Cst w q B sl n E _ _ _ _ _ _) (uh HX8) ?_;clear x0 x1 x2 x3 x4 x5 f0 f1 f2 f3 f4 f5 HX8;rintro q2 hX;obtain ⟨x0,x1,x2,x3,x4,x5⟩:=row6c hX.x;obtain ⟨y0,y1,y2,y3,y4,y5⟩:=row6c hX.r;obtain ⟨f0,f1,f2,f3,f4,f5⟩:=frz6c hX.r;have HF:=hide (uh FIN _ _ _ _ _ _ _ hX);clear FIN hX;go_wp2
     refine bodyPost_ret (v:=.agg #[.int .i64 _,.int .i64 _,.int .i64 _,.bool _,.bool _,.bool _]) (by simp [results,results66,asAddr,(uh HF).l];first | exact ⟨rfl,rfl,rfl,rfl,rfl,rfl⟩ | rfl) rfl ⟨_,_,_,_,_,_,rfl,(uh HF).s,(uh HF).ng⟩
end Go.Proofs.YtahpjlbaagkdoaaGreatDoor
