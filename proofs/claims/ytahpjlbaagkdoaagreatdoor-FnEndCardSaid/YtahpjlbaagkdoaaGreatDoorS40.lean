/- LwOpt LwEn -/
import Derived.Test.YtahpjlbaagkdoaaGreatDoorS06
set_option maxHeartbeats 8000000
set_option maxRecDepth 100000
namespace Go.Proofs.YtahpjlbaagkdoaaGreatDoor
open Go.RowKit Go.Proofs.Tryz
theorem lwO0 (a1 a2:Option Addr) (c1 c2:Nat) (w:World) :
  Calls prog 70 #[.slice a1 0 c1,.slice a2 0 c2] w fun e w'=>e=.returned (.bool true)∧Below w.heap.size w w':=by
 go_enter func70,ntmps70
 go_wp2_with fail
 go_loopw [5] (fun y wr=>y=.int .i64 0∧wr=w) (fun _ _=>0)
 case atStart=>exact ⟨rfl,rfl⟩
 case round =>
  obtain ⟨rfl,rfl⟩:=hrel;go_wp2
  go_ret
  exact ⟨rfl,Below.refl _ _⟩
theorem lwO1 (g1 g2 c1 c2:Nat) (F:List Op.Opt) (cur1 cur2:Array Value) (w:World) (hF:F.length≤2000) (h1:w.heap[g1]?=some (.cells cur1 116)) (h2:w.heap[g2]?=some (.cells cur2 116))
  (a1:∀ j,j<F.length*2→cur1[j]?=(ocells F)[j]?) (a2:∀ j,j<F.length*2→cur2[j]?=(ocells F)[j]?) :
  Calls prog 70 #[.slice (some ⟨g1,0,none⟩) F.length c1,.slice (some ⟨g2,0,none⟩) F.length c2] w fun e w'=>e=.returned (.bool true)∧Below w.heap.size w w':=by
 have hl1:g1<w.heap.size:=(ge.1 h1).1;have hl2:g2<w.heap.size:=(ge.1 h2).1;obtain ⟨n,hn⟩:∃ n,F.length=n:=⟨_,rfl⟩;have HA:Hid (∀ i,i<n→∃ x t,cur1[i*2]?=some (.int .i64 x)∧cur1[i*2+1]?=some (.string t)∧cur2[i*2]?=some (.int .i64 x)∧cur2[i*2+1]?=some (.string t)):=by
  refine hide fun i hi=>?_
  have g:=ocells_get F i (F[i]'(by omega)) (List.getElem?_eq_getElem (by omega));exact ⟨_,_,(a1 _ (by omega)).trans g.1,(a1 _ (by omega)).trans g.2,(a2 _ (by omega)).trans g.1,(a2 _ (by omega)).trans g.2⟩
 rw [hn] at hF ⊢;clear a1 a2 hn;go_enter func70,ntmps70
 go_wp2_with fail
 go_loopw [5] (fun y wr=>∃ (i:Nat),i≤n∧y=.int .i64 i∧Below w.heap.size w wr) (fun y _=>n - (intOf y).toNat)
 case atStart=>exact ⟨0,Nat.zero_le _,rfl,Below.refl _ _⟩
 case round =>
  obtain ⟨i,hi,rfl,hb⟩:=hrel;have hbs:=hb.size;by_cases hlt:i<n
  ·have d1:(i:Int)<(n:Int):=by omega
   obtain ⟨x,t,q1,q2,q3,q4⟩:=uh HA i hlt;have e1:=(hb.block g1 hl1).trans h1;have e2:=(hb.block g2 hl2).trans h2;have k0:wr.cell? ⟨g1,i*2,none⟩=some (.int .i64 x):=by rw [cr e1];exact q1
   have k1:wr.cell? ⟨g1,i*2+1,none⟩=some (.string t):=by rw [cr e1];exact q2
   have k2:wr.cell? ⟨g2,i*2,none⟩=some (.int .i64 x):=by rw [cr e2];exact q3
   have k3:wr.cell? ⟨g2,i*2+1,none⟩=some (.string t):=by rw [cr e2];exact q4
   have HB:Hid (∀ k,Below w.heap.size w (wr.drewN k)):=hide fun k=>⟨hb.os,hb.tape,hb.output,hb.size,hb.block⟩
   clear e1 e2 q1 q2 q3 q4 h1 h2;go_wp2_with fail
   go_quiet (fail)
   go_wp2
   go_roundw
   case rel=>exact ⟨i+1,by omega,by go_num,uh HB _⟩
   case measure=>simp [intOf];omega
  ·have e:i=n:=by omega
   subst e;have d1:¬ ((i:Int)<(i:Int)):=by omega
   go_wp2
   go_ret
   exact ⟨rfl,hb⟩
theorem lwO (v1 v2:Value) (F:List Op.Opt) (w:World) (hF:F.length≤2000) (h1:HoldsO w v1 F) (h2:HoldsO w v2 F) :
  Calls prog 70 #[v1,v2] w fun e w'=>e=.returned (.bool true)∧Below w.heap.size w w':=by
 rcases h1 with ⟨ad1,cp1,rfl,e⟩ | ⟨g1,cp1,cur1,rfl,q1,q2,q3⟩
 ·subst e;rcases h2 with ⟨ad2,cp2,rfl,_⟩ | ⟨g2,cp2,cur2,rfl,_⟩
  ·exact lwO0 _ _ _ _ w
  ·exact lwO0 _ _ _ _ w
 ·rcases h2 with ⟨ad2,cp2,rfl,e⟩ | ⟨g2,cp2,cur2,rfl,r1,r2,r3⟩
  ·subst e;exact lwO0 _ _ _ _ w
  ·exact lwO1 g1 g2 cp1 cp2 F cur1 cur2 w hF q1 r1 q3 r3
def EqC:Prop:=(∀ (m a g:Int) (p c d:Bool) (W:World),(binOp .eql 24 (.agg #[.int .i64 m,.int .i64 a,.int .i64 g,.bool p,.bool c,.bool d]) (.agg #[.int .i64 m,.int .i64 a,.int .i64 g,.bool p,.bool c,.bool d])).run prog W=.ok (.bool true) W) ∧
 ∀ (x y:Operand) (xs ys:Array Value) (W:World),(eqGuard .eql 24 x y (.agg xs) (.agg ys)).run prog W=.ok () W
theorem lwEn_of (e:En) (v1 v2 u1 u2:Value) (F1 F2:List Op.Opt) (w:World) (l1:F1.length≤2000) (l2:F2.length≤2000) (h1:HoldsO w v1 F1) (h2:HoldsO w v2 F2) (h3:HoldsO w u1 F1) (h4:HoldsO w u2 F2) (hL:EqL) (hC:EqC) :
  Calls prog 33 #[.agg (enC e v1 v2),.agg (enC e u1 u2)] w fun r w'=>r=.returned (.bool true)∧Below w.heap.size w w':=by
 have C7:=hide fun W (hb:Below w.heap.size w W)=>lwO v1 u1 F1 W l1 (h1.below hb rfl) (h3.below hb rfl)
 have C8:=hide fun W (hb:Below w.heap.size w W)=>lwO v2 u2 F2 W l2 (h2.below hb rfl) (h4.below hb rfl)
 obtain ⟨x1,y1,rfl⟩:=h1.form;obtain ⟨x2,y2,rfl⟩:=h2.form;obtain ⟨x3,y3,rfl⟩:=h3.form;obtain ⟨x4,y4,rfl⟩:=h4.form;obtain ⟨m1,a1,g1,p1,c1,d1,m2,a2,g2,p2,c2,d2,st,tr,du,id,fl,up,i1,i2,i3,i4,i5,o1,o2,o3,o4,o5⟩:=e;have q1:∀ W,(binOp .eql 27 (.agg #[.int .i64 i1,.int .i64 i2,.bool i3,.bool i4,.bool i5]) (.agg #[.int .i64 i1,.int .i64 i2,.bool i3,.bool i4,.bool i5])).run prog W=.ok (.bool true) W:=fun W=>by rw [hL.1];simp
 have q2:∀ W,(binOp .eql 27 (.agg #[.int .i64 o1,.int .i64 o2,.bool o3,.bool o4,.bool o5]) (.agg #[.int .i64 o1,.int .i64 o2,.bool o3,.bool o4,.bool o5])).run prog W=.ok (.bool true) W:=fun W=>by rw [hL.1];simp
 have q3:=hL.2;have q4:=hC.1 m1 a1 g1 p1 c1 d1;have q5:=hC.1 m2 a2 g2 p2 c2 d2;have q6:=hC.2;clear hL hC h1 h2 h3 h4 l1 l2;generalize F1.length=n1 at *;generalize F2.length=n2 at *;unfold enC;dsimp only;obtain ⟨A,hA⟩:∃ A,(#[.int .i64 m1,.int .i64 a1,.int .i64 g1,.bool p1,.bool c1,.bool d1,.int .i64 m2,.int .i64 a2,.int .i64 g2,.bool p2,.bool c2,.bool d2,.int .i64 st,.int .i64 tr,.int .i64 du,.int .i64 id,.int .i64 fl,.slice x1 n1 y1,.slice x2 n2 y2,.bool up,.int .i64 i1,.int .i64 i2,.bool i3,.bool i4,.bool i5,.int .i64 o1,.int .i64 o2,.bool o3,.bool o4,.bool o5]:Array Value)=A:=⟨_,rfl⟩;obtain ⟨B,hB⟩:∃ B,(#[.int .i64 m1,.int .i64 a1,.int .i64 g1,.bool p1,.bool c1,.bool d1,.int .i64 m2,.int .i64 a2,.int .i64 g2,.bool p2,.bool c2,.bool d2,.int .i64 st,.int .i64 tr,.int .i64 du,.int .i64 id,.int .i64 fl,.slice x3 n1 y3,.slice x4 n2 y4,.bool up,.int .i64 i1,.int .i64 i2,.bool i3,.bool i4,.bool i5,.int .i64 o1,.int .i64 o2,.bool o3,.bool o4,.bool o5]:Array Value)=B:=⟨_,rfl⟩;have HW:Hid (∀ W,Below (w.heap.size+1+1) ((w.alloc (.cells A 29)).alloc (.cells B 29)) W→W.cell? ⟨w.heap.size,18,none⟩=some (.slice x2 n2 y2)∧W.cell? ⟨w.heap.size+1,18,none⟩=some (.slice x4 n2 y4)∧Below w.heap.size w W):=by
  refine hide fun W h=>?_
  have e0:=heap_alloc_new w (.cells A 29);have s1:(w.alloc (.cells A 29)).heap.size=w.heap.size+1:=by simp
  have e1:=heap_alloc_new (w.alloc (.cells A 29)) (.cells B 29);rw [s1] at e1;have e2:((w.alloc (.cells A 29)).alloc (.cells B 29)).heap[w.heap.size]?=some (.cells A 29):=by
   exact (Below.heap_alloc _ _ _ (by rw [s1];omega)).trans e0
  refine ⟨?_,?_,?_⟩
  ·rw [cr ((h.block _ (by omega)).trans e2),← hA];rfl
  ·rw [cr ((h.block _ (by omega)).trans e1),← hB];rfl
  ·exact (((Below.refl _ _).alloc (Nat.le_refl _) _).alloc (by rw [s1];omega) _).trans (h.mono (by omega))
 have HA:=hide hA;have HB:=hide hB;clear hA hB;go_enter func33,ntmps33
 go_wp2_with fail
 rw [uh HA,uh HB];refine (uh C7 _ ((uh HW _ (Below.refl _ _)).2.2)).mono ?_;rintro e w1 ⟨rfl,hb1⟩;have hb2:Below (w.heap.size+1+1) ((w.alloc (.cells A 29)).alloc (.cells B 29)) w1:=hb1.mono (by simp);obtain ⟨k0,k1,hb3⟩:=uh HW _ hb2;have H1:=hide (And.intro hb2 hb3);clear hb1 hb2 hb3;go_wp2_with fail
 refine (uh C8 _ (uh H1).2).mono ?_;rintro e w2 ⟨rfl,hb4⟩;have H2:=hide ((uh H1).2.trans (hb4.mono (uh H1).2.size));clear hb4;go_wp2
 go_ret
 exact ⟨rfl,uh H2⟩
end Go.Proofs.YtahpjlbaagkdoaaGreatDoor
