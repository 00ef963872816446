/- The program takes the first sent frame off a line, and puts one behind it; what lay in memory stands but for the line and its row. Is a numbered frame right: the program's walk and the model's; memory that was there stands. The bytes of a numbered frame: the program's walk and the model's; memory that was there stands. Good, the model's, of a text of at most 8000 bytes; what lay in memory stands. -/
import Derived.Test.YtkcghhkkepndnaaGreatDoorS07
import Derived.Test.YtkcghhkkepndnaaGreatDoorS03
import Derived.Test.YtkcghhkkepndnaaGreatDoorS06
import Derived.Test.YtkcghhkkepndnaaGreatDoorShW
namespace Go.Proofs.YtkcghhkkepndnaaGreatDoor
open Go.RowKit
theorem slice_0 (ad:Option Addr) (n cp:Nat) (hn:n≤cp) (hc:ad=none→cp=0) (z:World):(Instr.slice 55 (.slice ad n cp) (some (.int .i64 0)) none none).run Tryz.prog z=.ok (.slice ad n cp) z:=by
 have hs:=Tryz.sizeOf82 z
 rw [run_slice_l (P:=Tryz.prog) (w:=z) 55 ad n cp (by rw [elemSf];exact Tryz.underlying55) .i64 0 (by omega) (by omega),elemSf,hs]
 cases ad with
 | none =>
  have h1:=hc rfl
  have h2:n=0:=by omega
  subst h1 h2
  simp [Result.andThen,sliced]
 | some a =>
  obtain ⟨b,o,c⟩:=a
  cases c<;>simp [Result.andThen,sliced,Addr.add]
set_option maxHeartbeats 4000000 in
set_option maxRecDepth 100000 in
theorem iLose {base:Nat} {T:TypeId} {W:World} {B:Nat} {X Z:List Value} {v:Value} {L:List Sf} (h:Wr base T W B X Z v L) :
  Calls Tryz.prog 42 #[.pointer (some ⟨B,X.length,none⟩)] W fun e W'=>e=.returned (.tuple #[])∧∃ v',Wr base T W' B X Z v' L.tail∧Fr B v v' W W':=by
 obtain ⟨v',n,n',ad,cp,m,hv,hn,hm,hs,hL',ho⟩:∃ (v':Value) (n n':Nat) (ad:Option Addr) (cp m:Nat),v=.slice ad n cp∧n≤40∧(if (n:Int)<1 then (n:Int) else 1)=(m:Int)∧(∀ z,(Instr.slice 55 (.slice ad n cp) (some (.int .i64 (m:Int))) none none).run Tryz.prog z=.ok v' z)∧HoldsK W base v' L.tail∧∀ g,v'.ownBlock=some g→v.ownBlock=some g:=by
  have hle:=h.le
  match L,h.hk with
  | [],hk =>
   obtain ⟨a,c,e⟩:=hk.form
   refine ⟨v,0,0,a,c,0,e,by omega,by simp,fun z=>?_,hk,fun _ hg=>hg⟩
   rw [e]
   refine slice_0 a 0 c (Nat.zero_le _) (fun ea=>?_) z
   rcases hk with ⟨e1,_⟩ | ⟨g,o,cp,cur,e1,_⟩
   ·rw [e1] at e;injection e with _ _ e;exact e.symm
   ·rw [e1,ea] at e;injection e with e;cases e
  | p :: P,hk =>
   obtain ⟨g,o,cp,e,_⟩:=hk.first
   obtain ⟨b,hb1,hb2,hs⟩:=slice_k g o P.length cp
   rw [e] at hk
   obtain ⟨p',P',e2,_,hk'⟩:=hk.tail hb1 hb2
   cases e2
   simp only [List.length_cons] at hle
   refine ⟨_,P.length+1,0,_,_,1,e,hle,by rw [if_neg (by omega)];rfl,hs,hk',fun g' hg=>?_⟩
   rw [e]
   rcases hb2 with rfl | rfl<;>exact hg
 have hc:=cell_blk h.row
 have hf:=frz h.row X.length
 subst hv
 obtain ⟨a2,c2,e2⟩:=hL'.form
 subst e2
 have HW:=hide h
 have HL:=hide (And.intro hL' ho)
 have HT:Hid (L.tail.length≤40):=hide (by have:=h.le;simp;omega)
 clear h hL' ho
 generalize hk:X.length=k at hc hf ⊢
 generalize hq:L.tail.length=nt at *
 have hn0:n≤9223372036854775807:=by omega
 have hm2:min (1:Int) (n:Int)=(m:Int):=by omega
 have hS:W.drew.cell? ⟨B,k,none⟩=some (.slice ad n cp):=hc
 have hF:W.drew.frozen? ⟨B,k,none⟩=false:=hf
 go_enter Tryz.func42,Tryz.ntmps42
 go_upto_region 0 with fail
 go_region
 go_wp2
 refine bodyPost_end (results_none rfl _ _ _) rfl ?_
 refine ⟨rfl,.slice a2 nt c2,?_,?_⟩
 ·rw [← hk]
  exact ((uh HW).set (uh HL).1 (by rw [hq];exact uh HT)).below (Below.refl _ _).drew
 ·exact (Fr.cells _ _ _ (fun g hg=>Or.inl ((uh HL).2 g hg)) k [_]).trans (Fr.of_below (Below.refl _ _).drew)
theorem step_append_k {W:World} {o:Oper} {a:Act} {K:Act→World→Prop} {Q:Exit→Act→World→Prop} (s x:Operand) (ho:o.op=.call { callee:=.builtin .append,args:=#[s,x],argTypes:=#[55,55] })
  {base:Nat} {v sv:Value} {P F:List Sf} (hs:a.eval s=v) (hx:a.eval x=sv) (hv:HoldsK W base v P) (hsv:HoldsP W sv F) (hP:P.length≤1000000) (hF:F.length≤1000000) (hbase:base≤W.heap.size)
  (h:∀ v' w',HoldsK w' base v' (P ++ F)→W.grownBy w' v.ownBlock→(∀ g,v'.ownBlock=some g→v.ownBlock=some g∨W.heap.size≤g)→K (a.put o.dst v') w'):o.wp Tryz.prog a W K Q:=by
 obtain ⟨v',w',hr,h2,h3,h4⟩:=run_append_k (W:=W) o.type hv hsv hP hF hbase
 unfold Oper.wp execOp
 simp only [ho,resolve,invoke,builtin,Sem.run_bind,Sem.run_pure,Result.andThen_ok,List.map_toArray,List.map_cons,List.map_nil,hs,hx,hr]
 exact h v' w' h2 h3 h4
structure Py (base:Nat) (T:TypeId) (W:World) (B A k:Nat) (X Z:List Value) (v:Value) (L:List Sf) (p:Sf) (y:World):Prop where
 w:Wr base T y B X Z v L
 fr:Fr B v v W y
 pa:y.heap[A]?=some (.cells #[.string p.text,.string p.bytes] 82)
 ek:X.length=k
structure Pz (base:Nat) (T:TypeId) (W:World) (B k:Nat) (X Z:List Value) (v v':Value) (L:List Sf) (y:World):Prop where
 row:y.heap[B]?=some (.cells (X ++ [v] ++ Z).toArray T)
 hk:HoldsK y base v' L
 fr:Fr B v v' W y
 ek:X.length=k
 bs:base≤y.heap.size
 nT:T≠82
section
variable {base:Nat} {T:TypeId} {W:World} {B A k:Nat} {X Z:List Value} {v v':Value} {L:List Sf} {p:Sf} {y y':World}
theorem Py.cx (h:Py base T W B A k X Z v L p y):y.cell? ⟨B,k,none⟩=some v:=by rw [← h.ek];exact cell_blk h.w.row
theorem Py.px (h:Py base T W B A k X Z v L p y):y.cell? ⟨A,0,none⟩=some (.string p.text)∧y.cell? ⟨A,1,none⟩=some (.string p.bytes) :=
 ⟨by rw [cr h.pa];rfl,by rw [cr h.pa];rfl⟩
theorem Py.new (h:Py base T W B A k X Z v L p y) (r:Sf):Py base T W B A k X Z v L p (y.alloc (.cells #[.string r.text,.string r.bytes] 82))∧HoldsP (y.alloc (.cells #[.string r.text,.string r.bytes] 82)) (.slice (some ⟨y.heap.size,0,none⟩) 1 1) [r]:=by
 have hb:Below y.heap.size y (y.alloc (.cells #[.string r.text,.string r.bytes] 82)):=(Below.refl _ _).alloc (Nat.le_refl _) _
 refine ⟨⟨h.w.below hb,h.fr.trans (Fr.of_below hb),(hb.block A (Array.getElem?_eq_some_iff.1 h.pa).1).trans h.pa,h.ek⟩,Or.inr ⟨_,1,_,rfl,heap_alloc_new _ _,Nat.le_refl 2,fun j hj=>?_⟩⟩
 have:j=0∨j=1:=by simp at hj;omega
 rcases this with rfl | rfl<;>rfl
theorem Py.app (h:Py base T W B A k X Z v L p y) {L':List Sf} (h1:HoldsK y' base v' L') (h2:y.grownBy y' v.ownBlock) (h3:∀ g,v'.ownBlock=some g→v.ownBlock=some g∨y.heap.size≤g):Pz base T W B k X Z v v' L' y' :=
 ⟨(h2.block B h.w.lt (fun e=>(h.w.ownB B e.symm).1 rfl)).trans h.w.row,h1,h.fr.trans (Fr.grown h2 h3),h.ek,Nat.le_trans h.w.bs h2.size,h.w.nT⟩
theorem Pz.cx (h:Pz base T W B k X Z v v' L y):y.cell? ⟨B,k,none⟩=some v:=by rw [← h.ek];exact cell_blk h.row
theorem Pz.fx (h:Pz base T W B k X Z v v' L y):y.frozen? ⟨B,k,none⟩=false:=frz h.row k
theorem Pz.fin (h:Pz base T W B k X Z v v' L y) (le:L.length≤40):Wr base T (y.setCell ⟨B,X.length,none⟩ v') B X Z v' L∧Fr B v v' W (y.setCell ⟨B,X.length,none⟩ v'):=by
 refine ⟨⟨set_blk [v] [v'] X Z y h.row rfl,h.hk.keep fun g cur hg _ h2=>heap_setCell_other _ _ _ _ (fun (e:g=B)=>?_),le,Nat.le_trans h.bs (((Below.refl 0 y).setCell (p:=⟨B,X.length,none⟩) (Nat.zero_le _) _).size),h.nT⟩,h.fr.trans (Fr.cells v' v' y (fun _ hg=>Or.inl hg) X.length [v'])⟩
 rw [e,h.row] at h2
 injection h2 with h2
 injection h2 with _ h2
 exact h.nT h2
end
set_option maxHeartbeats 4000000 in
set_option maxRecDepth 100000 in
theorem iPutW {base:Nat} {T:TypeId} {W:World} {B:Nat} {X Z:List Value} {v:Value} {L:List Sf} (h:Wr base T W B X Z v L) (p:Sf) :
  Calls Tryz.prog 56 #[.pointer (some ⟨B,X.length,none⟩),.agg #[.string p.text,.string p.bytes]] W fun e W'=>e=.returned (.tuple #[])∧∃ v',Wr base T W' B X Z v' (if L.length<40 then L ++ [p] else L)∧Fr B v v' W W':=by
 obtain ⟨ad,cp,hv⟩:=h.hk.form
 subst hv
 have hb1:Below W.heap.size W (W.alloc (.cells #[.string p.text,.string p.bytes] 82)):=(Below.refl _ _).alloc (Nat.le_refl _) _
 have hP:=heap_alloc_new W (.cells #[.string p.text,.string p.bytes] 82)
 have h1:=h.below hb1
 have hc:=cell_blk h1.row
 have HW:=hide (And.intro h1 (And.intro hb1 hP))
 have hl:L.length≤40:=h.le
 clear h h1 hb1 hP
 generalize hk:X.length=k at hc ⊢
 generalize hn:L.length=n at *
 by_cases h40:n<40
 ·rw [if_pos h40]
  go_enter Tryz.func56,Tryz.ntmps56
  go_upto_region 2 with fail
  have hL9:(L ++ [p]).length≤40:=by rw [List.length_append,hn];exact h40
  have hl9:L.length≤1000000:=by omega
  obtain ⟨A,eA⟩:∃ A,W.heap.size=A:=⟨_,rfl⟩
  have HY:Hid (Py base T W B A k X Z (.slice ad n cp) L p (W.alloc (.cells #[.string p.text,.string p.bytes] 82)).drew):=hide (by
   obtain ⟨h1,h2,h3⟩:=uh HW
   rw [eA] at h3
   exact ⟨h1.below (Below.refl _ _).drew,(Fr.of_below h2).trans (Fr.of_below (Below.refl _ _).drew),h3,hk⟩)
  rw [eA]
  refine wp_region_held_drew (S:=fun _=>True) (by kernel_rfl) trivial (fun hHeld=>?_)
  clear HW hc
  generalize (W.alloc (.cells #[.string p.text,.string p.bytes] 82)).drew=yy at HY ⊢
  refine t2 0 ?_
  refine t2 1 ?_
  refine t2 2 ?_
  refine t2 3 ?_
  refine wpAnyH_ready (rs:=[4,5]) (by kernel_rfl) (by simp) (AllReadyH.cons rfl (fun K hK=>?_) (AllReadyH.cons rfl (fun K hK=>?_) (AllReadyH.nil)))
  ·have cx:=(uh HY).cx
   go_simp
   refine ro hK trivial fun _=>?_
   clear hK K
   clear cx
   refine r1 5 rfl (fun K hK=>?_)
   obtain ⟨x0,x1⟩:=(uh HY).px
   go_simp
   refine ro hK trivial fun _=>?_
   clear hK K
   clear x0 x1
   refine r1 6 rfl (fun K hK=>?_)
   have H6:=hide ((uh HY).new p)
   go_simp
   refine ro hK trivial fun _=>?_
   clear hK K
   generalize yy.heap.size=N6 at H6 ⊢
   generalize yy.alloc (.cells #[.string p.text,.string p.bytes] 82)=y6 at H6 ⊢
   clear HY
   have H6a:=hide (uh H6).1
   refine r1 7 rfl (fun K hK=>?_)
   refine step_append_k _ _ rfl rfl rfl (uh H6).1.w.hk (uh H6).2 hl9 (by simp) (uh H6).1.w.bs ?_
   intro v7 y7 g1 g2 g3
   obtain ⟨a7,c7,e7⟩:=g1.form
   obtain ⟨n7,e9⟩:∃ n7,(L ++ [p]).length=n7:=⟨_,rfl⟩
   rw [e9] at e7
   clear e9
   subst e7
   have H7:=hide ((uh H6).1.app g1 g2 g3)
   clear g1 g2 g3 H6
   refine ro hK trivial fun _=>?_
   clear hK K
   refine t2 8 ?_
   refine t2 9 ?_
   refine r1 10 rfl (fun K hK=>?_)
   have cx:=(uh H7).cx
   have fx:=(uh H7).fx
   go_simp
   refine ro hK trivial fun _=>?_
   clear hK K
   refine dn ?_ _
   go_wp2
   refine bodyPost_end (results_none rfl _ _ _) rfl ?_
   rw [← hk]
   exact ⟨rfl,_,(uh H7).fin hL9⟩
  ·obtain ⟨x0,x1⟩:=(uh HY).px
   go_simp
   refine ro hK trivial fun _=>?_
   clear hK K
   clear x0 x1
   refine wpAnyH_ready (rs:=[4,6]) (by kernel_rfl) (by simp) (AllReadyH.cons rfl (fun K hK=>?_) (AllReadyH.cons rfl (fun K hK=>?_) (AllReadyH.nil)))
   ·have cx:=(uh HY).cx
    go_simp
    refine ro hK trivial fun _=>?_
    clear hK K
    clear cx
    refine r1 6 rfl (fun K hK=>?_)
    have H6:=hide ((uh HY).new p)
    go_simp
    refine ro hK trivial fun _=>?_
    clear hK K
    generalize yy.heap.size=N6 at H6 ⊢
    generalize yy.alloc (.cells #[.string p.text,.string p.bytes] 82)=y6 at H6 ⊢
    clear HY
    have H6a:=hide (uh H6).1
    refine r1 7 rfl (fun K hK=>?_)
    refine step_append_k _ _ rfl rfl rfl (uh H6).1.w.hk (uh H6).2 hl9 (by simp) (uh H6).1.w.bs ?_
    intro v7 y7 g1 g2 g3
    obtain ⟨a7,c7,e7⟩:=g1.form
    obtain ⟨n7,e9⟩:∃ n7,(L ++ [p]).length=n7:=⟨_,rfl⟩
    rw [e9] at e7
    clear e9
    subst e7
    have H7:=hide ((uh H6).1.app g1 g2 g3)
    clear g1 g2 g3 H6
    refine ro hK trivial fun _=>?_
    clear hK K
    refine t2 8 ?_
    refine t2 9 ?_
    refine r1 10 rfl (fun K hK=>?_)
    have cx:=(uh H7).cx
    have fx:=(uh H7).fx
    go_simp
    refine ro hK trivial fun _=>?_
    clear hK K
    refine dn ?_ _
    go_wp2
    refine bodyPost_end (results_none rfl _ _ _) rfl ?_
    rw [← hk]
    exact ⟨rfl,_,(uh H7).fin hL9⟩
   ·have H6:=hide ((uh HY).new p)
    go_simp
    refine ro hK trivial fun _=>?_
    clear hK K
    generalize yy.heap.size=N6 at H6 ⊢
    generalize yy.alloc (.cells #[.string p.text,.string p.bytes] 82)=y6 at H6 ⊢
    clear HY
    have H6a:=hide (uh H6).1
    refine r1 4 rfl (fun K hK=>?_)
    have cx:=(uh H6a).cx
    go_simp
    refine ro hK trivial fun _=>?_
    clear hK K
    clear cx
    refine r1 7 rfl (fun K hK=>?_)
    refine step_append_k _ _ rfl rfl rfl (uh H6).1.w.hk (uh H6).2 hl9 (by simp) (uh H6).1.w.bs ?_
    intro v7 y7 g1 g2 g3
    obtain ⟨a7,c7,e7⟩:=g1.form
    obtain ⟨n7,e9⟩:∃ n7,(L ++ [p]).length=n7:=⟨_,rfl⟩
    rw [e9] at e7
    clear e9
    subst e7
    have H7:=hide ((uh H6).1.app g1 g2 g3)
    clear g1 g2 g3 H6
    refine ro hK trivial fun _=>?_
    clear hK K
    refine t2 8 ?_
    refine t2 9 ?_
    refine r1 10 rfl (fun K hK=>?_)
    have cx:=(uh H7).cx
    have fx:=(uh H7).fx
    go_simp
    refine ro hK trivial fun _=>?_
    clear hK K
    refine dn ?_ _
    go_wp2
    refine bodyPost_end (results_none rfl _ _ _) rfl ?_
    rw [← hk]
    exact ⟨rfl,_,(uh H7).fin hL9⟩
 ·rw [if_neg h40]
  go_enter Tryz.func56,Tryz.ntmps56
  go_wp2
  refine bodyPost_end (results_none rfl _ _ _) rfl ?_
  exact ⟨rfl,_,(uh HW).1,Fr.of_below (uh HW).2.1⟩
end Go.Proofs.YtkcghhkkepndnaaGreatDoor
namespace Go.Proofs.YtkcghhkkepndnaaGreatDoor
open Go.RowKit
set_option maxHeartbeats 2000000 in
theorem iNbRight (f:Nb) (w:World):Calls Tryz.prog 109 #[nbV f] w fun e w'=>e=.returned (.bool (nbOk f))∧Below w.heap.size w w':=by
 have C1:=hide fun v=>iNumber f.nr v
 have C2:=hide fun v=>iNumber f.ns v
 obtain ⟨R,hR⟩:∃ R,nbOk f=R:=⟨_,rfl⟩
 rw [hR]
 refine nb_ways f _ (fun a r=>?_) (fun a k b r=>?_) (fun a k b c r=>?_) (fun a k b c r=>?_) (fun a k b r=>?_) (fun a k b c r=>?_) (fun a k b c r=>?_) (fun a k b c r=>?_)
 all_goals
  rw [hR] at r
  subst r
  clear hR
  obtain ⟨kd,ns,nr,t⟩:=f
  dsimp only at *
 ·rw [out7 a] at C1
  clear a C2
  go_enter Tryz.func109,Tryz.ntmps109
  go_wp2_with (first
   | (go_at_call 82;refine (uh C1 _).mono ?_;rintro e w2 ⟨rfl,rfl⟩))
  go_ret
  exact ⟨rfl,(Below.refl _ _).alloc (Nat.le_refl _) _⟩
 ·rw [in7 a] at C1
  rw [out7 b] at C2
  subst k
  clear a b
  go_enter Tryz.func109,Tryz.ntmps109
  go_wp2_with fail
  refine (uh C1 _).mono ?_
  rintro e w2 ⟨rfl,rfl⟩
  go_wp2_with fail
  refine (uh C2 _).mono ?_
  rintro e w2 ⟨rfl,rfl⟩
  go_wp2
  go_ret
  exact ⟨rfl,(Below.refl _ _).alloc (Nat.le_refl _) _⟩
 ·rw [in7 a] at C1
  rw [in7 b] at C2
  subst k
  have f1:decide ((t.size:Int)≤200)=false:=decide_eq_false (by omega)
  clear a b c
  go_enter Tryz.func109,Tryz.ntmps109
  go_wp2_with fail
  refine (uh C1 _).mono ?_
  rintro e w2 ⟨rfl,rfl⟩
  go_wp2_with fail
  refine (uh C2 _).mono ?_
  rintro e w2 ⟨rfl,rfl⟩
  go_wp2
  go_ret
  exact ⟨rfl,(Below.refl _ _).alloc (Nat.le_refl _) _⟩
 ·rw [in7 a] at C1
  rw [in7 b] at C2
  subst k
  have f1:decide ((t.size:Int)≤200)=true:=decide_eq_true (by omega)
  clear a b c
  go_enter Tryz.func109,Tryz.ntmps109
  go_wp2_with fail
  refine (uh C1 _).mono ?_
  rintro e w2 ⟨rfl,rfl⟩
  go_wp2_with fail
  refine (uh C2 _).mono ?_
  rintro e w2 ⟨rfl,rfl⟩
  go_wp2
  go_ret
  exact ⟨rfl,(Below.refl _ _).alloc (Nat.le_refl _) _⟩
 ·rw [in7 a] at C1
  have f1:(ns == 0)=false:=beq_eq_false_iff_ne.2 b
  clear a C2
  rcases k with rfl | rfl
  all_goals
   go_enter Tryz.func109,Tryz.ntmps109
   go_wp2_with fail
   refine (uh C1 _).mono ?_
   rintro e w2 ⟨rfl,rfl⟩
   go_wp2
   go_ret
   exact ⟨rfl,(Below.refl _ _).alloc (Nat.le_refl _) _⟩
 ·rw [in7 a] at C1
  subst b
  have f1:=nonempty_of c
  clear a C2 c
  rcases k with rfl | rfl
  all_goals
   go_enter Tryz.func109,Tryz.ntmps109
   go_wp2_with fail
   refine (uh C1 _).mono ?_
   rintro e w2 ⟨rfl,rfl⟩
   go_wp2
   go_ret
   exact ⟨rfl,(Below.refl _ _).alloc (Nat.le_refl _) _⟩
 ·rw [in7 a] at C1
  rw [empty_of c]
  subst b
  clear a C2 c
  rcases k with rfl | rfl
  all_goals
   go_enter Tryz.func109,Tryz.ntmps109
   go_wp2_with fail
   refine (uh C1 _).mono ?_
   rintro e w2 ⟨rfl,rfl⟩
   go_wp2
   go_ret
   exact ⟨rfl,(Below.refl _ _).alloc (Nat.le_refl _) _⟩
 ·rw [in7 a] at C1
  have f1:(kd == 1)=false:=beq_eq_false_iff_ne.2 k
  have f2:(kd == 2)=false:=beq_eq_false_iff_ne.2 b
  have f3:(kd == 3)=false:=beq_eq_false_iff_ne.2 c
  clear a C2
  go_enter Tryz.func109,Tryz.ntmps109
  go_wp2_with fail
  refine (uh C1 _).mono ?_
  rintro e w2 ⟨rfl,rfl⟩
  go_wp2
  go_ret
  exact ⟨rfl,(Below.refl _ _).alloc (Nat.le_refl _) _⟩
set_option maxHeartbeats 2000000 in
theorem sNbRight (f:Nb) (w:World):Calls Tryz.prog 98 #[nbV f] w fun e w'=>e=.returned (.bool (nbOk f))∧Below w.heap.size w w':=by
 have C1:=hide fun v=>sNumber f.nr v
 have C2:=hide fun v=>sNumber f.ns v
 obtain ⟨R,hR⟩:∃ R,nbOk f=R:=⟨_,rfl⟩
 rw [hR]
 unfold nbOk at hR
 obtain ⟨kd,ns,nr,t⟩:=f
 dsimp only at *
 by_cases k:kd=1
 ·by_cases b:0≤ns∧ns≤7
  ·by_cases a:0≤nr∧nr≤7
   ·by_cases c:t.size≤200
    ·have hr:R=true:=by rw [← hR];exact decide_eq_true (by omega)
     subst hr
     clear hR
     rw [in7 a] at C1
     rw [in7 b] at C2
     subst k
     have f1:decide ((t.size:Int)≤200)=true:=decide_eq_true (by omega)
     clear a b c
     go_enter Tryz.func98,Tryz.ntmps98
     go_wp2_with fail
     refine (uh C2 _).mono ?_
     rintro e w2 ⟨rfl,rfl⟩
     go_wp2_with fail
     refine (uh C1 _).mono ?_
     rintro e w2 ⟨rfl,rfl⟩
     go_wp2
     go_ret
     exact ⟨rfl,(Below.refl _ _).alloc (Nat.le_refl _) _⟩
    ·have hr:R=false:=by rw [← hR];exact decide_eq_false (by omega)
     subst hr
     clear hR
     rw [in7 a] at C1
     rw [in7 b] at C2
     subst k
     have f1:decide ((t.size:Int)≤200)=false:=decide_eq_false (by omega)
     clear a b c
     go_enter Tryz.func98,Tryz.ntmps98
     go_wp2_with fail
     refine (uh C2 _).mono ?_
     rintro e w2 ⟨rfl,rfl⟩
     go_wp2_with fail
     refine (uh C1 _).mono ?_
     rintro e w2 ⟨rfl,rfl⟩
     go_wp2
     go_ret
     exact ⟨rfl,(Below.refl _ _).alloc (Nat.le_refl _) _⟩
   ·have hr:R=false:=by rw [← hR];exact decide_eq_false (by omega)
    subst hr
    clear hR
    rw [out7 a] at C1
    rw [in7 b] at C2
    subst k
    clear a b
    go_enter Tryz.func98,Tryz.ntmps98
    go_wp2_with fail
    refine (uh C2 _).mono ?_
    rintro e w2 ⟨rfl,rfl⟩
    go_wp2_with fail
    refine (uh C1 _).mono ?_
    rintro e w2 ⟨rfl,rfl⟩
    go_wp2
    go_ret
    exact ⟨rfl,(Below.refl _ _).alloc (Nat.le_refl _) _⟩
  ·have hr:R=false:=by rw [← hR];exact decide_eq_false (by omega)
   subst hr
   clear hR
   rw [out7 b] at C2
   subst k
   clear b
   go_enter Tryz.func98,Tryz.ntmps98
   go_wp2_with fail
   refine (uh C2 _).mono ?_
   rintro e w2 ⟨rfl,rfl⟩
   go_wp2
   go_ret
   exact ⟨rfl,(Below.refl _ _).alloc (Nat.le_refl _) _⟩
 ·have f1:(kd == 1)=false:=beq_eq_false_iff_ne.2 k
  by_cases k2:kd=2∨kd=3
  ·by_cases b:ns=0
   ·by_cases a:0≤nr∧nr≤7
    ·by_cases c:t.size=0
     ·have hr:R=true:=by rw [← hR];exact decide_eq_true (by omega)
      subst hr
      clear hR k f1
      rw [in7 a] at C1
      rw [empty_of c]
      subst b
      clear a c C2
      rcases k2 with rfl | rfl
      all_goals
       go_enter Tryz.func98,Tryz.ntmps98
       go_wp2_with fail
       refine (uh C1 _).mono ?_
       rintro e w2 ⟨rfl,rfl⟩
       go_wp2
       go_ret
       exact ⟨rfl,(Below.refl _ _).alloc (Nat.le_refl _) _⟩
     ·have hr:R=false:=by rw [← hR];exact decide_eq_false (by omega)
      subst hr
      clear hR k f1
      rw [in7 a] at C1
      have f4:=nonempty_of c
      subst b
      clear a c C2
      rcases k2 with rfl | rfl
      all_goals
       go_enter Tryz.func98,Tryz.ntmps98
       go_wp2_with fail
       refine (uh C1 _).mono ?_
       rintro e w2 ⟨rfl,rfl⟩
       go_wp2
       go_ret
       exact ⟨rfl,(Below.refl _ _).alloc (Nat.le_refl _) _⟩
    ·have hr:R=false:=by rw [← hR];exact decide_eq_false (by omega)
     subst hr
     clear hR k f1
     rw [out7 a] at C1
     subst b
     clear a C2
     rcases k2 with rfl | rfl
     all_goals
      go_enter Tryz.func98,Tryz.ntmps98
      go_wp2_with fail
      refine (uh C1 _).mono ?_
      rintro e w2 ⟨rfl,rfl⟩
      go_wp2
      go_ret
      exact ⟨rfl,(Below.refl _ _).alloc (Nat.le_refl _) _⟩
   ·have hr:R=false:=by rw [← hR];exact decide_eq_false (by omega)
    subst hr
    clear hR k f1
    have f4:(ns == 0)=false:=beq_eq_false_iff_ne.2 b
    clear C1 C2
    rcases k2 with rfl | rfl
    all_goals
     go_enter Tryz.func98,Tryz.ntmps98
     go_wp2
     go_ret
     exact ⟨rfl,(Below.refl _ _).alloc (Nat.le_refl _) _⟩
  ·have hr:R=false:=by rw [← hR];exact decide_eq_false (by omega)
   subst hr
   clear hR
   have f2:(kd == 2)=false:=beq_eq_false_iff_ne.2 (by omega)
   have f3:(kd == 3)=false:=beq_eq_false_iff_ne.2 (by omega)
   clear C1 C2 k2
   go_enter Tryz.func98,Tryz.ntmps98
   go_wp2
   go_ret
   exact ⟨rfl,(Below.refl _ _).alloc (Nat.le_refl _) _⟩
end Go.Proofs.YtkcghhkkepndnaaGreatDoor
namespace Go.Proofs.YtkcghhkkepndnaaGreatDoor
open Go.RowKit
def nbLow (f:Nb):Nat:=if f.kind=2 then 1 else if f.kind=3 then 9 else 2*f.ns.toNat
def nbByte (f:Nb):UInt8:=UInt8.ofNat (32*f.nr.toNat+nbLow f)
def nbTold (f:Nb):ByteArray:=if nbOk f=true then txt (nbByte f :: f.text.data.toList) else ⟨#[]⟩
theorem nb_three {f:Nb} (h:nbOk f=true):∃ a:Nat,a≤7∧f.nr=(a:Int)∧((∃ b:Nat,b≤7∧f.kind=1∧f.ns=(b:Int)∧f.text.size≤200∧(nbByte f).toNat=32*a+2*b)∨(f.kind=2∧f.ns=0∧f.text=⟨#[]⟩∧(nbByte f).toNat=32*a+1)∨(f.kind=3∧f.ns=0∧f.text=⟨#[]⟩∧(nbByte f).toNat=32*a+9)):=by
  have h':=of_decide_eq_true h
  obtain ⟨kd,ns,nr,t⟩:=f
  dsimp only at h' ⊢
  refine ⟨nr.toNat,by omega,by omega,?_⟩
  rcases h'.2 with ⟨h1,h2,h3⟩ | ⟨h1,h2,h3⟩
  · refine Or.inl ⟨ns.toNat,by omega,h1,by omega,h3,?_⟩
    subst h1
    simp [nbByte,nbLow]
    omega
  · rcases h1 with h1 | h1
    · refine Or.inr (Or.inl ⟨h1,h2,empty_of h3,?_⟩)
      subst h1
      simp [nbByte,nbLow]
      omega
    · refine Or.inr (Or.inr ⟨h1,h2,empty_of h3,?_⟩)
      subst h1
      simp [nbByte,nbLow]
      omega
theorem row4n {w:World} {B:Nat} {x0 x1 x2 x3:Value} {T:TypeId} (h:w.heap[B]?=some (.cells #[x0,x1,x2,x3] T)) :
    w.cell? ⟨B,0,none⟩=some x0∧w.cell? ⟨B,1,none⟩=some x1∧w.cell? ⟨B,2,none⟩=some x2∧w.cell? ⟨B,3,none⟩=some x3 :=
  ⟨by rw [cell_of_row _ _ 0 _ _ (0,0) h];rfl,by rw [cell_of_row _ _ 1 _ _ (0,0) h];rfl,by rw [cell_of_row _ _ 2 _ _ (0,0) h];rfl,by rw [cell_of_row _ _ 3 _ _ (0,0) h];rfl⟩
theorem or32 (a b:Nat) (ha:a≤7) (hb:b<32):bits .or .i64 ((a:Int)*32) (b:Int)=((32*a+b:Nat):Int):=by
  have h1:a*32 ||| b=a*2 ^ 5+b:=by
    rw [Nat.mul_comm,show (32:Nat)=2 ^ 5 from rfl,← Nat.two_pow_add_eq_or_of_lt (by omega),Nat.mul_comm]
  show IntKind.i64.wrap ((BitVec.ofInt 64 ((a:Int)*32) ||| BitVec.ofInt 64 (b:Int)).toNat:Int)=_
  rw [show (a:Int)*32=((a*32:Nat):Int) by omega,BitVec.toNat_or,ofInt_u64 (a*32) (by omega),ofInt_u64 b (by omega),h1,IntKind.wrap_i64]
  omega
set_option maxHeartbeats 1000000 in
theorem iFirst (f:Nb) (h:nbOk f=true) (w:World):Calls Tryz.prog 110 #[nbV f] w fun e w'=>e=.returned (.int .u8 (nbByte f).toNat)∧Below w.heap.size w w':=by
  obtain ⟨a,ha,e1,hh⟩:=nb_three h
  generalize hB:(nbByte f).toNat=B at *
  clear hB h
  obtain ⟨kd,ns,nr,t⟩:=f
  dsimp only at *
  subst e1
  rcases hh with ⟨b,hb,rfl,rfl,_,rfl⟩ | ⟨rfl,rfl,rfl,rfl⟩ | ⟨rfl,rfl,rfl,rfl⟩
  · have ho:=or32 a (2*b) ha (by omega)
    rw [show ((2*b:Nat):Int)=(b:Int)*2 by omega] at ho
    go_enter Tryz.func110,Tryz.ntmps110
    go_wp2
    go_ret
    refine ⟨ret_int (by omega),(Below.refl _ _).alloc (Nat.le_refl _) _⟩
  · have ho:bits .or .i64 ((a:Int)*32) 1=((32*a+1:Nat):Int):=or32 a 1 ha (by omega)
    go_enter Tryz.func110,Tryz.ntmps110
    go_wp2
    go_ret
    refine ⟨ret_int (by omega),(Below.refl _ _).alloc (Nat.le_refl _) _⟩
  · have ho:bits .or .i64 ((a:Int)*32) 9=((32*a+9:Nat):Int):=or32 a 9 ha (by omega)
    go_enter Tryz.func110,Tryz.ntmps110
    go_wp2
    go_ret
    refine ⟨ret_int (by omega),(Below.refl _ _).alloc (Nat.le_refl _) _⟩
theorem told_no {f:Nb} (h:nbOk f=false):nbTold f=⟨#[]⟩:=by unfold nbTold;rw [if_neg (by rw [h];decide)]
theorem told_yes {f:Nb} (h:nbOk f=true):nbTold f=txt [nbByte f] ++ f.text:=by
  unfold nbTold
  rw [if_pos h]
  apply ByteArray.ext
  simp [txt]
theorem conv_one (c:UInt8) (w:World):(convert 22 9 (.slice (some ⟨w.heap.size,0,none⟩) 1 1)).run Tryz.prog (w.alloc (.cells #[.int .u8 c.toNat] 5))=.ok (.string (txt [c])) (w.alloc (.cells #[.int .u8 c.toNat] 5)):=by
  have h:(w.alloc (.cells #[.int .u8 c.toNat] 5)).ownsRow w.heap.size 5 1 (.slice (some ⟨w.heap.size,0,none⟩) 1 1) 1 (#[.int .u8 c.toNat]:Array Value).toList:=World.ownsRow_lit _ _ 1 (Nat.le_refl _) (by decide) rfl
  exact own_conv (l:=[c]) h
set_option maxHeartbeats 2000000 in
theorem iNbBytes (f:Nb) (w:World):Calls Tryz.prog 80 #[nbV f] w fun e w'=>e=.returned (.string (nbTold f))∧Below w.heap.size w w':=by
  have C:=hide fun v=>iNbRight f v
  cases hk:nbOk f
  · rw [told_no hk]
    rw [hk] at C
    obtain ⟨kd,ns,nr,t⟩:=f
    clear hk
    go_enter Tryz.func80,Tryz.ntmps80
    go_wp2_with fail
    refine (uh C _).mono ?_
    rintro e w2 ⟨rfl,hb2⟩
    go_wp2
    go_ret
    exact ⟨rfl,((Below.refl _ _).alloc (Nat.le_refl _) _).trans (hb2.mono (by simp))⟩
  · rw [told_yes hk]
    have C2:=hide fun v=>iFirst f hk v
    rw [hk] at C
    have hsz:f.text.size≤200:=by have:=of_decide_eq_true hk;omega
    clear hk
    generalize nbByte f=c at *
    obtain ⟨kd,ns,nr,t⟩:=f
    dsimp only at *
    go_enter Tryz.func80,Tryz.ntmps80
    go_wp2_with fail
    refine (uh C _).mono ?_
    rintro e w2 ⟨rfl,hb2⟩
    have hs0:(w.alloc (.cells #[.int .i64 kd,.int .i64 ns,.int .i64 nr,.string t] 96)).heap.size=w.heap.size+1:=by simp
    have hO2:w2.heap[w.heap.size]?=some (.cells #[.int .i64 kd,.int .i64 ns,.int .i64 nr,.string t] 96):=(hb2.block w.heap.size (by rw [hs0];omega)).trans (heap_alloc_new w _)
    have hB2:Below w.heap.size w w2:=((Below.refl _ _).alloc (Nat.le_refl _) _).trans (hb2.mono (by rw [hs0];omega))
    have hl2:w.heap.size<w2.heap.size:=(Array.getElem?_eq_some_iff.1 hO2).1
    obtain ⟨c0,c1,c2,c3⟩:=row4n hO2
    have HO2:=hide hO2
    clear hO2 hb2 C
    go_wp2_with fail
    go_region_held (fun q=>q.cell? ⟨w.heap.size,0,none⟩=some (.int .i64 kd)∧q.cell? ⟨w.heap.size,1,none⟩=some (.int .i64 ns)∧q.cell? ⟨w.heap.size,2,none⟩=some (.int .i64 nr)∧q.cell? ⟨w.heap.size,3,none⟩=some (.string t)) (go_keep) (first
      | (go_at_call 110;refine (uh C2 _).mono ?_;rintro e w3 ⟨rfl,hb3⟩
         have hs3:w2.heap.size≤w3.heap.size:=hb3.size
         have k0:=(hb3.cell (p:=⟨w.heap.size,0,none⟩) hl2).trans c0
         have k1:=(hb3.cell (p:=⟨w.heap.size,1,none⟩) hl2).trans c1
         have k2:=(hb3.cell (p:=⟨w.heap.size,2,none⟩) hl2).trans c2
         have k3:=(hb3.cell (p:=⟨w.heap.size,3,none⟩) hl2).trans c3
         have hB3:Below w.heap.size w w3:=hB2.trans ((show Below w2.heap.size w2 w3 from ⟨hb3.os,hb3.tape,hb3.output,hb3.size,hb3.block⟩).mono hB2.size)
         obtain ⟨Z,hZ,hcv,hcat⟩:∃ Z,Hid (Z=txt [c])∧(convert 22 9 (.slice (some ⟨w3.heap.size,0,none⟩) 1 1)).run Tryz.prog (w3.alloc (.cells #[.int .u8 c.toNat] 5))=.ok (.string Z) (w3.alloc (.cells #[.int .u8 c.toNat] 5))∧¬ (9223372036854775807<Z.size+t.size) :=
           ⟨_,hide rfl,conv_one c w3,by rw [txt_size];simp;omega⟩
         clear hb3))
    all_goals
      go_wp2
      go_ret
      refine ⟨by rw [uh hZ];rfl,hB3.alloc hB3.size _⟩
set_option maxHeartbeats 2000000 in
theorem sNbBytes (f:Nb) (w:World):Calls Tryz.prog 73 #[nbV f] w fun e w'=>e=.returned (.string (nbTold f))∧Below w.heap.size w w':=by
  have C:=hide fun v=>sNbRight f v
  cases hk:nbOk f
  · rw [told_no hk]
    rw [hk] at C
    obtain ⟨kd,ns,nr,t⟩:=f
    clear hk
    go_enter Tryz.func73,Tryz.ntmps73
    go_wp2_with fail
    refine (uh C _).mono ?_
    rintro e w2 ⟨rfl,hb2⟩
    go_wp2
    go_ret
    exact ⟨rfl,((Below.refl _ _).alloc (Nat.le_refl _) _).trans (hb2.mono (by simp))⟩
  · rw [told_yes hk]
    rw [hk] at C
    obtain ⟨a,ha,e1,hh⟩:=nb_three hk
    have hsz:f.text.size≤200:=by have:=of_decide_eq_true hk;omega
    clear hk
    generalize hc:nbByte f=c at *
    clear hc
    obtain ⟨kd,ns,nr,t⟩:=f
    dsimp only at *
    subst e1
    go_enter Tryz.func73,Tryz.ntmps73
    go_wp2_with fail
    refine (uh C _).mono ?_
    rintro e w2 ⟨rfl,hb2⟩
    have hs0:(w.alloc (.cells #[.int .i64 kd,.int .i64 ns,.int .i64 a,.string t] 96)).heap.size=w.heap.size+1:=by simp
    have hO2:w2.heap[w.heap.size]?=some (.cells #[.int .i64 kd,.int .i64 ns,.int .i64 a,.string t] 96):=(hb2.block w.heap.size (by rw [hs0];omega)).trans (heap_alloc_new w _)
    have hB2:Below w.heap.size w w2:=((Below.refl _ _).alloc (Nat.le_refl _) _).trans (hb2.mono (by rw [hs0];omega))
    have hl2:w.heap.size<w2.heap.size:=(Array.getElem?_eq_some_iff.1 hO2).1
    have hl2':¬ (w.heap.size=w2.heap.size):=by omega
    obtain ⟨c0,c1,c2,c3⟩:=row4n hO2
    clear hO2 hb2 C
    obtain ⟨Z,hZ,hcv,hcat⟩:∃ Z,Hid (Z=txt [c])∧(convert 22 9 (.slice (some ⟨w2.heap.size,0,none⟩) 1 1)).run Tryz.prog (w2.alloc (.cells #[.int .u8 c.toNat] 5))=.ok (.string Z) (w2.alloc (.cells #[.int .u8 c.toNat] 5))∧¬ (9223372036854775807<Z.size+t.size) :=
      ⟨_,hide rfl,conv_one c w2,by rw [txt_size];simp;omega⟩
    rcases hh with ⟨b,hb,rfl,rfl,_,hcc⟩ | ⟨rfl,rfl,rfl,hcc⟩ | ⟨rfl,rfl,rfl,hcc⟩
    · rw [hcc,show ((32*a+2*b:Nat):Int)=32*(a:Int)+2*(b:Int) by omega] at hcv
      go_wp2
      go_ret
      refine ⟨by rw [uh hZ];rfl,hB2.alloc hB2.size _⟩
    · rw [hcc,show ((32*a+1:Nat):Int)=32*(a:Int)+1 by omega] at hcv
      go_wp2
      go_ret
      refine ⟨by rw [uh hZ];rfl,hB2.alloc hB2.size _⟩
    · rw [hcc,show ((32*a+9:Nat):Int)=32*(a:Int)+9 by omega] at hcv
      go_wp2
      go_ret
      refine ⟨by rw [uh hZ];rfl,hB2.alloc hB2.size _⟩
end Go.Proofs.YtkcghhkkepndnaaGreatDoor
namespace Go.Proofs.YtkcghhkkepndnaaGreatDoor
open Go.RowKit
set_option maxHeartbeats 400000 in
theorem many (b:Bool) (w:World):Calls Tryz.prog 127 #[.bool b] w fun e w'=>e=.returned (.int .i64 (if b then 4 else 2))∧w'=w:=by
 cases b
 all_goals
  go_enter Tryz.func127,Tryz.ntmps127
  go_wp2
  go_ret
  exact ⟨rfl,rfl⟩
theorem many' (b:Bool) (w:World):Calls Tryz.prog 127 #[.bool b] w fun e w'=>e=.returned (.int .i64 (tailN b:Nat))∧w'=w:=by
 have:=many b w
 cases b
 ·exact this
 ·exact this
set_option maxHeartbeats 1000000 in
theorem specGood_at (t:ByteArray) (b:Bool) (w:World) (k:Nat) (hk:t.size=k+tailN b) (h8:t.size≤8000) :
  Calls Tryz.prog 128 #[.string t,.bool b] w fun e w'=>e=.returned (.bool ((tailV (t.extract 0 k) b).toList == (t.extract k t.size).toList))∧Below w.heap.size w w':=by
 have hkl:k≤t.size:=by omega
 have HC:Hid (∀ w,Calls Tryz.prog 101 #[.string (t.extract 0 k),.bool b] w fun e w'=>e=.returned (.string (tailV (t.extract 0 k) b))∧Below w.heap.size w w'):=by
  refine hide fun w=>?_
  rw [show tailV (t.extract 0 k) b=tailB (t.extract 0 k).data.toList b from if_pos (by rw [extract_size t k hkl];omega)]
  exact specTail (t.extract 0 k) b w (by rw [extract_size t k hkl];unfold maxLen;omega)
 have hs:=many' b
 have hc4:=tailN_le b
 generalize tailN b=c at *
 have hkk:(t.size:Int) - (c:Int)=(k:Int):=by omega
 have hki:(k:Int)≤(t.size:Int):=by omega
 have hk0:decide ((0:Int)≤(k:Int))=true:=decide_eq_true (by omega)
 have HS:=hide hs
 clear hs hk
 generalize tailV (t.extract 0 k) b=V at *
 go_enter Tryz.func128,Tryz.ntmps128
 go_wp2_with fail
 refine (uh HS _).mono ?_
 rintro e w1 ⟨rfl,rfl⟩
 go_wp2_with fail
 go_region_held (fun _=>True) (trivial) (first
  | (go_at_call 101;refine (uh HC _).mono ?_;rintro e w2 ⟨rfl,hb2⟩))
 go_wp2
 go_ret
 exact ⟨rfl,(Below.refl _ _).drew.trans hb2⟩

set_option maxHeartbeats 400000 in
theorem specGood_no (t:ByteArray) (b:Bool) (w:World) (h:t.size<tailN b) :
  Calls Tryz.prog 128 #[.string t,.bool b] w fun e w'=>e=.returned (.bool false)∧Below w.heap.size w w':=by
 have hs:=many' b
 have hc4:=tailN_le b
 generalize tailN b=c at *
 have HS:=hide hs
 clear hs
 obtain ⟨z,hz⟩:∃ z:Int,(t.size:Int) - (c:Int)=z:=⟨_,rfl⟩
 have hd:decide ((0:Int)≤z)=false:=decide_eq_false (by omega)
 have hz1:-4≤z:=by omega
 have hz2:z<0:=by omega
 clear h
 go_enter Tryz.func128,Tryz.ntmps128
 go_wp2_with fail
 refine (uh HS _).mono ?_
 rintro e w1 ⟨rfl,rfl⟩
 go_wp2_with fail
 go_quiet (fail)
 go_wp2
 go_ret
 exact ⟨rfl,rfl,rfl,rfl,Nat.le_refl _,fun _ _=>rfl⟩

end Go.Proofs.YtkcghhkkepndnaaGreatDoor
