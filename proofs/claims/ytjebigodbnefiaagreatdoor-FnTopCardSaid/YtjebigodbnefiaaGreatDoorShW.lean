/- Sh -/
import Derived.Test.YtjebigodbnefiaaGreatDoorBaseW
import Derived.Deep.RegionHeld3
import Derived.Deep.AppendLies
namespace Go.Proofs.YtjebigodbnefiaaGreatDoor
open Go.RowKit Go.Proofs.Tryz
theorem ge {α:Type} {xs:Array α} {i:Nat} {b:α}:xs[i]?=some b↔∃ h:i<xs.size,xs[i]=b:=Array.getElem?_eq_some_iff
theorem cr {w:World} {B j:Nat} {cs:Array Value} {t:TypeId} {fr:Nat × Nat} (h:w.heap[B]?=some (.cells cs t fr)):w.cell? ⟨B,j,none⟩=cs[j]?:=cell_of_row _ _ _ _ _ _ h
theorem zA {p q:Prop} (x:p) (y:q):p∧q:=⟨x,y⟩
theorem zC (n:Nat) (w:World):Below n w w:=Below.refl n w
theorem zD (n:Nat):n≤n:=Nat.le_refl n
theorem zE {n m k:Nat} (h:n≤m) (i:m≤k):n≤k:=Nat.le_trans h i
theorem zF (w:World) (o:Obj):(w.alloc o).heap[w.heap.size]?=some o:=heap_alloc_new w o
theorem zG (w:World) (o:Obj) (k:Nat) (h:k<w.heap.size):(w.alloc o).heap[k]?=w.heap[k]?:=Below.heap_alloc w o k h
theorem zH (w:World) (g i:Nat) (cs:Array Value) (t:TypeId) (v:Value) (hg:w.heap[g]?=some (.cells cs t (0,0))):(w.setCell ⟨g,i,none⟩ v).heap[g]?=some (.cells (cs.setIfInBounds i v) t (0,0)):=heap_setCell_same w g i cs t v hg
theorem sA {α:Type} (l:List α) (i:Nat) (a:α):l.toArray.setIfInBounds i a=(l.set i a).toArray:=List.setIfInBounds_toArray _ _ _
theorem sZ {α:Type} {a b:α} {l:List α}:(a :: l).set 0 b=b :: l:=rfl
theorem sS {α:Type} {a b:α} {l:List α} {n:Nat}:(a :: l).set (n+1) b=a :: l.set n b:=rfl
theorem gA {α:Type} {l:List α} {i:Nat} (h:i<l.toArray.size):l.toArray[i]'h=l[i]'(by simpa using h):=rfl
theorem gZ {α:Type} {a:α} {l:List α} (h:0<(a :: l).length):(a :: l)[0]'h=a:=rfl
theorem gS {α:Type} {a:α} {l:List α} {i:Nat} (h:i+1<(a :: l).length):(a :: l)[i+1]'h=l[i]'(Nat.lt_of_succ_lt_succ h):=rfl
theorem zI {P:Program} {fn:Func} {R:Ending→World→Prop} {a:Act} {w:World} (h:R (.returned (.tuple #[])) w) (hn:fn.results=#[]:=by exact rfl) (hd:a.defers=[]:=by exact rfl):bodyPost P fn R .normal a w:=bodyPost_end (results_none hn _ _ _) hd h
section
variable {P:Program} {md:Region.Mode} {ops:Array Oper} {Q:Exit→Act→World→Prop} {S:World→Prop}
theorem tk (i:Nat) {oi:Oper} {v:Value} {fuel:Nat} {listed:Array Bool} {a:Act} {w:World} (hi:ops[i]?=some oi) (hy:∀ w,S w→(execOp a.eval oi).run P w=.ok (.value v) w)
  (h:wpAnyH P md ops Q S fuel (listed.setIfInBounds i true) (a.put oi.dst v) w) (hs:Region.noSelect ops=true:=by kernel_rfl) (hf:Region.free md ops listed i=true:=by kernel_rfl) (hr:(Region.ready md ops listed).contains i=true:=by kernel_rfl)
  (hQ:∀ c a w,Q (.panic c) (a.put oi.dst v) w→Q (.panic c) a w:=by exact fun _ _ _ h=>h) (hw:Region.wanted oi (yielded ops a.tmps)=true:=by rfl) (hS:S w:=by assumption):wpAnyH P md ops Q S (fuel+1) listed a w :=
 wpAnyH_take hi hs hf hr hQ (Or.inl ⟨hw,hy⟩) hS h
theorem t2 (i:Nat) {oi:Oper} {v:Value} {fuel:Nat} {l l':Array Bool} {a a':Act} {w:World}
  (h:wpAnyH P md ops Q S fuel l' a' w) (hi:ops[i]?=some oi:=by exact rfl) (hs:Region.noSelect ops=true:=by kernel_rfl) (hf:Region.free md ops l i=true:=by kernel_rfl) (hr:(Region.ready md ops l).contains i=true:=by kernel_rfl)
  (hw:Region.wanted oi (yielded ops a.tmps)=true:=by rfl) (hS:S w:=by assumption)
  (hy:∀ w,S w→(execOp a.eval oi).run P w=.ok (.value v) w:=by (intro w hSw;(try dsimp only at hSw);go_simp;try with_reducible rfl))
  (hQ:∀ c a w,Q (.panic c) (a.put oi.dst v) w→Q (.panic c) a w:=by exact fun _ _ _ h=>h)
  (ha:a.put oi.dst v=a':=by ((try simp only [Act.put,sA,sZ,sS,gA,gZ,gS]);try exact rfl)) (hl:l.setIfInBounds i true=l':=by ((try simp only [sA,sZ,sS]);try exact rfl)):wpAnyH P md ops Q S (fuel+1) l a w :=
 wpAnyH_take hi hs hf hr hQ (Or.inl ⟨hw,hy⟩) hS (by rw [ha,hl];exact h)
theorem tt (i j:Nat) {o0 o1:Oper} {v0 v1:Value} {fuel:Nat} {l0 l1 l2:Array Bool} {a0 a1 a2:Act} {w:World}
  (h:wpAnyH P md ops Q S fuel l2 a2 w) (hi0:ops[i]?=some o0:=by exact rfl) (hs0:Region.noSelect ops=true:=by kernel_rfl) (hf0:Region.free md ops l0 i=true:=by kernel_rfl) (hr0:(Region.ready md ops l0).contains i=true:=by kernel_rfl)
  (hw0:Region.wanted o0 (yielded ops a0.tmps)=true:=by rfl) (hS0:S w:=by assumption)
  (hy0:∀ w,S w→(execOp a0.eval o0).run P w=.ok (.value v0) w:=by (intro w hSw;(try dsimp only at hSw);go_simp;try with_reducible rfl))
  (hQ0:∀ c a w,Q (.panic c) (a.put o0.dst v0) w→Q (.panic c) a w:=by exact fun _ _ _ h=>h)
  (ha0:a0.put o0.dst v0=a1:=by ((try simp only [Act.put,sA,sZ,sS,gA,gZ,gS]);try exact rfl)) (hl0:l0.setIfInBounds i true=l1:=by ((try simp only [sA,sZ,sS]);try exact rfl))
  (hi1:ops[j]?=some o1:=by exact rfl) (hs1:Region.noSelect ops=true:=by kernel_rfl) (hf1:Region.free md ops l1 j=true:=by kernel_rfl) (hr1:(Region.ready md ops l1).contains j=true:=by kernel_rfl)
  (hw1:Region.wanted o1 (yielded ops a1.tmps)=true:=by rfl) (hS1:S w:=by assumption)
  (hy1:∀ w,S w→(execOp a1.eval o1).run P w=.ok (.value v1) w:=by (intro w hSw;(try dsimp only at hSw);go_simp;try with_reducible rfl))
  (hQ1:∀ c a w,Q (.panic c) (a.put o1.dst v1) w→Q (.panic c) a w:=by exact fun _ _ _ h=>h)
  (ha1:a1.put o1.dst v1=a2:=by ((try simp only [Act.put,sA,sZ,sS,gA,gZ,gS]);try exact rfl)) (hl1:l1.setIfInBounds j true=l2:=by ((try simp only [sA,sZ,sS]);try exact rfl)):wpAnyH P md ops Q S (fuel+1+1) l0 a0 w :=
 t2 i (t2 j h hi1 hs1 hf1 hr1 hw1 hS1 hy1 hQ1 ha1 hl1) hi0 hs0 hf0 hr0 hw0 hS0 hy0 hQ0 ha0 hl0
theorem tq (i j k n:Nat) {o0 o1 o2 o3:Oper} {v0 v1 v2 v3:Value} {fuel:Nat} {l0 l1 l2 l3 l4:Array Bool} {a0 a1 a2 a3 a4:Act} {w:World}
  (h:wpAnyH P md ops Q S fuel l4 a4 w) (hi0:ops[i]?=some o0:=by exact rfl) (hs0:Region.noSelect ops=true:=by kernel_rfl) (hf0:Region.free md ops l0 i=true:=by kernel_rfl) (hr0:(Region.ready md ops l0).contains i=true:=by kernel_rfl)
  (hw0:Region.wanted o0 (yielded ops a0.tmps)=true:=by rfl) (hS0:S w:=by assumption)
  (hy0:∀ w,S w→(execOp a0.eval o0).run P w=.ok (.value v0) w:=by (intro w hSw;(try dsimp only at hSw);go_simp;try with_reducible rfl))
  (hQ0:∀ c a w,Q (.panic c) (a.put o0.dst v0) w→Q (.panic c) a w:=by exact fun _ _ _ h=>h)
  (ha0:a0.put o0.dst v0=a1:=by ((try simp only [Act.put,sA,sZ,sS,gA,gZ,gS]);try exact rfl)) (hl0:l0.setIfInBounds i true=l1:=by ((try simp only [sA,sZ,sS]);try exact rfl))
  (hi1:ops[j]?=some o1:=by exact rfl) (hs1:Region.noSelect ops=true:=by kernel_rfl) (hf1:Region.free md ops l1 j=true:=by kernel_rfl) (hr1:(Region.ready md ops l1).contains j=true:=by kernel_rfl)
  (hw1:Region.wanted o1 (yielded ops a1.tmps)=true:=by rfl) (hS1:S w:=by assumption)
  (hy1:∀ w,S w→(execOp a1.eval o1).run P w=.ok (.value v1) w:=by (intro w hSw;(try dsimp only at hSw);go_simp;try with_reducible rfl))
  (hQ1:∀ c a w,Q (.panic c) (a.put o1.dst v1) w→Q (.panic c) a w:=by exact fun _ _ _ h=>h)
  (ha1:a1.put o1.dst v1=a2:=by ((try simp only [Act.put,sA,sZ,sS,gA,gZ,gS]);try exact rfl)) (hl1:l1.setIfInBounds j true=l2:=by ((try simp only [sA,sZ,sS]);try exact rfl))
  (hi2:ops[k]?=some o2:=by exact rfl) (hs2:Region.noSelect ops=true:=by kernel_rfl) (hf2:Region.free md ops l2 k=true:=by kernel_rfl) (hr2:(Region.ready md ops l2).contains k=true:=by kernel_rfl)
  (hw2:Region.wanted o2 (yielded ops a2.tmps)=true:=by rfl) (hS2:S w:=by assumption)
  (hy2:∀ w,S w→(execOp a2.eval o2).run P w=.ok (.value v2) w:=by (intro w hSw;(try dsimp only at hSw);go_simp;try with_reducible rfl))
  (hQ2:∀ c a w,Q (.panic c) (a.put o2.dst v2) w→Q (.panic c) a w:=by exact fun _ _ _ h=>h)
  (ha2:a2.put o2.dst v2=a3:=by ((try simp only [Act.put,sA,sZ,sS,gA,gZ,gS]);try exact rfl)) (hl2:l2.setIfInBounds k true=l3:=by ((try simp only [sA,sZ,sS]);try exact rfl))
  (hi3:ops[n]?=some o3:=by exact rfl) (hs3:Region.noSelect ops=true:=by kernel_rfl) (hf3:Region.free md ops l3 n=true:=by kernel_rfl) (hr3:(Region.ready md ops l3).contains n=true:=by kernel_rfl)
  (hw3:Region.wanted o3 (yielded ops a3.tmps)=true:=by rfl) (hS3:S w:=by assumption)
  (hy3:∀ w,S w→(execOp a3.eval o3).run P w=.ok (.value v3) w:=by (intro w hSw;(try dsimp only at hSw);go_simp;try with_reducible rfl))
  (hQ3:∀ c a w,Q (.panic c) (a.put o3.dst v3) w→Q (.panic c) a w:=by exact fun _ _ _ h=>h)
  (ha3:a3.put o3.dst v3=a4:=by ((try simp only [Act.put,sA,sZ,sS,gA,gZ,gS]);try exact rfl)) (hl3:l3.setIfInBounds n true=l4:=by ((try simp only [sA,sZ,sS]);try exact rfl)):wpAnyH P md ops Q S (fuel+1+1+1+1) l0 a0 w :=
 t2 i (t2 j (t2 k (t2 n h hi3 hs3 hf3 hr3 hw3 hS3 hy3 hQ3 ha3 hl3) hi2 hs2 hf2 hr2 hw2 hS2 hy2 hQ2 ha2 hl2) hi1 hs1 hf1 hr1 hw1 hS1 hy1 hQ1 ha1 hl1) hi0 hs0 hf0 hr0 hw0 hS0 hy0 hQ0 ha0 hl0
theorem t4 (i:Nat) (v:Value) {oi:Oper} {fuel:Nat} {listed:Array Bool} {a:Act} {w:World} (hi:ops[i]?=some oi) (hy:YieldsIf P ops S oi v a)
  (h:wpAnyH P md ops Q S fuel (listed.setIfInBounds i true) (a.put oi.dst v) w) (hs:Region.noSelect ops=true:=by kernel_rfl) (hf:Region.free md ops listed i=true:=by kernel_rfl) (hr:(Region.ready md ops listed).contains i=true:=by kernel_rfl)
  (hQ:∀ c a w,Q (.panic c) (a.put oi.dst v) w→Q (.panic c) a w:=by exact fun _ _ _ h=>h) (hS:S w:=by assumption):wpAnyH P md ops Q S (fuel+1) listed a w :=
 wpAnyH_take hi hs hf hr hQ hy hS h
theorem t5 (i:Nat) {oi:Oper} {fuel:Nat} {l l':Array Bool} {a a':Act} {w:World}
  (h:wpAnyH P md ops Q S fuel l' a' w) (hi:ops[i]?=some oi:=by exact rfl) (hs:Region.noSelect ops=true:=by kernel_rfl) (hf:Region.free md ops l i=true:=by kernel_rfl) (hr:(Region.ready md ops l).contains i=true:=by kernel_rfl)
  (hy:YieldsIf P ops S oi undef a:=by exact Or.inr ⟨by rfl,rfl⟩) (hQ:∀ c a w,Q (.panic c) (a.put oi.dst undef) w→Q (.panic c) a w:=by exact fun _ _ _ h=>h) (hS:S w:=by assumption)
  (ha:a.put oi.dst undef=a':=by ((try simp only [Act.put,sA,sZ,sS,gA,gZ,gS]);try exact rfl)) (hl:l.setIfInBounds i true=l':=by ((try simp only [sA,sZ,sS]);try exact rfl)):wpAnyH P md ops Q S (fuel+1) l a w :=
 wpAnyH_take hi hs hf hr hQ hy hS (by rw [ha,hl];exact h)
theorem dn {l:Array Bool} {a:Act} {w:World} (h:Q .normal a w) (fuel:Nat) (hr:Region.ready md ops l=[]:=by kernel_rfl):wpAnyH P md ops Q S fuel l a w:=wpAnyH_done hr h fuel
theorem r1 (i:Nat) {o:Oper} {fuel:Nat} {listed:Array Bool} {a:Act} {w:World} (ho:ops[i]?=some o)
  (h:∀ K':Act→World→Prop,Shut (∀ a w,S w→(S w→wpAnyH P md ops Q S fuel (listed.setIfInBounds i true) a w)→K' a w)→if Region.wanted o (yielded ops a.tmps)=true then Oper.wp P o a w K' Q else K' (a.put o.dst undef) w)
  (hr:Region.ready md ops listed=[i]:=by kernel_rfl):wpAnyH P md ops Q S (fuel+1) listed a w :=
 wpAnyH_ready hr (by simp) (AllReadyH.cons ho h AllReadyH.nil)
theorem r3 (i:Nat) {o:Oper} {fuel:Nat} {listed:Array Bool} {a:Act} {w:World}
  (h:∀ K':Act→World→Prop,Shut (∀ a w,S w→(S w→wpAnyH P md ops Q S fuel (listed.setIfInBounds i true) a w)→K' a w)→if Region.wanted o (yielded ops a.tmps)=true then Oper.wp P o a w K' Q else K' (a.put o.dst undef) w)
  (ho:ops[i]?=some o:=by exact rfl) (hr:Region.ready md ops listed=[i]:=by kernel_rfl):wpAnyH P md ops Q S (fuel+1) listed a w:=r1 i ho h hr
theorem r4 (i j:Nat) {o p:Oper} {fuel:Nat} {listed:Array Bool} {a:Act} {w:World}
  (h:∀ K':Act→World→Prop,Shut (∀ a w,S w→(S w→wpAnyH P md ops Q S fuel (listed.setIfInBounds i true) a w)→K' a w)→if Region.wanted o (yielded ops a.tmps)=true then Oper.wp P o a w K' Q else K' (a.put o.dst undef) w)
  (h2:∀ K':Act→World→Prop,Shut (∀ a w,S w→(S w→wpAnyH P md ops Q S fuel (listed.setIfInBounds j true) a w)→K' a w)→if Region.wanted p (yielded ops a.tmps)=true then Oper.wp P p a w K' Q else K' (a.put p.dst undef) w)
  (ho:ops[i]?=some o:=by exact rfl) (hp:ops[j]?=some p:=by exact rfl) (hr:Region.ready md ops listed=[i,j]:=by kernel_rfl):wpAnyH P md ops Q S (fuel+1) listed a w :=
 wpAnyH_ready hr (by simp) (AllReadyH.cons ho h (AllReadyH.cons hp h2 AllReadyH.nil))
theorem ro {fuel:Nat} {l l':Array Bool} {a a':Act} {w:World} {K:Act→World→Prop} (hK:Shut (∀ a w,S w→(S w→wpAnyH P md ops Q S fuel l a w)→K a w)) (hS:S w) (h:S w→wpAnyH P md ops Q S fuel l' a' w)
  (ha:a=a':=by ((try simp only [Act.put,sA,sZ,sS,gA,gZ,gS]);try exact rfl)) (hl:l=l':=by ((try simp only [sA,sZ,sS]);try exact rfl)):K a w:=hK.out _ _ hS (by rw [ha,hl];exact h)
end
end Go.Proofs.YtjebigodbnefiaaGreatDoor
