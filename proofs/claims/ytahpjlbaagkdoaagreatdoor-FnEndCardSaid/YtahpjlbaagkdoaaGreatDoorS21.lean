/- RepFin SpecRep -/
import Derived.Test.YtahpjlbaagkdoaaGreatDoorS20
import Derived.Test.YtahpjlbaagkdoaaGreatDoorS15
namespace Go.Proofs.YtahpjlbaagkdoaaGreatDoor
open Go.Proofs.Tryz
theorem mx_go (l:List (Int × Op.Opt)) (b:Int):b≤l.foldl (fun m v=>max m v.1) b∧(∀ v ∈ l,v.1≤l.foldl (fun m v=>max m v.1) b)∧(l.foldl (fun m v=>max m v.1) b=b∨∃ v ∈ l,l.foldl (fun m v=>max m v.1) b=v.1):=by
 induction l generalizing b with
 | nil=>simp
 | cons x l ih =>
  rw [List.foldl_cons];obtain ⟨h1,h2,h3⟩:=ih (max b x.1);refine ⟨by omega,fun v hv=>?_,?_⟩
  ·rcases List.mem_cons.1 hv with rfl | hv
   ·omega
   ·exact h2 v hv
  ·rcases h3 with h3 | ⟨v,hv,h3⟩
   ·rw [h3];by_cases hb:x.1≤b
    ·left;omega
    ·right;exact ⟨x,by simp,by omega⟩
   ·right;exact ⟨v,by simp [hv],h3⟩
theorem fl_nil {x:Int} {l:List (Int × Op.Opt)} (h:fl x l=[]):∀ v ∈ l,v.1≠x:=by
 intro v hv e;have:v.2 ∈ fl x l:=by
  unfold fl;exact List.mem_map.2 ⟨v,List.mem_filter.2 ⟨hv,by simp [e]⟩,rfl⟩
 rw [h] at this;cases this
theorem fl_some {x:Int} {l:List (Int × Op.Opt)} (h:fl x l≠[]):∃ v ∈ l,v.1=x:=by
 obtain ⟨o,ho⟩:=List.exists_mem_of_ne_nil _ h;unfold fl at ho;obtain ⟨v,hv,_⟩:=List.mem_map.1 ho;obtain ⟨h1,h2⟩:=List.mem_filter.1 hv;exact ⟨v,h1,by simpa using h2⟩
theorem one_code (m a g:Nat) (p c d:Bool) (o:Op.Opt):((one m a g p c d o).1=2∧(one m a g p c d o).2=o)∨(one m a g p c d o).1=3∨(one m a g p c d o).1=4:=by
 unfold one;split
 ·rcases codeK_cases a g p c d o.kind (numOf o.data.data.toList) with h | h | h
  ·left
   rw [h];exact ⟨rfl,rfl⟩
  ·right;left;exact h
  ·right;right;exact h
 ·right;right;rfl
theorem vdAt_code (m a g:Nat) (p c d:Bool) (L:List Op.Opt) (i:Nat) (hi:i<L.length):((vdAt m a g p c d L i).1=2∧(vdAt m a g p c d L i).2=L[i])∨(vdAt m a g p c d L i).1=3∨(vdAt m a g p c d L i).1=4:=by
 rw [vdAt_lt m a g p c d L i hi];unfold verd;split
 ·right;right;rfl
 ·exact one_code m a g p c d _
theorem vdl_mem {m a g:Nat} {p c d:Bool} {L:List Op.Opt} {n:Nat} {v:Int × Op.Opt} (h:v ∈ vdl m a g p c d L n):∃ i,i<n∧v=vdAt m a g p c d L i:=by
 unfold vdl at h;obtain ⟨i,hi,e⟩:=List.mem_map.1 h;exact ⟨i,by simpa using hi,e.symm⟩
theorem vdl_get (m a g:Nat) (p c d:Bool) (L:List Op.Opt) (n i:Nat) (hi:i<n):vdAt m a g p c d L i ∈ vdl m a g p c d L n:=by
 unfold vdl;exact List.mem_map.2 ⟨i,by simpa using hi,rfl⟩
theorem rep_fin (m a g:Nat) (p c d:Bool) (L:List Op.Opt) :
  (fl 4 (vdl m a g p c d L L.length)≠[]→mx (vdl m a g p c d L L.length)=4)∧(fl 4 (vdl m a g p c d L L.length)=[]→fl 3 (vdl m a g p c d L L.length)≠[]→mx (vdl m a g p c d L L.length)=3) ∧
   (fl 4 (vdl m a g p c d L L.length)=[]→fl 3 (vdl m a g p c d L L.length)=[]→mx (vdl m a g p c d L L.length)=2∧fl 2 (vdl m a g p c d L L.length)=L):=by
 have hc:∀ v ∈ vdl m a g p c d L L.length,v.1=2∨v.1=3∨v.1=4:=by
  intro v hv;obtain ⟨i,hi,rfl⟩:=vdl_mem hv;rcases vdAt_code m a g p c d L i hi with h | h | h
  ·exact Or.inl h.1
  ·exact Or.inr (Or.inl h)
  ·exact Or.inr (Or.inr h)
 have hall:∀ n,n≤L.length→(∀ i,i<n→(vdAt m a g p c d L i).1=2)→fl 2 (vdl m a g p c d L n)=L.take n:=by
  intro n;induction n with
  | zero=>intro _ _;rfl
  | succ n ih =>
   intro hn h;rw [vdl_succ,fl_snoc,ih (by omega) fun i hi=>h i (by omega),List.take_succ_eq_append_getElem (by omega),h n (by omega)];have:=vdAt_code m a g p c d L n (by omega)
   rw [h n (by omega)] at this;rcases this with ⟨_,e⟩ | e | e
   ·rw [e];rfl
   ·cases e
   ·cases e
 obtain ⟨h1,h2,h3⟩:=mx_go (vdl m a g p c d L L.length) 2;replace h1:2≤mx (vdl m a g p c d L L.length):=h1;replace h2:∀ v ∈ (vdl m a g p c d L L.length),v.1≤mx (vdl m a g p c d L L.length):=h2;replace h3:mx (vdl m a g p c d L L.length)=2∨∃ v ∈ (vdl m a g p c d L L.length),mx (vdl m a g p c d L L.length)=v.1:=h3;refine ⟨fun h=>?_,fun h4 h=>?_,fun h4 h3'=>?_⟩
 ·obtain ⟨v,hv,e⟩:=fl_some h;have:=h2 v hv
  rcases h3 with h3 | ⟨u,hu,h3⟩
  ·omega
  ·have:=hc u hu
   omega
 ·obtain ⟨v,hv,e⟩:=fl_some h;have:=h2 v hv
  rcases h3 with h3 | ⟨u,hu,h3⟩
  ·omega
  ·have:=hc u hu
   have:=fl_nil h4 u hu
   omega
 ·have h22:∀ i,i<L.length→(vdAt m a g p c d L i).1=2:=by
   intro i hi;have hv:=vdl_get m a g p c d L L.length i hi;have:=hc _ hv
   have:=fl_nil h4 _ hv
   have:=fl_nil h3' _ hv
   omega
  refine ⟨?_,by rw [hall L.length (Nat.le_refl _) h22,List.take_length]⟩;rcases h3 with h3 | ⟨u,hu,h3⟩
  ·exact h3
  ·obtain ⟨i,hi,rfl⟩:=vdl_mem hu;rw [h3,h22 i hi]
end Go.Proofs.YtahpjlbaagkdoaaGreatDoor
namespace Go.Proofs.YtahpjlbaagkdoaaGreatDoor
open Go.RowKit Go.Proofs.Tryz
structure RpS (w:World) (N:Nat) (C:Array Value) (vn vr:Value) (Fn Fr:List Op.Opt) (q:World):Prop where
 c:q.heap[w.heap.size]?=some (.cells C 24)
 r:q.heap[w.heap.size+1]?=some (.cells #[.int .i64 0,.slice none 0 0] 81)
 n:q.heap[N]?=some (.cells #[.int .i64 3,vn] 81)
 j:q.heap[N+1]?=some (.cells #[.int .i64 4,vr] 81)
 b:Below w.heap.size w q
 on:q.ownsRow (N+1+1) 116 2 vn Fn.length (ocells Fn)
 oj:q.ownsRow (N+1+1) 116 2 vr Fr.length (ocells Fr)
 dj:∀ g,vn.ownBlock=some g→vr.ownBlock≠some g
 lt:w.heap.size+1<N
theorem RpS.size {w:World} {N:Nat} {C:Array Value} {vn vr:Value} {Fn Fr:List Op.Opt} {q:World} (h:RpS w N C vn vr Fn Fr q):N+1<q.heap.size:=(ge.1 h.j).1
theorem RpS.step {w:World} {N:Nat} {C:Array Value} {vn vr:Value} {Fn Fr:List Op.Opt} {q q':World} (h:RpS w N C vn vr Fn Fr q) (hb:Below q.heap.size q q'):RpS w N C vn vr Fn Fr q':=by
 have hs:=h.size;have hl:=h.lt;exact ⟨(hb.block _ (by omega)).trans h.c,(hb.block _ (by omega)).trans h.r,(hb.block _ (by omega)).trans h.n,(hb.block _ hs).trans h.j,h.b.trans (hb.mono h.b.size),own_blk h.on fun g hg=>hb.block g (World.ownsRow.lt h.on g hg).2,own_blk h.oj fun g hg=>hb.block g (World.ownsRow.lt h.oj g hg).2,h.dj,hl⟩
theorem RpS.drew {w:World} {N:Nat} {C:Array Value} {vn vr:Value} {Fn Fr:List Op.Opt} {q:World} (h:RpS w N C vn vr Fn Fr q):RpS w N C vn vr Fn Fr q.drew :=
 h.step ⟨rfl,rfl,rfl,Nat.le_refl _,fun _ _=>rfl⟩
theorem RpS.drewN {w:World} {N:Nat} {C:Array Value} {vn vr:Value} {Fn Fr:List Op.Opt} {q:World} (h:RpS w N C vn vr Fn Fr q) (k:Nat):RpS w N C vn vr Fn Fr (q.drewN k) :=
 h.step ⟨rfl,rfl,rfl,Nat.le_refl _,fun _ _=>rfl⟩
theorem RpS.putX {w:World} {N:Nat} {C:Array Value} {vn vr:Value} {Fn Fr:List Op.Opt} {q:World} (h:RpS w N C vn vr Fn Fr q) (X i:Nat) (x:Value) (hX:N+1<X) (h1:∀ g,vn.ownBlock=some g→g≠X) (h2:∀ g,vr.ownBlock=some g→g≠X):RpS w N C vn vr Fn Fr (q.setCell ⟨X,i,none⟩ x):=by
 have hl:=h.lt;refine ⟨?_,?_,?_,?_,h.b.setCell (p:=⟨X,i,none⟩) (by simp;omega) _,own_blk h.on fun g hg=>Below.heap_setCell _ _ _ _ (h1 g hg),own_blk h.oj fun g hg=>Below.heap_setCell _ _ _ _ (h2 g hg),h.dj,hl⟩
 ·rw [Below.heap_setCell _ _ _ _ (by simp;omega)];exact h.c
 ·rw [Below.heap_setCell _ _ _ _ (by simp;omega)];exact h.r
 ·rw [Below.heap_setCell _ _ _ _ (by simp;omega)];exact h.n
 ·rw [Below.heap_setCell _ _ _ _ (by simp;omega)];exact h.j
theorem RpS.appN {w:World} {N:Nat} {C:Array Value} {vn vr v':Value} {Fn Fr:List Op.Opt} {q w6:World} {kd:Int} {dt:ByteArray} (h:RpS w N C vn vr Fn Fr q) (ho:w6.ownsRow (N+1+1) 116 2 v' (Fn.length+1) (ocells (Fn ++ [⟨kd,dt⟩])))
  (hg:(q.alloc (.cells #[.int .i64 kd,.string dt] 116)).grownBy w6 vn.ownBlock) (hat:v'.ownBlock=vn.ownBlock∨v'.ownBlock=some (q.heap.size+1)):RpS w N C v' vr (Fn ++ [⟨kd,dt⟩]) Fr (w6.setCell ⟨N,1,none⟩ v'):=by
 have hs:=h.size;have hl:=h.lt;have blk:∀ g,g<q.heap.size→vn.ownBlock≠some g→w6.heap[g]?=q.heap[g]?:=fun g hgl hne=>(hg.block g (by simp;omega) (fun e=>hne e.symm)).trans (Below.heap_alloc _ _ _ hgl)
 have nb:∀ g,g≤N+1→vn.ownBlock≠some g:=fun g hgl e=>by have:=(World.ownsRow.lt h.on g e).1;omega
 have hN:=(blk N (by omega) (nb N (by omega))).trans h.n;have hB:Below w.heap.size w w6:=h.b.trans ⟨hg.os.trans rfl,hg.tape.trans rfl,hg.output.trans rfl,Nat.le_trans (by simp) hg.size,fun g hgl=>blk g (by omega) (nb g (by omega))⟩;refine ⟨?_,?_,heap_setCell_same _ _ 1 _ _ _ hN,?_,hB.setCell (p:=⟨N,1,none⟩) (by simp;omega) _,?_,?_,?_,hl⟩
 ·rw [Below.heap_setCell _ _ _ _ (by simp;omega)];exact (blk _ (by omega) (nb _ (by omega))).trans h.c
 ·rw [Below.heap_setCell _ _ _ _ (by simp;omega)];exact (blk _ (by omega) (nb _ (by omega))).trans h.r
 ·rw [Below.heap_setCell _ _ _ _ (by simp)];exact (blk _ hs (nb _ (by omega))).trans h.j
 ·have:=own_blk (w':=w6.setCell ⟨N,1,none⟩ v') ho fun g hgo=>Below.heap_setCell _ _ _ _ (by have:=(World.ownsRow.lt ho g hgo).1;simp;omega)
  rw [List.length_append];exact this
 ·refine own_blk (w:=q) h.oj fun g hgo=>?_
  have h2:=World.ownsRow.lt h.oj g hgo;rw [Below.heap_setCell _ _ _ _ (by simp;omega)];exact blk g h2.2 fun e=>h.dj g e hgo
 ·intro g e1 e2;have h2:=World.ownsRow.lt h.oj g e2;rcases hat with e | e
  ·exact h.dj g (e ▸ e1) e2
  ·rw [e] at e1;cases e1;omega
theorem RpS.appR {w:World} {N:Nat} {C:Array Value} {vn vr v':Value} {Fn Fr:List Op.Opt} {q w6:World} {kd:Int} {dt:ByteArray} (h:RpS w N C vn vr Fn Fr q) (ho:w6.ownsRow (N+1+1) 116 2 v' (Fr.length+1) (ocells (Fr ++ [⟨kd,dt⟩])))
  (hg:(q.alloc (.cells #[.int .i64 kd,.string dt] 116)).grownBy w6 vr.ownBlock) (hat:v'.ownBlock=vr.ownBlock∨v'.ownBlock=some (q.heap.size+1)):RpS w N C vn v' Fn (Fr ++ [⟨kd,dt⟩]) (w6.setCell ⟨N+1,1,none⟩ v'):=by
 have hs:=h.size;have hl:=h.lt;have blk:∀ g,g<q.heap.size→vr.ownBlock≠some g→w6.heap[g]?=q.heap[g]?:=fun g hgl hne=>(hg.block g (by simp;omega) (fun e=>hne e.symm)).trans (Below.heap_alloc _ _ _ hgl)
 have nb:∀ g,g≤N+1→vr.ownBlock≠some g:=fun g hgl e=>by have:=(World.ownsRow.lt h.oj g e).1;omega
 have hN:=(blk (N+1) (by omega) (nb (N+1) (by omega))).trans h.j;have hB:Below w.heap.size w w6:=h.b.trans ⟨hg.os.trans rfl,hg.tape.trans rfl,hg.output.trans rfl,Nat.le_trans (by simp) hg.size,fun g hgl=>blk g (by omega) (nb g (by omega))⟩;refine ⟨?_,?_,?_,heap_setCell_same _ _ 1 _ _ _ hN,hB.setCell (p:=⟨N+1,1,none⟩) (by simp;omega) _,?_,?_,?_,hl⟩
 ·rw [Below.heap_setCell _ _ _ _ (by simp;omega)];exact (blk _ (by omega) (nb _ (by omega))).trans h.c
 ·rw [Below.heap_setCell _ _ _ _ (by simp;omega)];exact (blk _ (by omega) (nb _ (by omega))).trans h.r
 ·rw [Below.heap_setCell _ _ _ _ (by simp)];exact (blk _ (by omega) (nb _ (by omega))).trans h.n
 ·refine own_blk (w:=q) h.on fun g hgo=>?_
  have h2:=World.ownsRow.lt h.on g hgo;rw [Below.heap_setCell _ _ _ _ (by simp;omega)];exact blk g h2.2 fun e=>h.dj g hgo e
 ·have:=own_blk (w':=w6.setCell ⟨N+1,1,none⟩ v') ho fun g hgo=>Below.heap_setCell _ _ _ _ (by have:=(World.ownsRow.lt ho g hgo).1;simp;omega)
  rw [List.length_append];exact this
 ·intro g e1 e2;have h2:=World.ownsRow.lt h.on g e1;rcases hat with e | e
  ·exact h.dj g e1 (e ▸ e2)
  ·rw [e] at e2;cases e2;omega
structure RpX (w:World) (N:Nat) (C:Array Value) (vn vr:Value) (Fn Fr:List Op.Opt) (kd:Int) (t:ByteArray) (X:Nat) (q:World):Prop where
 s:RpS w N C vn vr Fn Fr q
 x:q.heap[X]?=some (.cells #[.int .i64 kd,.string t] 116)
 l:N+1<X
 n1:∀ g,vn.ownBlock=some g→g≠X
 n2:∀ g,vr.ownBlock=some g→g≠X
theorem RpX.step {w:World} {N:Nat} {C:Array Value} {vn vr:Value} {Fn Fr:List Op.Opt} {kd:Int} {t:ByteArray} {X:Nat} {q q':World} (h:RpX w N C vn vr Fn Fr kd t X q) (hb:Below q.heap.size q q'):RpX w N C vn vr Fn Fr kd t X q' :=
 ⟨h.s.step hb,(hb.block _ (ge.1 h.x).1).trans h.x,h.l,h.n1,h.n2⟩
theorem RpX.drewN {w:World} {N:Nat} {C:Array Value} {vn vr:Value} {Fn Fr:List Op.Opt} {kd:Int} {t:ByteArray} {X:Nat} {q:World} (h:RpX w N C vn vr Fn Fr kd t X q) (k:Nat):RpX w N C vn vr Fn Fr kd t X (q.drewN k) :=
 h.step ⟨rfl,rfl,rfl,Nat.le_refl _,fun _ _=>rfl⟩
theorem RpX.new1 {w:World} {N:Nat} {C:Array Value} {vn vr:Value} {Fn Fr:List Op.Opt} {q q':World} (h:RpS w N C vn vr Fn Fr q) (hb:Below q.heap.size q q') (kd:Int) (t:ByteArray) :
  RpX w N C vn vr Fn Fr kd t q'.heap.size (q'.alloc (.cells #[.int .i64 kd,.string t] 116)):=by
 have hs:=h.size;have h2:=hb.size;refine ⟨(h.step hb).step ((Below.refl _ _).alloc (Nat.le_refl _) _),heap_alloc_new q' _,by omega,fun g hg=>?_,fun g hg=>?_⟩
 ·have:=(World.ownsRow.lt h.on g hg).2;omega
 ·have:=(World.ownsRow.lt h.oj g hg).2;omega
theorem RpX.put {w:World} {N:Nat} {C:Array Value} {vn vr:Value} {Fn Fr:List Op.Opt} {kd:Int} {t:ByteArray} {X:Nat} {q:World} (h:RpX w N C vn vr Fn Fr kd t X q) (kd':Int) (t':ByteArray) :
  RpX w N C vn vr Fn Fr kd' t' X ((q.setCell ⟨X,0,none⟩ (.int .i64 kd')).setCell ⟨X,1,none⟩ (.string t')) :=
 ⟨(h.s.putX X 0 _ h.l h.n1 h.n2).putX X 1 _ h.l h.n1 h.n2,set2_at h.x _ _,h.l,h.n1,h.n2⟩
theorem RpX.new2 {w:World} {N:Nat} {C:Array Value} {vn vr:Value} {Fn Fr:List Op.Opt} {q q':World} (h:RpS w N C vn vr Fn Fr q) (k0:Int) (t0:ByteArray) (hb:Below (q.alloc (.cells #[.int .i64 k0,.string t0] 116)).heap.size (q.alloc (.cells #[.int .i64 k0,.string t0] 116)) q') (kd:Int) (t:ByteArray) :
  RpX w N C vn vr Fn Fr kd t q.heap.size ((q'.setCell ⟨q.heap.size,0,none⟩ (.int .i64 kd)).setCell ⟨q.heap.size,1,none⟩ (.string t)) :=
 ((RpX.new1 h (Below.refl _ _) k0 t0).step hb).put kd t
end Go.Proofs.YtahpjlbaagkdoaaGreatDoor
