/- A numbered line's end: its cells; the law's words on it: copied, counted, compared, marked, held; what lay in memory stands but for the marked row. LapbNew, the program's and the model's; no condition. LapbRight, the program's: is an end of a numbered line right; what lay in memory stands. Is a numbered frame right: the program's walk and the model's; memory that was there stands. -/
import Derived.Test.YtkcghhkkepndnaaGreatDoorS04
import Derived.Test.YtkcghhkkepndnaaGreatDoorShW
namespace Go.Proofs.YtkcghhkkepndnaaGreatDoor
open Go.RowKit
structure Lp where
 wi:Int
 vs:Int
 va:Int
 vr:Int
 ak:Bool
def lpC (p:Lp) (v:Value):Array Value:=#[.int .i64 p.wi,.int .i64 p.vs,.int .i64 p.va,.int .i64 p.vr,v,.bool p.ak]
theorem row6l {w:World} {B:Nat} {x0 x1 x2 x3 x4 x5:Value} {T:TypeId} (h:w.heap[B]?=some (.cells #[x0,x1,x2,x3,x4,x5] T)) :
  w.cell? ⟨B,0,none⟩=some x0∧w.cell? ⟨B,1,none⟩=some x1∧w.cell? ⟨B,2,none⟩=some x2∧w.cell? ⟨B,3,none⟩=some x3∧w.cell? ⟨B,4,none⟩=some x4∧w.cell? ⟨B,5,none⟩=some x5 :=
 ⟨by rw [cell_of_row _ _ 0 _ _ (0,0) h];rfl,by rw [cell_of_row _ _ 1 _ _ (0,0) h];rfl,by rw [cell_of_row _ _ 2 _ _ (0,0) h];rfl,by rw [cell_of_row _ _ 3 _ _ (0,0) h];rfl,by rw [cell_of_row _ _ 4 _ _ (0,0) h];rfl,by rw [cell_of_row _ _ 5 _ _ (0,0) h];rfl⟩
theorem new2l (w:World) (a b:Obj):((w.alloc a).alloc b).heap[w.heap.size]?=some a∧((w.alloc a).alloc b).heap[w.heap.size+1]?=some b∧Below w.heap.size w ((w.alloc a).alloc b)∧((w.alloc a).alloc b).heap.size=w.heap.size+2:=by
 have hs:(w.alloc a).heap.size=w.heap.size+1:=by simp
 refine ⟨(Below.heap_alloc _ _ _ (by rw [hs];omega)).trans (heap_alloc_new w a),by rw [← hs];exact heap_alloc_new _ _,((Below.refl _ _).alloc (Nat.le_refl _) _).alloc (by rw [hs];omega) _,by simp⟩
theorem new3l (w:World) (a b c:Obj):(((w.alloc a).alloc b).alloc c).heap[w.heap.size]?=some a∧(((w.alloc a).alloc b).alloc c).heap[w.heap.size+1]?=some b∧(((w.alloc a).alloc b).alloc c).heap[w.heap.size+1+1]?=some c∧Below w.heap.size w (((w.alloc a).alloc b).alloc c)∧(((w.alloc a).alloc b).alloc c).heap.size=w.heap.size+3:=by
 obtain ⟨h1,h2,h3,h4⟩:=new2l w a b
 refine ⟨(Below.heap_alloc _ _ _ (by rw [h4];omega)).trans h1,(Below.heap_alloc _ _ _ (by rw [h4];omega)).trans h2,by rw [show w.heap.size+1+1=((w.alloc a).alloc b).heap.size by rw [h4]];exact heap_alloc_new _ _,h3.alloc (by rw [h4];omega) _,by simp⟩
theorem frz6l {w:World} {B:Nat} {x0 x1 x2 x3 x4 x5:Value} {T:TypeId} (h:w.heap[B]?=some (.cells #[x0,x1,x2,x3,x4,x5] T)) :
  w.frozen? ⟨B,0,none⟩=false∧w.frozen? ⟨B,1,none⟩=false∧w.frozen? ⟨B,2,none⟩=false∧w.frozen? ⟨B,3,none⟩=false∧w.frozen? ⟨B,4,none⟩=false∧w.frozen? ⟨B,5,none⟩=false :=
 ⟨frz h _,frz h _,frz h _,frz h _,frz h _,frz h _⟩
theorem set6_lp {W:World} {E:Nat} {z0 z1 z2 z3 z4 z5:Value} {T:TypeId} (h:W.heap[E]?=some (.cells #[z0,z1,z2,z3,z4,z5] T)) (x0 x1 x2 x3 x4 x5:Value) :
  ((((((W.setCell ⟨E,0,none⟩ x0).setCell ⟨E,1,none⟩ x1).setCell ⟨E,2,none⟩ x2).setCell ⟨E,3,none⟩ x3).setCell ⟨E,4,none⟩ x4).setCell ⟨E,5,none⟩ x5).heap[E]?=some (.cells #[x0,x1,x2,x3,x4,x5] T) :=
 heap_setCell_same _ _ 5 _ _ x5 (heap_setCell_same _ _ 4 _ _ x4 (heap_setCell_same _ _ 3 _ _ x3 (heap_setCell_same _ _ 2 _ _ x2 (heap_setCell_same _ _ 1 _ _ x1 (heap_setCell_same _ _ 0 _ _ x0 h)))))
theorem set6_lb {n:Nat} {w W:World} {E:Nat} (h:Below n w W) (hE:n≤E) (x0 x1 x2 x3 x4 x5:Value) :
  Below n w ((((((W.setCell ⟨E,0,none⟩ x0).setCell ⟨E,1,none⟩ x1).setCell ⟨E,2,none⟩ x2).setCell ⟨E,3,none⟩ x3).setCell ⟨E,4,none⟩ x4).setCell ⟨E,5,none⟩ x5) :=
 (((((h.setCell (p:=⟨E,0,none⟩) hE _).setCell (p:=⟨E,1,none⟩) hE _).setCell (p:=⟨E,2,none⟩) hE _).setCell (p:=⟨E,3,none⟩) hE _).setCell (p:=⟨E,4,none⟩) hE _).setCell (p:=⟨E,5,none⟩) hE _
theorem HoldsT.set {w:World} {v:Value} {L:List ByteArray} (h:HoldsT w v L) {a:Addr} (hne:∀ g,v.ownBlock=some g→g≠a.block) (x:Value):HoldsT (w.setCell a x) v L:=by
 rcases h with ⟨ad,cp,e,e0⟩ | ⟨g,cp,cur,e,q1,q2⟩
 ·exact Or.inl ⟨ad,cp,e,e0⟩
 ·exact Or.inr ⟨g,cp,cur,e,(heap_setCell_other _ _ _ _ (hne g (by rw [e];rfl))).trans q1,q2⟩
theorem infoL:(Tryz.prog.info? 54).map (·.size)=some 6:=by kernel_rfl
theorem loadL {W:World} {E:Nat} {cs:Array Value} (h:W.heap[E]?=some (.cells cs 54)) (hs:cs.size=6:=by rfl):(loadVar 54 ⟨E,0,none⟩).run Tryz.prog W=.ok (.agg cs) W :=
 run_loadVar_row (P:=Tryz.prog) _ _ 54 54 cs (0,0) _ h Tryz.underlying54 rfl (by rw [hs];exact infoL)
def lpZero:Lp:=⟨0,0,0,0,false⟩
def winOk (x:Int):Bool:=decide (1≤x) && decide (x≤7)
def lpNew (x:Int):Lp:=if winOk x=true then ⟨x,0,0,0,false⟩ else lpZero
set_option maxHeartbeats 400000 in
theorem iWin (x:Int) (w:World):Calls Tryz.prog 25 #[.int .i64 x] w fun e w'=>e=.returned (.bool (winOk x))∧w'=w:=by
 have C:=hide fun v=>iWithin x 1 7 v
 unfold winOk
 go_enter Tryz.func25,Tryz.ntmps25
 go_wp2_with fail
 refine (uh C _).mono ?_
 rintro e w2 ⟨rfl,hw⟩
 replace hw:=hw.symm
 subst hw
 go_wp2
 go_ret
 exact ⟨rfl,rfl⟩
theorem sWin (x:Int) (w:World):Calls Tryz.prog 29 #[.int .i64 x,.int .i64 1,.int .i64 7] w fun e w'=>e=.returned (.bool (winOk x))∧w'=w:=sWithin x 1 7 w
set_option maxHeartbeats 1000000 in
theorem implLpNew (x:Int) (w:World):Calls Tryz.prog 37 #[.int .i64 x] w fun e w'=>e=.returned (.agg (lpC (lpNew x) (.slice none 0 0)))∧Below w.heap.size w w':=by
 have C:=hide fun v=>iWin x v
 unfold lpNew lpC
 cases hk:winOk x
 ·rw [hk] at C
  rw [if_neg (by decide)]
  unfold lpZero
  dsimp only
  clear hk
  go_enter Tryz.func37,Tryz.ntmps37
  go_wp2_with fail
  refine (uh C _).mono ?_
  rintro e w2 ⟨rfl,hw⟩
  replace hw:=hw.symm
  subst hw
  go_wp2
  refine bodyPost_ret (v:=.agg #[.int .i64 0,.int .i64 0,.int .i64 0,.int .i64 0,.slice none 0 0,.bool false]) (by simp [results,Tryz.results37,go_sem]) rfl ⟨rfl,?_⟩
  exact (Below.refl _ _).alloc (Nat.le_refl _) _
 ·rw [hk] at C
  rw [if_pos rfl]
  dsimp only
  clear hk
  go_enter Tryz.func37,Tryz.ntmps37
  go_wp2_with fail
  refine (uh C _).mono ?_
  rintro e w2 ⟨rfl,hw⟩
  replace hw:=hw.symm
  subst hw
  go_wp2
  refine bodyPost_ret (v:=.agg #[.int .i64 x,.int .i64 0,.int .i64 0,.int .i64 0,.slice none 0 0,.bool false]) (by simp [results,Tryz.results37,go_sem]) rfl ⟨rfl,?_⟩
  exact (Below.refl _ _).alloc (Nat.le_refl _) _
set_option maxHeartbeats 1000000 in
theorem specLpNew (x:Int) (w:World):Calls Tryz.prog 30 #[.int .i64 x] w fun e w'=>e=.returned (.agg (lpC (lpNew x) (.slice none 0 0)))∧Below w.heap.size w w':=by
 have C:=hide fun v=>sWin x v
 unfold lpNew lpC
 cases hk:winOk x
 ·rw [hk] at C
  rw [if_neg (by decide)]
  unfold lpZero
  dsimp only
  clear hk
  go_enter Tryz.func30,Tryz.ntmps30
  go_wp2_with fail
  refine (uh C _).mono ?_
  rintro e w2 ⟨rfl,hw⟩
  replace hw:=hw.symm
  subst hw
  go_wp2
  refine bodyPost_ret (v:=.agg #[.int .i64 0,.int .i64 0,.int .i64 0,.int .i64 0,.slice none 0 0,.bool false]) (by simp [results,Tryz.results30,go_sem]) rfl ⟨rfl,?_⟩
  exact (Below.refl _ _).alloc (Nat.le_refl _) _
 ·rw [hk] at C
  rw [if_pos rfl]
  dsimp only
  clear hk
  go_enter Tryz.func30,Tryz.ntmps30
  go_wp2_with fail
  refine (uh C _).mono ?_
  rintro e w2 ⟨rfl,hw⟩
  replace hw:=hw.symm
  subst hw
  go_wp2
  refine bodyPost_ret (v:=.agg #[.int .i64 x,.int .i64 0,.int .i64 0,.int .i64 0,.slice none 0 0,.bool false]) (by simp [results,Tryz.results30,go_sem]) rfl ⟨rfl,?_⟩
  exact (Below.refl _ _).alloc (Nat.le_refl _) _
def numOk (x:Int):Bool:=decide (0≤x) && decide (x≤7)
def qOk (L:List ByteArray):Bool:=decide (L.length≤20) && L.all fun t=>decide (t.size≤200)
def far (n a:Int):Int:=(n - a) % 8
def lpOk (p:Lp) (L:List ByteArray):Bool:=winOk p.wi && (numOk p.vs && (numOk p.va && (numOk p.vr && (qOk L && (decide (far p.vs p.va≤p.wi) && decide (far p.vs p.va≤L.length))))))
theorem numOk_iff {x:Int} (h:numOk x=true):0≤x∧x≤7:=by simpa [numOk] using h
theorem winOk_iff {x:Int} (h:winOk x=true):1≤x∧x≤7:=by simpa [winOk] using h
theorem all_take {L:List ByteArray} {i:Nat} (hi:i<L.length):((L.take (i+1)).all fun t=>decide (t.size≤200))=(((L.take i).all fun t=>decide (t.size≤200)) && decide (L[i].size≤200)):=by
 rw [List.take_succ_eq_append_getElem hi,List.all_append]
 simp
theorem all_not {L:List ByteArray} {i:Nat} (hi:i<L.length) (h:¬ L[i].size≤200):(L.all fun t=>decide (t.size≤200))=false:=by
 rw [← Bool.not_eq_true]
 intro h2
 exact h (of_decide_eq_true (List.all_eq_true.1 h2 _ (List.getElem_mem hi)))
def HoldsS (w:World) (v:Value) (L:List ByteArray):Prop :=
 (∃ ad cp,v=.slice ad 0 cp∧L=[])∨∃ g o cp cur,v=.slice (some ⟨g,o,none⟩) L.length cp∧w.heap[g]?=some (.cells cur 9)∧∀ j (hj:j<L.length),cur[o+j]?=some (.string L[j])
theorem HoldsT.s {w:World} {v:Value} {L:List ByteArray} (h:HoldsT w v L):HoldsS w v L:=by
 rcases h with ⟨ad,cp,h1,h2⟩ | ⟨g,cp,cur,h1,h2,h3,h4⟩
 ·exact Or.inl ⟨ad,cp,h1,h2⟩
 ·refine Or.inr ⟨g,0,cp,cur,h1,h2,fun j hj=>?_⟩
  rw [Nat.zero_add,h4 j hj]
  exact scells_get L j _ (List.getElem?_eq_getElem hj)
theorem HoldsS.form {w:World} {v:Value} {L:List ByteArray} (h:HoldsS w v L):∃ ad cp,v=.slice ad L.length cp:=by
 rcases h with ⟨ad,cp,h1,h2⟩ | ⟨g,o,cp,cur,h1,_⟩
 ·exact ⟨ad,cp,by rw [h1,h2];rfl⟩
 ·exact ⟨_,_,h1⟩
theorem HoldsS.below {w w':World} {v:Value} {L:List ByteArray} (h:HoldsS w v L) (hb:Below w.heap.size w w'):HoldsS w' v L:=by
 rcases h with ⟨ad,cp,h1,h2⟩ | ⟨g,o,cp,cur,h1,h2,h3⟩
 ·exact Or.inl ⟨ad,cp,h1,h2⟩
 ·exact Or.inr ⟨g,o,cp,cur,h1,(hb.block g (Array.getElem?_eq_some_iff.1 h2).1).trans h2,h3⟩
theorem HoldsS.get {w:World} {v:Value} {L:List ByteArray} (h:HoldsS w v L) (i:Nat) (hi:i<L.length):∃ g o cp,v=.slice (some ⟨g,o,none⟩) L.length cp∧g<w.heap.size∧w.cell? ⟨g,o+i,none⟩=some (.string L[i]):=by
 rcases h with ⟨_,_,_,e⟩ | ⟨g,o,cp,cur,e,q1,q2⟩
 ·rw [e] at hi;exact absurd hi (Nat.not_lt_zero _)
 ·exact ⟨g,o,cp,e,(Array.getElem?_eq_some_iff.1 q1).1,by rw [cell_of_row _ _ _ _ _ _ q1];exact q2 i hi⟩
theorem HoldsS.other {w w':World} {v:Value} {L:List ByteArray} (h:HoldsS w v L) (hw:∀ g cur,v.ownBlock=some g→w.heap[g]?=some (.cells cur 9)→w'.heap[g]?=w.heap[g]?):HoldsS w' v L:=by
 rcases h with ⟨ad,cp,h1,h2⟩ | ⟨g,o,cp,cur,h1,h2,h3⟩
 ·exact Or.inl ⟨ad,cp,h1,h2⟩
 ·exact Or.inr ⟨g,o,cp,cur,h1,(hw g cur (by rw [h1];rfl) h2).trans h2,h3⟩
theorem holdsS_nil (w:World) (ad:Option Addr) (cp:Nat):HoldsS w (.slice ad 0 cp) []:=Or.inl ⟨ad,cp,rfl,rfl⟩
set_option maxHeartbeats 2000000 in
theorem iQueue (v:Value) (L:List ByteArray) (w:World) (hl:L.length≤1048576) (h:HoldsS w v L):Calls Tryz.prog 24 #[v] w fun e w'=>e=.returned (.bool (qOk L))∧Below w.heap.size w w':=by
 obtain ⟨x,y,rfl⟩:=h.form
 have HA:=hide h
 clear h
 obtain ⟨n,hn⟩:∃ n,L.length=n:=⟨_,rfl⟩
 unfold qOk
 rw [hn] at hl ⊢
 by_cases h20:n≤20
 ·rw [show decide (n≤20)=true from decide_eq_true h20,Bool.true_and]
  have d1:¬ ((20:Int)<(n:Int)):=by omega
  obtain ⟨R,hR⟩:∃ R,(L.all fun t=>decide (t.size≤200))=R:=⟨_,rfl⟩
  rw [hR]
  have HR:=hide hR
  clear hR
  go_enter Tryz.func24,Tryz.ntmps24
  go_wp2_with fail
  go_loopw [10] (fun y wr=>∃ (i:Nat),i≤n∧y=.int .i64 i∧wr=w∧((L.take i).all fun t=>decide (t.size≤200))=true) (fun y _=>n - (intOf y).toNat)
  case atStart=>exact ⟨0,Nat.zero_le _,rfl,rfl,rfl⟩
  case round =>
   obtain ⟨i,hi,rfl,rfl,ha⟩:=hrel
   by_cases hlt:i<n
   ·have d2:(i:Int)<(n:Int):=by omega
    have d0:(0:Int)≤(i:Int):=by omega
    obtain ⟨g,o,cp,e1,hg,k1⟩:=(uh HA).get i (by omega)
    cases e1
    by_cases h2:(L[i]'(by omega)).size≤200
    ·have hT:=all_take (L:=L) (i:=i) (by omega)
     rw [ha,decide_eq_true h2,Bool.true_and] at hT
     have HT:=hide hT
     have d3:¬ ((200:Int)<((L[i]'(by omega)).size:Int)):=by omega
     generalize L[i]'(by omega)=t at *
     clear ha hT
     go_wp2
     go_roundw
     case rel=>exact ⟨i+1,by omega,by go_num,trivial,uh HT⟩
     case measure=>simp [intOf];omega
    ·have hT:=all_not (L:=L) (i:=i) (by omega) h2
     have hR:=(uh HR).symm.trans hT
     subst hR
     have d3:(200:Int)<((L[i]'(by omega)).size:Int):=by omega
     generalize L[i]'(by omega)=t at *
     clear ha hT
     go_wp2
     go_ret
     exact ⟨rfl,Below.refl _ _⟩
   ·have e:i=n:=by omega
    subst e
    rw [List.take_of_length_le (by omega)] at ha
    have hR:=(uh HR).symm.trans ha
    subst hR
    have d1:¬ ((i:Int)<(i:Int)):=by omega
    clear ha
    go_wp2
    go_ret
    exact ⟨rfl,Below.refl _ _⟩
 ·rw [show decide (n≤20)=false from decide_eq_false h20,Bool.false_and]
  have d1:(20:Int)<(n:Int):=by omega
  go_enter Tryz.func24,Tryz.ntmps24
  go_wp2
  go_ret
  exact ⟨rfl,Below.refl _ _⟩
theorem far_lt (n a:Int):0≤far n a∧far n a<8:=by unfold far;omega
set_option maxHeartbeats 400000 in
theorem iFar (n a:Int) (hn:0≤n∧n≤7) (ha:0≤a∧a≤7) (w:World):Calls Tryz.prog 83 #[.int .i64 n,.int .i64 a] w fun e w'=>e=.returned (.int .i64 (far n a))∧w'=w:=by
 unfold far
 go_enter Tryz.func83,Tryz.ntmps83
 go_wp2
 go_ret
 exact ⟨ret_int (by omega),rfl⟩
set_option maxHeartbeats 4000000 in
theorem iLpRight (p:Lp) (x:Option Addr) (y:Nat) (L:List ByteArray) (w:World) (hl:L.length≤1048576) (h:HoldsS w (.slice x L.length y) L) :
  Calls Tryz.prog 58 #[.agg (lpC p (.slice x L.length y))] w fun e w'=>e=.returned (.bool (lpOk p L))∧Below w.heap.size w w':=by
 have C1:=hide fun v=>iWin p.wi v
 have C2:=hide fun v=>iNumber p.vs v
 have C3:=hide fun v=>iNumber p.va v
 have C4:=hide fun v=>iNumber p.vr v
 have C5:=hide fun W (hb:Below w.heap.size w W)=>iQueue _ L W hl (h.below hb)
 have hA:=hide ((Below.refl w.heap.size w).alloc (Nat.le_refl _) (.cells (lpC p (.slice x L.length y)) 54))
 have hN:=hide (heap_alloc_new w (.cells (lpC p (.slice x L.length y)) 54))
 obtain ⟨R,hR⟩:∃ R,lpOk p L=R:=⟨_,rfl⟩
 rw [hR]
 unfold lpOk at hR
 have n2:(decide (0≤p.vs) && decide (p.vs≤7))=numOk p.vs:=rfl
 have n3:(decide (0≤p.va) && decide (p.va≤7))=numOk p.va:=rfl
 have n4:(decide (0≤p.vr) && decide (p.vr≤7))=numOk p.vr:=rfl
 rw [n2] at C2
 rw [n3] at C3
 rw [n4] at C4
 obtain ⟨wi,vs,va,vr,ak⟩:=p
 unfold lpC at hA hN ⊢
 dsimp only at *
 clear h n2 n3 n4
 generalize hn:L.length=n at *
 cases b1:winOk wi
 ·rw [b1] at hR
  simp only [Bool.false_and] at hR
  subst hR
  rw [b1] at C1
  go_enter Tryz.func58,Tryz.ntmps58
  go_wp2_with fail
  refine (uh C1 _).mono ?_
  rintro e w2 ⟨rfl,hw⟩
  replace hw:=hw.symm
  subst hw
  go_wp2
  go_ret
  exact ⟨rfl,uh hA⟩
 cases b2:numOk vs
 ·rw [b1,b2] at hR
  simp only [Bool.true_and,Bool.false_and] at hR
  subst hR
  rw [b1] at C1
  rw [b2] at C2
  go_enter Tryz.func58,Tryz.ntmps58
  go_wp2_with fail
  refine (uh C1 _).mono ?_
  rintro e w2 ⟨rfl,hw⟩
  replace hw:=hw.symm
  subst hw
  go_wp2_with fail
  refine (uh C2 _).mono ?_
  rintro e w2 ⟨rfl,hw⟩
  replace hw:=hw.symm
  subst hw
  go_wp2
  go_ret
  exact ⟨rfl,uh hA⟩
 cases b3:numOk va
 ·rw [b1,b2,b3] at hR
  simp only [Bool.true_and,Bool.false_and] at hR
  subst hR
  rw [b1] at C1
  rw [b2] at C2
  rw [b3] at C3
  go_enter Tryz.func58,Tryz.ntmps58
  go_wp2_with fail
  refine (uh C1 _).mono ?_
  rintro e w2 ⟨rfl,hw⟩
  replace hw:=hw.symm
  subst hw
  go_wp2_with fail
  refine (uh C2 _).mono ?_
  rintro e w2 ⟨rfl,hw⟩
  replace hw:=hw.symm
  subst hw
  go_wp2_with fail
  refine (uh C3 _).mono ?_
  rintro e w2 ⟨rfl,hw⟩
  replace hw:=hw.symm
  subst hw
  go_wp2
  go_ret
  exact ⟨rfl,uh hA⟩
 cases b4:numOk vr
 ·rw [b1,b2,b3,b4] at hR
  simp only [Bool.true_and,Bool.false_and] at hR
  subst hR
  rw [b1] at C1
  rw [b2] at C2
  rw [b3] at C3
  rw [b4] at C4
  go_enter Tryz.func58,Tryz.ntmps58
  go_wp2_with fail
  refine (uh C1 _).mono ?_
  rintro e w2 ⟨rfl,hw⟩
  replace hw:=hw.symm
  subst hw
  go_wp2_with fail
  refine (uh C2 _).mono ?_
  rintro e w2 ⟨rfl,hw⟩
  replace hw:=hw.symm
  subst hw
  go_wp2_with fail
  refine (uh C3 _).mono ?_
  rintro e w2 ⟨rfl,hw⟩
  replace hw:=hw.symm
  subst hw
  go_wp2_with fail
  refine (uh C4 _).mono ?_
  rintro e w2 ⟨rfl,hw⟩
  replace hw:=hw.symm
  subst hw
  go_wp2
  go_ret
  exact ⟨rfl,uh hA⟩
 cases b5:qOk L
 ·rw [b1,b2,b3,b4,b5] at hR
  simp only [Bool.true_and,Bool.false_and] at hR
  subst hR
  rw [b1] at C1
  rw [b2] at C2
  rw [b3] at C3
  rw [b4] at C4
  rw [b5] at C5
  go_enter Tryz.func58,Tryz.ntmps58
  go_wp2_with fail
  refine (uh C1 _).mono ?_
  rintro e w2 ⟨rfl,hw⟩
  replace hw:=hw.symm
  subst hw
  go_wp2_with fail
  refine (uh C2 _).mono ?_
  rintro e w2 ⟨rfl,hw⟩
  replace hw:=hw.symm
  subst hw
  go_wp2_with fail
  refine (uh C3 _).mono ?_
  rintro e w2 ⟨rfl,hw⟩
  replace hw:=hw.symm
  subst hw
  go_wp2_with fail
  refine (uh C4 _).mono ?_
  rintro e w2 ⟨rfl,hw⟩
  replace hw:=hw.symm
  subst hw
  go_wp2_with fail
  refine (uh C5 _ (uh hA)).mono ?_
  rintro e w2 ⟨rfl,hb⟩
  go_wp2
  go_ret
  exact ⟨rfl,(uh hA).trans (hb.mono (uh hA).size)⟩
 rw [b1,b2,b3,b4,b5] at hR
 simp only [Bool.true_and] at hR
 rw [b1] at C1
 rw [b2] at C2
 rw [b3] at C3
 rw [b4] at C4
 rw [b5] at C5
 have CF:=hide fun v=>iFar vs va (numOk_iff b2) (numOk_iff b3) v
 obtain ⟨f0,f8⟩:=far_lt vs va
 have w1:=winOk_iff b1
 generalize far vs va=f at *
 go_enter Tryz.func58,Tryz.ntmps58
 go_wp2_with fail
 refine (uh C1 _).mono ?_
 rintro e w2 ⟨rfl,hw⟩
 replace hw:=hw.symm
 subst hw
 go_wp2_with fail
 refine (uh C2 _).mono ?_
 rintro e w2 ⟨rfl,hw⟩
 replace hw:=hw.symm
 subst hw
 go_wp2_with fail
 refine (uh C3 _).mono ?_
 rintro e w2 ⟨rfl,hw⟩
 replace hw:=hw.symm
 subst hw
 go_wp2_with fail
 refine (uh C4 _).mono ?_
 rintro e w2 ⟨rfl,hw⟩
 replace hw:=hw.symm
 subst hw
 go_wp2_with fail
 refine (uh C5 _ (uh hA)).mono ?_
 rintro e w2 ⟨rfl,hb⟩
 have k0:=(hb.block w.heap.size (by simp)).trans (uh hN)
 obtain ⟨a0,a1,a2,a3,a4,a5⟩:=row6l k0
 have HB:=hide ((uh hA).trans (hb.mono (uh hA).size))
 clear k0 hb hA hN C1 C2 C3 C4 C5
 go_wp2_with fail
 go_quiet (first
  | (go_at_call 83;exact Calls.quiet_of_same (uh CF _)))
 all_goals
  go_wp2
  all_goals
   go_ret
   refine ⟨ret_bool ?_,(uh HB).os,(uh HB).tape,(uh HB).output,(uh HB).size,(uh HB).block⟩
   rw [← hR,Bool.eq_iff_iff]
   simp
   omega
set_option maxHeartbeats 2000000 in
theorem iNbRight (f:Nb) (w:World):Calls Tryz.prog 109 #[nbV f] w fun e w'=>e=.returned (.bool (nbOk f))∧Below w.heap.size w w':=by
 have C1:=hide fun v=>iNumber f.nr v
 have C2:=hide fun v=>iNumber f.ns v
 obtain ⟨R,hR⟩:∃ R,nbOk f=R:=⟨_,rfl⟩
 rw [hR]
 refine nb_ways f _ (fun a r=>?_) (fun a k b r=>?_) (fun a k b c r=>?_) (fun a k b c r=>?_) (fun a k b r=>?_) (fun a k b c r=>?_) (fun a k b c r=>?_) (fun a k b c r=>?_)
 all_goals
  rw [hR] at r
  subst r
  clear hR
  obtain ⟨kd,ns,nr,t⟩:=f
  dsimp only at *
 ·rw [out7 a] at C1
  clear a C2
  go_enter Tryz.func109,Tryz.ntmps109
  go_wp2_with (first
   | (go_at_call 82;refine (uh C1 _).mono ?_;rintro e w2 ⟨rfl,rfl⟩))
  go_ret
  exact ⟨rfl,(Below.refl _ _).alloc (Nat.le_refl _) _⟩
 ·rw [in7 a] at C1
  rw [out7 b] at C2
  subst k
  clear a b
  go_enter Tryz.func109,Tryz.ntmps109
  go_wp2_with fail
  refine (uh C1 _).mono ?_
  rintro e w2 ⟨rfl,rfl⟩
  go_wp2_with fail
  refine (uh C2 _).mono ?_
  rintro e w2 ⟨rfl,rfl⟩
  go_wp2
  go_ret
  exact ⟨rfl,(Below.refl _ _).alloc (Nat.le_refl _) _⟩
 ·rw [in7 a] at C1
  rw [in7 b] at C2
  subst k
  have f1:decide ((t.size:Int)≤200)=false:=decide_eq_false (by omega)
  clear a b c
  go_enter Tryz.func109,Tryz.ntmps109
  go_wp2_with fail
  refine (uh C1 _).mono ?_
  rintro e w2 ⟨rfl,rfl⟩
  go_wp2_with fail
  refine (uh C2 _).mono ?_
  rintro e w2 ⟨rfl,rfl⟩
  go_wp2
  go_ret
  exact ⟨rfl,(Below.refl _ _).alloc (Nat.le_refl _) _⟩
 ·rw [in7 a] at C1
  rw [in7 b] at C2
  subst k
  have f1:decide ((t.size:Int)≤200)=true:=decide_eq_true (by omega)
  clear a b c
  go_enter Tryz.func109,Tryz.ntmps109
  go_wp2_with fail
  refine (uh C1 _).mono ?_
  rintro e w2 ⟨rfl,rfl⟩
  go_wp2_with fail
  refine (uh C2 _).mono ?_
  rintro e w2 ⟨rfl,rfl⟩
  go_wp2
  go_ret
  exact ⟨rfl,(Below.refl _ _).alloc (Nat.le_refl _) _⟩
 ·rw [in7 a] at C1
  have f1:(ns == 0)=false:=beq_eq_false_iff_ne.2 b
  clear a C2
  rcases k with rfl | rfl
  all_goals
   go_enter Tryz.func109,Tryz.ntmps109
   go_wp2_with fail
   refine (uh C1 _).mono ?_
   rintro e w2 ⟨rfl,rfl⟩
   go_wp2
   go_ret
   exact ⟨rfl,(Below.refl _ _).alloc (Nat.le_refl _) _⟩
 ·rw [in7 a] at C1
  subst b
  have f1:=nonempty_of c
  clear a C2 c
  rcases k with rfl | rfl
  all_goals
   go_enter Tryz.func109,Tryz.ntmps109
   go_wp2_with fail
   refine (uh C1 _).mono ?_
   rintro e w2 ⟨rfl,rfl⟩
   go_wp2
   go_ret
   exact ⟨rfl,(Below.refl _ _).alloc (Nat.le_refl _) _⟩
 ·rw [in7 a] at C1
  rw [empty_of c]
  subst b
  clear a C2 c
  rcases k with rfl | rfl
  all_goals
   go_enter Tryz.func109,Tryz.ntmps109
   go_wp2_with fail
   refine (uh C1 _).mono ?_
   rintro e w2 ⟨rfl,rfl⟩
   go_wp2
   go_ret
   exact ⟨rfl,(Below.refl _ _).alloc (Nat.le_refl _) _⟩
 ·rw [in7 a] at C1
  have f1:(kd == 1)=false:=beq_eq_false_iff_ne.2 k
  have f2:(kd == 2)=false:=beq_eq_false_iff_ne.2 b
  have f3:(kd == 3)=false:=beq_eq_false_iff_ne.2 c
  clear a C2
  go_enter Tryz.func109,Tryz.ntmps109
  go_wp2_with fail
  refine (uh C1 _).mono ?_
  rintro e w2 ⟨rfl,rfl⟩
  go_wp2
  go_ret
  exact ⟨rfl,(Below.refl _ _).alloc (Nat.le_refl _) _⟩
set_option maxHeartbeats 2000000 in
theorem sNbRight (f:Nb) (w:World):Calls Tryz.prog 98 #[nbV f] w fun e w'=>e=.returned (.bool (nbOk f))∧Below w.heap.size w w':=by
 have C1:=hide fun v=>sNumber f.nr v
 have C2:=hide fun v=>sNumber f.ns v
 obtain ⟨R,hR⟩:∃ R,nbOk f=R:=⟨_,rfl⟩
 rw [hR]
 unfold nbOk at hR
 obtain ⟨kd,ns,nr,t⟩:=f
 dsimp only at *
 by_cases k:kd=1
 ·by_cases b:0≤ns∧ns≤7
  ·by_cases a:0≤nr∧nr≤7
   ·by_cases c:t.size≤200
    ·have hr:R=true:=by rw [← hR];exact decide_eq_true (by omega)
     subst hr
     clear hR
     rw [in7 a] at C1
     rw [in7 b] at C2
     subst k
     have f1:decide ((t.size:Int)≤200)=true:=decide_eq_true (by omega)
     clear a b c
     go_enter Tryz.func98,Tryz.ntmps98
     go_wp2_with fail
     refine (uh C2 _).mono ?_
     rintro e w2 ⟨rfl,rfl⟩
     go_wp2_with fail
     refine (uh C1 _).mono ?_
     rintro e w2 ⟨rfl,rfl⟩
     go_wp2
     go_ret
     exact ⟨rfl,(Below.refl _ _).alloc (Nat.le_refl _) _⟩
    ·have hr:R=false:=by rw [← hR];exact decide_eq_false (by omega)
     subst hr
     clear hR
     rw [in7 a] at C1
     rw [in7 b] at C2
     subst k
     have f1:decide ((t.size:Int)≤200)=false:=decide_eq_false (by omega)
     clear a b c
     go_enter Tryz.func98,Tryz.ntmps98
     go_wp2_with fail
     refine (uh C2 _).mono ?_
     rintro e w2 ⟨rfl,rfl⟩
     go_wp2_with fail
     refine (uh C1 _).mono ?_
     rintro e w2 ⟨rfl,rfl⟩
     go_wp2
     go_ret
     exact ⟨rfl,(Below.refl _ _).alloc (Nat.le_refl _) _⟩
   ·have hr:R=false:=by rw [← hR];exact decide_eq_false (by omega)
    subst hr
    clear hR
    rw [out7 a] at C1
    rw [in7 b] at C2
    subst k
    clear a b
    go_enter Tryz.func98,Tryz.ntmps98
    go_wp2_with fail
    refine (uh C2 _).mono ?_
    rintro e w2 ⟨rfl,rfl⟩
    go_wp2_with fail
    refine (uh C1 _).mono ?_
    rintro e w2 ⟨rfl,rfl⟩
    go_wp2
    go_ret
    exact ⟨rfl,(Below.refl _ _).alloc (Nat.le_refl _) _⟩
  ·have hr:R=false:=by rw [← hR];exact decide_eq_false (by omega)
   subst hr
   clear hR
   rw [out7 b] at C2
   subst k
   clear b
   go_enter Tryz.func98,Tryz.ntmps98
   go_wp2_with fail
   refine (uh C2 _).mono ?_
   rintro e w2 ⟨rfl,rfl⟩
   go_wp2
   go_ret
   exact ⟨rfl,(Below.refl _ _).alloc (Nat.le_refl _) _⟩
 ·have f1:(kd == 1)=false:=beq_eq_false_iff_ne.2 k
  by_cases k2:kd=2∨kd=3
  ·by_cases b:ns=0
   ·by_cases a:0≤nr∧nr≤7
    ·by_cases c:t.size=0
     ·have hr:R=true:=by rw [← hR];exact decide_eq_true (by omega)
      subst hr
      clear hR k f1
      rw [in7 a] at C1
      rw [empty_of c]
      subst b
      clear a c C2
      rcases k2 with rfl | rfl
      all_goals
       go_enter Tryz.func98,Tryz.ntmps98
       go_wp2_with fail
       refine (uh C1 _).mono ?_
       rintro e w2 ⟨rfl,rfl⟩
       go_wp2
       go_ret
       exact ⟨rfl,(Below.refl _ _).alloc (Nat.le_refl _) _⟩
     ·have hr:R=false:=by rw [← hR];exact decide_eq_false (by omega)
      subst hr
      clear hR k f1
      rw [in7 a] at C1
      have f4:=nonempty_of c
      subst b
      clear a c C2
      rcases k2 with rfl | rfl
      all_goals
       go_enter Tryz.func98,Tryz.ntmps98
       go_wp2_with fail
       refine (uh C1 _).mono ?_
       rintro e w2 ⟨rfl,rfl⟩
       go_wp2
       go_ret
       exact ⟨rfl,(Below.refl _ _).alloc (Nat.le_refl _) _⟩
    ·have hr:R=false:=by rw [← hR];exact decide_eq_false (by omega)
     subst hr
     clear hR k f1
     rw [out7 a] at C1
     subst b
     clear a C2
     rcases k2 with rfl | rfl
     all_goals
      go_enter Tryz.func98,Tryz.ntmps98
      go_wp2_with fail
      refine (uh C1 _).mono ?_
      rintro e w2 ⟨rfl,rfl⟩
      go_wp2
      go_ret
      exact ⟨rfl,(Below.refl _ _).alloc (Nat.le_refl _) _⟩
   ·have hr:R=false:=by rw [← hR];exact decide_eq_false (by omega)
    subst hr
    clear hR k f1
    have f4:(ns == 0)=false:=beq_eq_false_iff_ne.2 b
    clear C1 C2
    rcases k2 with rfl | rfl
    all_goals
     go_enter Tryz.func98,Tryz.ntmps98
     go_wp2
     go_ret
     exact ⟨rfl,(Below.refl _ _).alloc (Nat.le_refl _) _⟩
  ·have hr:R=false:=by rw [← hR];exact decide_eq_false (by omega)
   subst hr
   clear hR
   have f2:(kd == 2)=false:=beq_eq_false_iff_ne.2 (by omega)
   have f3:(kd == 3)=false:=beq_eq_false_iff_ne.2 (by omega)
   clear C1 C2 k2
   go_enter Tryz.func98,Tryz.ntmps98
   go_wp2
   go_ret
   exact ⟨rfl,(Below.refl _ _).alloc (Nat.le_refl _) _⟩
end Go.Proofs.YtkcghhkkepndnaaGreatDoor
