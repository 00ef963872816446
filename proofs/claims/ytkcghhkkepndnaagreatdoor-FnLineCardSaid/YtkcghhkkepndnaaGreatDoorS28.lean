/- The model's LapbHear, where it takes what came; what lay in memory stands. -/
import Derived.Test.YtkcghhkkepndnaaGreatDoorS27
import Derived.Test.YtkcghhkkepndnaaGreatDoorS24
import Derived.Test.YtkcghhkkepndnaaGreatDoorShW
namespace Go.Proofs.YtkcghhkkepndnaaGreatDoor
open Go.RowKit
theorem drop_holds {q:World} {ua:Option Addr} {n uc j:Nat} {L:List ByteArray} (h:HoldsR q (.slice ua n uc) L) (hn:L.length=n) (hj:j≤n) (hc:n≤uc) :
  HoldsR q (.slice (if uc=j then ua else Option.map (fun x=>x.add j) ua) (n - j) (uc - j)) (L.drop j)∧∀ g,(Value.slice (if uc=j then ua else Option.map (fun x=>x.add j) ua) (n - j) (uc - j)).ownBlock=some g→(Value.slice ua n uc).ownBlock=some g:=by
 have hlen:(L.drop j).length=n - j:=by rw [List.length_drop,hn]
 refine ⟨⟨?_,?_⟩,fun g hg=>?_⟩
 ·by_cases e0:n - j=0
  ·rw [e0]
   refine Or.inl ⟨_,_,rfl,List.eq_nil_of_length_eq_zero ?_⟩
   omega
  ·have hne:¬ (uc=j):=by omega
   rw [if_neg hne]
   rcases h.1 with ⟨ad,cp,e1,e2⟩ | ⟨g,o,cp,cur,e1,e2,e3⟩
   ·rw [e2] at hn
    simp at hn
    omega
   ·cases e1
    refine Or.inr ⟨g,o+j,uc - j,cur,by rw [hlen];simp [Addr.add_lit],e2,fun i hi=>?_⟩
    rw [hlen] at hi
    rw [show o+j+i=o+(j+i) by omega,e3 (j+i) (by omega)]
    simp
 ·rcases h.2 with e1 | ⟨g,o,n',cp,cur,e1,e2,e3,e4⟩
  ·cases e1
   have:j=0:=by omega
   subst this
   exact Or.inl rfl
  ·cases e1
   by_cases e0:uc=j
   ·rw [if_pos e0]
    exact Or.inr ⟨g,o,n - j,uc - j,cur,rfl,e2,by omega,by omega⟩
   ·rw [if_neg e0]
    exact Or.inr ⟨g,o+j,n - j,uc - j,cur,by simp [Addr.add_lit],e2,by omega,by omega⟩
 ·by_cases e0:uc=j
  ·rw [if_pos e0] at hg
   cases ua with
   | none=>cases hg
   | some a=>exact hg
  ·rw [if_neg e0] at hg
   cases ua with
   | none=>cases hg
   | some a =>
    have e1:(a.add j).block=g:=Option.some.inj hg
    have e2:(a.add j).block=a.block:=by unfold Addr.add;split<;>rfl
    show some a.block=some g
    rw [← e1,e2]
theorem set6_in9 {W:World} {E:Nat} {z0 z1 z2 z3 z4 z5 z6 z7 z8:Value} {T:TypeId} (h:W.heap[E]?=some (.cells #[z0,z1,z2,z3,z4,z5,z6,z7,z8] T)) (x0 x1 x2 x3 x4 x5:Value) :
  ((((((W.setCell ⟨E,0,none⟩ x0).setCell ⟨E,1,none⟩ x1).setCell ⟨E,2,none⟩ x2).setCell ⟨E,3,none⟩ x3).setCell ⟨E,4,none⟩ x4).setCell ⟨E,5,none⟩ x5).heap[E]?=some (.cells #[x0,x1,x2,x3,x4,x5,z6,z7,z8] T):=by
 rw [heap_setCell_same _ _ 5 _ _ x5 (heap_setCell_same _ _ 4 _ _ x4 (heap_setCell_same _ _ 3 _ _ x3 (heap_setCell_same _ _ 2 _ _ x2 (heap_setCell_same _ _ 1 _ _ x1 (heap_setCell_same _ _ 0 _ _ x0 h)))))]
 simp only [List.setIfInBounds_toArray,List.set_cons_zero,List.set_cons_succ]
theorem set6_ot {W:World} {E k:Nat} (hk:k≠E) (x0 x1 x2 x3 x4 x5:Value) :
  ((((((W.setCell ⟨E,0,none⟩ x0).setCell ⟨E,1,none⟩ x1).setCell ⟨E,2,none⟩ x2).setCell ⟨E,3,none⟩ x3).setCell ⟨E,4,none⟩ x4).setCell ⟨E,5,none⟩ x5).heap[k]?=W.heap[k]?:=by
 have f:∀ (V:World) (i:Nat) (x:Value),(V.setCell ⟨E,i,none⟩ x).heap[k]?=V.heap[k]?:=fun V i x=>heap_setCell_other _ _ _ _ hk
 rw [f,f,f,f,f,f]
structure Ms (w:World) (bl bf:Array Value) (O X:Nat) (co cx:Array Value) (v vf vg:Value) (Q:List ByteArray) (F:List Nb) (G:List ByteArray) (q:World):Prop where
 l:q.heap[w.heap.size]?=some (.cells bl 54)
 f:q.heap[w.heap.size+1]?=some (.cells bf 96)
 r:q.heap[w.heap.size+1+1]?=some (.cells #[.int .i64 0,.int .i64 0,.int .i64 0,.int .i64 0,.slice none 0 0,.bool false,.slice none 0 0,.slice none 0 0,.int .i64 0] 79)
 o:q.heap[O]?=some (.cells co 54)
 x:q.heap[X]?=some (.cells cx 79)
 hv:HoldsR q v Q
 hf:HoldsN q vf F
 hg:HoldsS q vg G
 b:Below w.heap.size w q
 wO:w.heap.size+1+1<O
 wX:O<X
theorem Ms.setO {w:World} {bl bf:Array Value} {O X:Nat} {co cx:Array Value} {v vf vg:Value} {Q:List ByteArray} {F:List Nb} {G:List ByteArray} {q:World} (h:Ms w bl bf O X co cx v vf vg Q F G q) (i:Nat) (u:Value):Ms w bl bf O X (co.setIfInBounds i u) cx v vf vg Q F G (q.setCell ⟨O,i,none⟩ u):=by
 have:=h.wO
 have:=h.wX
 have hk:∀ k,k≠O→(q.setCell ⟨O,i,none⟩ u).heap[k]?=q.heap[k]?:=fun k hk=>heap_setCell_other _ _ _ _ hk
 have nO:∀ g cur T,T≠54→q.heap[g]?=some (.cells cur T)→g≠O:=fun g cur T hT h1 e=>by
  rw [e,h.o] at h1
  cases h1
  exact hT rfl
 exact ⟨(hk _ (by omega)).trans h.l,(hk _ (by omega)).trans h.f,(hk _ (by omega)).trans h.r,heap_setCell_same _ _ i _ _ _ h.o,(hk _ (by omega)).trans h.x,h.hv.other fun g cur _ e=>hk g (nO g cur _ (by decide) e),h.hf.other fun g cur _ e=>hk g (nO g cur _ (by decide) e),h.hg.other fun g cur _ e=>hk g (nO g cur _ (by decide) e),h.b.setCell (p:=⟨O,i,none⟩) (by show w.heap.size≤O;omega) _,h.wO,h.wX⟩
theorem Ms.setX {w:World} {bl bf:Array Value} {O X:Nat} {co cx:Array Value} {v vf vg:Value} {Q:List ByteArray} {F:List Nb} {G:List ByteArray} {q:World} (h:Ms w bl bf O X co cx v vf vg Q F G q) (i:Nat) (u:Value):Ms w bl bf O X co (cx.setIfInBounds i u) v vf vg Q F G (q.setCell ⟨X,i,none⟩ u):=by
 have:=h.wO
 have:=h.wX
 have hk:∀ k,k≠X→(q.setCell ⟨X,i,none⟩ u).heap[k]?=q.heap[k]?:=fun k hk=>heap_setCell_other _ _ _ _ hk
 have nX:∀ g cur T,T≠79→q.heap[g]?=some (.cells cur T)→g≠X:=fun g cur T hT h1 e=>by
  rw [e,h.x] at h1
  cases h1
  exact hT rfl
 exact ⟨(hk _ (by omega)).trans h.l,(hk _ (by omega)).trans h.f,(hk _ (by omega)).trans h.r,(hk _ (by omega)).trans h.o,heap_setCell_same _ _ i _ _ _ h.x,h.hv.other fun g cur _ e=>hk g (nX g cur _ (by decide) e),h.hf.other fun g cur _ e=>hk g (nX g cur _ (by decide) e),h.hg.other fun g cur _ e=>hk g (nX g cur _ (by decide) e),h.b.setCell (p:=⟨X,i,none⟩) (by show w.heap.size≤X;omega) _,h.wO,h.wX⟩
theorem Ms.step {w:World} {bl bf:Array Value} {O X:Nat} {co cx:Array Value} {v vf vg:Value} {Q:List ByteArray} {F:List Nb} {G:List ByteArray} {q q':World} (h:Ms w bl bf O X co cx v vf vg Q F G q) (hb:Below q.heap.size q q'):Ms w bl bf O X co cx v vf vg Q F G q' :=
 ⟨(hb.block _ (Array.getElem?_eq_some_iff.1 h.l).1).trans h.l,(hb.block _ (Array.getElem?_eq_some_iff.1 h.f).1).trans h.f,(hb.block _ (Array.getElem?_eq_some_iff.1 h.r).1).trans h.r,(hb.block _ (Array.getElem?_eq_some_iff.1 h.o).1).trans h.o,(hb.block _ (Array.getElem?_eq_some_iff.1 h.x).1).trans h.x,h.hv.below hb,h.hf.below hb rfl,h.hg.below hb,h.b.trans (hb.mono h.b.size),h.wO,h.wX⟩
theorem Ms.newG {w:World} {bl bf:Array Value} {O X:Nat} {co cx:Array Value} {v vf vg:Value} {Q:List ByteArray} {F:List Nb} {G:List ByteArray} {q:World} (h:Ms w bl bf O X co cx v vf vg Q F G q) (t:ByteArray) :
  Ms w bl bf O X co (cx.setIfInBounds 7 (.slice (some ⟨q.heap.size,0,none⟩) 1 1)) v vf (.slice (some ⟨q.heap.size,0,none⟩) 1 1) Q F [t] ((q.setCell ⟨X,7,none⟩ (.slice (some ⟨q.heap.size,0,none⟩) 1 1)).alloc (.cells #[.string t] 9)):=by
 have hs:(q.setCell ⟨X,7,none⟩ (.slice (some ⟨q.heap.size,0,none⟩) 1 1)).heap.size=q.heap.size:=World.size_setCell _ _ _
 have h1:=(h.setX 7 (.slice (some ⟨q.heap.size,0,none⟩) 1 1)).step ((Below.refl _ _).alloc (Nat.le_refl _) (.cells #[.string t] 9))
 have hn:=heap_alloc_new (q.setCell ⟨X,7,none⟩ (.slice (some ⟨q.heap.size,0,none⟩) 1 1)) (.cells #[.string t] 9)
 rw [hs] at hn
 exact ⟨h1.l,h1.f,h1.r,h1.o,h1.x,h1.hv,h1.hf,Or.inr ⟨q.heap.size,0,1,_,rfl,hn,fun i hi=>by
  have e:i=0:=by simpa using hi
  subst e
  rfl⟩,h1.b,h1.wO,h1.wX⟩
theorem Ms.newF {w:World} {bl bf:Array Value} {O X:Nat} {co cx:Array Value} {v vf vg:Value} {Q:List ByteArray} {F:List Nb} {G:List ByteArray} {q:World} (h:Ms w bl bf O X co cx v vf vg Q F G q) (kd nr:Int) :
  Ms w bl bf O X co (cx.setIfInBounds 6 (.slice (some ⟨q.heap.size,0,none⟩) 1 1)) v (.slice (some ⟨q.heap.size,0,none⟩) 1 1) vg Q [⟨kd,0,nr,⟨#[]⟩⟩] G ((q.setCell ⟨X,6,none⟩ (.slice (some ⟨q.heap.size,0,none⟩) 1 1)).alloc (.cells #[.int .i64 kd,.int .i64 0,.int .i64 nr,.string ⟨#[]⟩] 96)):=by
 have hs:(q.setCell ⟨X,6,none⟩ (.slice (some ⟨q.heap.size,0,none⟩) 1 1)).heap.size=q.heap.size:=World.size_setCell _ _ _
 have h1:=(h.setX 6 (.slice (some ⟨q.heap.size,0,none⟩) 1 1)).step ((Below.refl _ _).alloc (Nat.le_refl _) (.cells #[.int .i64 kd,.int .i64 0,.int .i64 nr,.string ⟨#[]⟩] 96))
 have hn:=heap_alloc_new (q.setCell ⟨X,6,none⟩ (.slice (some ⟨q.heap.size,0,none⟩) 1 1)) (.cells #[.int .i64 kd,.int .i64 0,.int .i64 nr,.string ⟨#[]⟩] 96)
 rw [hs] at hn
 exact ⟨h1.l,h1.f,h1.r,h1.o,h1.x,h1.hv,Or.inr ⟨q.heap.size,1,_,rfl,hn,by simp,fun i hi=>by rw [← Array.getElem?_toList];rfl⟩,h1.hg,h1.b,h1.wO,h1.wX⟩
set_option maxHeartbeats 16000000 in
set_option linter.unusedSimpArgs false in
theorem sHearM (p:Lp) (x:Option Addr) (y:Nat) (L:List ByteArray) (f:Nb) (w:World) (hl:L.length≤1048576) (h:HoldsS w (.slice x L.length y) L) (hk:lpOk p L=true) (hf:nbOk f=true) (hg:far f.nr p.va≤far p.vs p.va) :
  Calls Tryz.prog 78 #[.agg (lpC p (.slice x L.length y)),nbV f] w fun e q=>AnsW w (hearG p (L.drop (far f.nr p.va).toNat) f) e q:=by
 have C1:=hide fun W (hb:Below w.heap.size w W)=>sLpRight p x y L W hl (h.below hb)
 have C0:=hide fun W=>sNbRight f W
 have C2:=hide fun W (hb:Below w.heap.size w W)=>sCopyL p x y L W hl (h.below hb)
 rw [hk] at C1
 rw [hf] at C0
 obtain ⟨hN0,hN1,hN2,hbW,hsW⟩:=new3l w (.cells (lpC p (.slice x L.length y)) 54) (.cells #[.int .i64 f.kind,.int .i64 f.ns,.int .i64 f.nr,.string f.text] 96) (.cells #[.int .i64 0,.int .i64 0,.int .i64 0,.int .i64 0,.slice none 0 0,.bool false,.slice none 0 0,.slice none 0 0,.int .i64 0] 79)
 have hr:=lpRt hk
 have hfr:=of_decide_eq_true hf
 have CA:=hide fun v=>sFar f.nr p.va hfr.1 hr.va v
 have CB:=hide fun v=>sFar p.vs p.va hr.vs hr.va v
 obtain ⟨l1,u1⟩:=far_lt f.nr p.va
 have hfl:=hr.fl
 have hvr:=hr.vr
 obtain ⟨j,ej⟩:∃ j,(far f.nr p.va).toNat=j:=⟨_,rfl⟩
 have hj:far f.nr p.va=(j:Int):=by omega
 rw [ej]
 rw [hj] at CA
 have hjl:j≤L.length:=by omega
 obtain ⟨RR,hRR⟩:∃ RR,hearG p (L.drop j) f=RR:=⟨_,rfl⟩
 rw [hRR]
 have HG:=hide hRR
 have d9:¬ (far p.vs p.va<(j:Int)):=by omega
 clear h hk hr hRR
 generalize hfb:far p.vs p.va=fb at *
 generalize hn:L.length=n at *
 obtain ⟨wi,vs,va,vr,ak⟩:=p
 obtain ⟨kf,nf,rf,t⟩:=f
 unfold lpC at hN0 hN1 hN2 hbW hsW C1 C2 ⊢
 dsimp only [nbV] at *
 have H0:=hide (And.intro hN0 (And.intro hN1 (And.intro hN2 hbW)))
 clear hN0 hN1 hN2 hbW hsW
 go_enter Tryz.func78,Tryz.ntmps78
 go_wp2_with fail
 refine (uh C1 _ (uh H0).2.2.2).mono ?_
 rintro e w1 ⟨rfl,hb1⟩
 have H1:=hide (And.intro ((hb1.block _ (Array.getElem?_eq_some_iff.1 (uh H0).1).1).trans (uh H0).1) (And.intro ((hb1.block _ (Array.getElem?_eq_some_iff.1 (uh H0).2.1).1).trans (uh H0).2.1) (And.intro ((hb1.block _ (Array.getElem?_eq_some_iff.1 (uh H0).2.2.1).1).trans (uh H0).2.2.1) ((uh H0).2.2.2.trans (hb1.mono (uh H0).2.2.2.size)))))
 obtain ⟨b0,b1,b2,b3,b4,b5⟩:=row6l (uh H1).1
 obtain ⟨m0,m1,m2,m3⟩:=row4h (uh H1).2.1
 clear hb1 H0 C1
 go_wp2_with fail
 refine (uh C0 _).mono ?_
 rintro e w2 ⟨rfl,hb1⟩
 have H2:=hide (And.intro ((hb1.block _ (Array.getElem?_eq_some_iff.1 (uh H1).1).1).trans (uh H1).1) (And.intro ((hb1.block _ (Array.getElem?_eq_some_iff.1 (uh H1).2.1).1).trans (uh H1).2.1) (And.intro ((hb1.block _ (Array.getElem?_eq_some_iff.1 (uh H1).2.2.1).1).trans (uh H1).2.2.1) ((uh H1).2.2.2.trans (hb1.mono (uh H1).2.2.2.size)))))
 clear b0 b1 b2 b3 b4 b5 m0 m1 m2 m3
 obtain ⟨b0,b1,b2,b3,b4,b5⟩:=row6l (uh H2).1
 obtain ⟨m0,m1,m2,m3⟩:=row4h (uh H2).2.1
 clear hb1 H1 C0
 go_wp2_with fail
 refine (uh CA _).mono ?_
 rintro e w3 ⟨rfl,hw⟩
 replace hw:=hw.symm
 subst hw
 go_wp2_with fail
 refine (uh CB _).mono ?_
 rintro e w3 ⟨rfl,hw⟩
 replace hw:=hw.symm
 subst hw
 go_wp2_with fail
 refine (uh C2 _ (uh H2).2.2.2).mono ?_
 rintro e w4 ⟨ua,uc,rfl,ho,hb4⟩
 have H4:=hide (And.intro ((hb4.block _ (Array.getElem?_eq_some_iff.1 (uh H2).1).1).trans (uh H2).1) (And.intro ((hb4.block _ (Array.getElem?_eq_some_iff.1 (uh H2).2.1).1).trans (uh H2).2.1) (And.intro ((hb4.block _ (Array.getElem?_eq_some_iff.1 (uh H2).2.2.1).1).trans (uh H2).2.2.1) ((uh H2).2.2.2.trans (hb4.mono (uh H2).2.2.2.size)))))
 have hcap:n≤uc:=by
  rcases ho.2 with ⟨e1,e2⟩ | ⟨g,cap,cur,e1,_,_,e4,_⟩
  ·cases e1;omega
  ·cases e1;exact e4
 have hoS:=HoldsR.own (L:=L) (by rw [hn];exact ho)
 have hlo:∀ g,(Value.slice ua n uc).ownBlock=some g→w.heap.size≤g:=fun g hg=>by have:=(ho.lt g hg).1;have:=(uh H2).2.2.2.size;omega
 have hs4:w.heap.size+1+1<w4.heap.size:=(Array.getElem?_eq_some_iff.1 (uh H4).2.2.1).1
 have kN:=heap_alloc_new w4 (.cells #[.int .i64 wi,.int .i64 vs,.int .i64 va,.int .i64 vr,.slice ua n uc,.bool ak] 54)
 have hbN:Below w4.heap.size w4 (w4.alloc (.cells #[.int .i64 wi,.int .i64 vs,.int .i64 va,.int .i64 vr,.slice ua n uc,.bool ak] 54)):=(Below.refl _ _).alloc (Nat.le_refl _) _
 have H5:=hide (And.intro ((hbN.block _ (Array.getElem?_eq_some_iff.1 (uh H4).1).1).trans (uh H4).1) (And.intro ((hbN.block _ (Array.getElem?_eq_some_iff.1 (uh H4).2.1).1).trans (uh H4).2.1) (And.intro ((hbN.block _ (Array.getElem?_eq_some_iff.1 (uh H4).2.2.1).1).trans (uh H4).2.2.1) ((uh H4).2.2.2.trans (hbN.mono (uh H4).2.2.2.size)))))
 have HY:=hide (And.intro (uh H5) (And.intro kN (hoS.below hbN)))
 clear H2 H4 H5 kN hbN hoS ho hb4 C2 CA CB b0 b1 b2 b3 b4 b5 m0 m1 m2 m3
 have HLO:=hide hlo
 clear hlo
 go_upto_region 7 with fail
 refine gen_world (fun q=>(q.heap[w.heap.size]?=some (.cells #[.int .i64 wi,.int .i64 vs,.int .i64 va,.int .i64 vr,.slice x n y,.bool ak] 54)∧q.heap[w.heap.size+1]?=some (.cells #[.int .i64 kf,.int .i64 nf,.int .i64 rf,.string t] 96)∧q.heap[w.heap.size+1+1]?=some (.cells #[.int .i64 0,.int .i64 0,.int .i64 0,.int .i64 0,.slice none 0 0,.bool false,.slice none 0 0,.slice none 0 0,.int .i64 0] 79)∧Below w.heap.size w q)∧q.heap[w4.heap.size]?=some (.cells #[.int .i64 wi,.int .i64 vs,.int .i64 va,.int .i64 vr,.slice ua n uc,.bool ak] 54)∧HoldsR q (.slice ua n uc) L) (uh HY) ?_
 clear HY
 rintro q hq
 obtain ⟨b0,b1,b2,b3,b4,b5⟩:=row6l hq.2.1
 have p4:=frz hq.2.1 4
 have p2:=frz hq.2.1 2
 obtain ⟨m0,m1,m2,m3⟩:=row4h hq.1.2.1
 have HQ:=hide hq
 clear hq
 have dj:(0:Int)≤(j:Int):=by omega
 have djn:(j:Int)≤(n:Int):=by omega
 have djc:(j:Int)≤(uc:Int):=by omega
 have dnc:(n:Int)≤(uc:Int):=by omega
 go_upto_region 8 with fail
 have hd:=drop_holds (uh HQ).2.2 hn hjl hcap
 have hAo:∀ g,(Value.slice (if uc=j then ua else Option.map (fun x=>x.add j) ua) (n - j) (uc - j)).ownBlock=some g→w.heap.size≤g:=fun g hg=>uh HLO g (hd.2 g hg)
 have hnj:(L.drop j).length=n - j:=by rw [List.length_drop,hn]
 have hd1:=hd.1
 clear hd HLO
 generalize hAD:(if uc=j then ua else Option.map (fun x=>x.add j) ua)=AD at *
 generalize hND:n - j=nd at *
 generalize hUD:uc - j=ud at *
 have hq8:(q.setCell ⟨w4.heap.size,4,none⟩ (.slice AD nd ud)).heap[w4.heap.size]?=some (.cells #[.int .i64 wi,.int .i64 vs,.int .i64 va,.int .i64 vr,.slice AD nd ud,.bool ak] 54):=heap_setCell_same _ _ 4 _ _ _ (uh HQ).2.1
 have hk8:∀ k,k≠w4.heap.size→(q.setCell ⟨w4.heap.size,4,none⟩ (.slice AD nd ud)).heap[k]?=q.heap[k]?:=fun k hk=>heap_setCell_other _ _ _ _ hk
 have hS8:HoldsR (q.setCell ⟨w4.heap.size,4,none⟩ (.slice AD nd ud)) (.slice AD nd ud) (L.drop j):=hd1.other fun g cur _ e=>hk8 g (fun e0=>by rw [e0,(uh HQ).2.1] at e;cases e)
 have H8:=hide (And.intro (And.intro ((hk8 _ (by omega)).trans (uh HQ).1.1) (And.intro ((hk8 _ (by omega)).trans (uh HQ).1.2.1) (And.intro ((hk8 _ (by omega)).trans (uh HQ).1.2.2.1) ((uh HQ).1.2.2.2.setCell (p:=⟨w4.heap.size,4,none⟩) (by show w.heap.size≤w4.heap.size;omega) (.slice AD nd ud))))) (And.intro hq8 hS8))
 refine gen_world (fun q=>(q.heap[w.heap.size]?=some (.cells #[.int .i64 wi,.int .i64 vs,.int .i64 va,.int .i64 vr,.slice x n y,.bool ak] 54)∧q.heap[w.heap.size+1]?=some (.cells #[.int .i64 kf,.int .i64 nf,.int .i64 rf,.string t] 96)∧q.heap[w.heap.size+1+1]?=some (.cells #[.int .i64 0,.int .i64 0,.int .i64 0,.int .i64 0,.slice none 0 0,.bool false,.slice none 0 0,.slice none 0 0,.int .i64 0] 79)∧Below w.heap.size w q)∧q.heap[w4.heap.size]?=some (.cells #[.int .i64 wi,.int .i64 vs,.int .i64 va,.int .i64 vr,.slice AD nd ud,.bool ak] 54)∧HoldsR q (.slice AD nd ud) (L.drop j)) (uh H8) ?_
 clear H8 hq8 hk8 hS8 HQ hd1 b0 b1 b2 b3 b4 b5 m0 m1 m2 m3 p4 p2 q
 rintro q hq
 obtain ⟨b0,b1,b2,b3,b4,b5⟩:=row6l hq.2.1
 have p2:=frz hq.2.1 2
 obtain ⟨m0,m1,m2,m3⟩:=row4h hq.1.2.1
 have hOq:w4.heap.size<q.heap.size:=(Array.getElem?_eq_some_iff.1 hq.2.1).1
 have hk9:∀ k,k≠w4.heap.size→(q.setCell ⟨w4.heap.size,2,none⟩ (.int .i64 rf)).heap[k]?=q.heap[k]?:=fun k hk=>heap_setCell_other _ _ _ _ hk
 have hz9:(q.setCell ⟨w4.heap.size,2,none⟩ (.int .i64 rf)).heap.size=q.heap.size:=World.size_setCell _ _ _
 have hM9:Ms w #[.int .i64 wi,.int .i64 vs,.int .i64 va,.int .i64 vr,.slice x n y,.bool ak] #[.int .i64 kf,.int .i64 nf,.int .i64 rf,.string t] w4.heap.size q.heap.size #[.int .i64 wi,.int .i64 vs,.int .i64 rf,.int .i64 vr,.slice AD nd ud,.bool ak] #[.int .i64 0,.int .i64 0,.int .i64 0,.int .i64 0,.slice none 0 0,.bool false,.slice none 0 0,.slice none 0 0,.int .i64 0] (.slice AD nd ud) (.slice none 0 0) (.slice none 0 0) (L.drop j) [] [] ((q.setCell ⟨w4.heap.size,2,none⟩ (.int .i64 rf)).alloc (.cells #[.int .i64 0,.int .i64 0,.int .i64 0,.int .i64 0,.slice none 0 0,.bool false,.slice none 0 0,.slice none 0 0,.int .i64 0] 79)):=by
  have hb9:Below q.heap.size (q.setCell ⟨w4.heap.size,2,none⟩ (.int .i64 rf)) ((q.setCell ⟨w4.heap.size,2,none⟩ (.int .i64 rf)).alloc (.cells #[.int .i64 0,.int .i64 0,.int .i64 0,.int .i64 0,.slice none 0 0,.bool false,.slice none 0 0,.slice none 0 0,.int .i64 0] 79)):=(Below.refl _ _).alloc (by rw [hz9];omega) _
  have hx9:=heap_alloc_new (q.setCell ⟨w4.heap.size,2,none⟩ (.int .i64 rf)) (.cells #[.int .i64 0,.int .i64 0,.int .i64 0,.int .i64 0,.slice none 0 0,.bool false,.slice none 0 0,.slice none 0 0,.int .i64 0] 79)
  rw [hz9] at hx9
  have kk:∀ k,k<q.heap.size→k≠w4.heap.size→((q.setCell ⟨w4.heap.size,2,none⟩ (.int .i64 rf)).alloc (.cells #[.int .i64 0,.int .i64 0,.int .i64 0,.int .i64 0,.slice none 0 0,.bool false,.slice none 0 0,.slice none 0 0,.int .i64 0] 79)).heap[k]?=q.heap[k]?:=fun k h1 h2=>(hb9.block k h1).trans (hk9 k h2)
  refine ⟨(kk _ (by omega) (by omega)).trans hq.1.1,(kk _ (by omega) (by omega)).trans hq.1.2.1,(kk _ (by omega) (by omega)).trans hq.1.2.2.1,(hb9.block _ hOq).trans (heap_setCell_same _ _ 2 _ _ _ hq.2.1),hx9,hq.2.2.other fun g cur _ e=>kk g (Array.getElem?_eq_some_iff.1 e).1 (fun e0=>by rw [e0,hq.2.1] at e;cases e),holdsN_nil _ _ _,holdsS_nil _ _ _,?_,by omega,hOq⟩
  have hbq:=hq.1.2.2.2
  exact (hbq.setCell (p:=⟨w4.heap.size,2,none⟩) (by show w.heap.size≤w4.heap.size;omega) _).alloc (by rw [hz9];exact hbq.size) _
 have H9:=hide hM9
 clear hM9 hk9 hz9 hq
 go_upto_region 11 with fail
 generalize hO:w4.heap.size=O at *
 generalize hXX:q.heap.size=X at *
 refine gen_world (fun q=>Ms w #[.int .i64 wi,.int .i64 vs,.int .i64 va,.int .i64 vr,.slice x n y,.bool ak] #[.int .i64 kf,.int .i64 nf,.int .i64 rf,.string t] O X #[.int .i64 wi,.int .i64 vs,.int .i64 rf,.int .i64 vr,.slice AD nd ud,.bool ak] #[.int .i64 0,.int .i64 0,.int .i64 0,.int .i64 0,.slice none 0 0,.bool false,.slice none 0 0,.slice none 0 0,.int .i64 0] (.slice AD nd ud) (.slice none 0 0) (.slice none 0 0) (L.drop j) [] [] q) (uh H9) ?_
 clear H9 b0 b1 b2 b3 b4 b5 m0 m1 m2 m3 p2
 rintro q1 hm
 obtain ⟨b0,b1,b2,b3,b4,b5⟩:=row6l hm.l
 obtain ⟨m0,m1,m2,m3⟩:=row4h hm.f
 have HM:=hide hm
 clear hm
 unfold hearG at HG
 dsimp only at HG
 by_cases h3:kf=3
 ·rw [if_pos h3] at HG
  subst h3
  have o1:=(row6l (uh HM).o).2.1
  have p1:=frz (uh HM).o 1
  have HE:=hide ((uh HM).setO 1 (.int .i64 rf))
  have HLF:Hid (∀ g,(Value.slice none 0 0).ownBlock=some g→w.heap.size≤g):=hide fun g hg=>by cases hg
  have HLG:Hid (∀ g,(Value.slice none 0 0).ownBlock=some g→w.heap.size≤g):=hide fun g hg=>by cases hg
  clear HM
  go_upto_region 22 with fail
  refine gen_world (fun q=>Ms w #[.int .i64 wi,.int .i64 vs,.int .i64 va,.int .i64 vr,.slice x n y,.bool ak] #[.int .i64 3,.int .i64 nf,.int .i64 rf,.string t] O X #[.int .i64 wi,.int .i64 rf,.int .i64 rf,.int .i64 vr,.slice AD nd ud,.bool ak] #[.int .i64 0,.int .i64 0,.int .i64 0,.int .i64 0,.slice none 0 0,.bool false,.slice none 0 0,.slice none 0 0,.int .i64 0] (.slice AD nd ud) (.slice none 0 0) (.slice none 0 0) (L.drop j) [] [] q) (uh HE) ?_
  clear HE
  rintro z hm
  obtain ⟨o0,o1,o2,o3,o4,o5⟩:=row6l hm.o
  obtain ⟨x0,x1,x2,x3,x4,x5,x6,x7,x8⟩:=row9l hm.x
  obtain ⟨g0,g1,g2,g3,g4,g5,g6,g7,g8⟩:=frz9l hm.x
  have wO:=hm.wO
  have wX:=hm.wX
  have n1:¬ (O=X):=by omega
  have n2:¬ (X=O):=by omega
  have nX:∀ g cur T,T≠79→z.heap[g]?=some (.cells cur T)→g≠X:=fun g cur T hT h1 e=>by
   rw [e,hm.x] at h1
   cases h1
   exact hT rfl
  have e1:=set6_in9 hm.x (.int .i64 wi) (.int .i64 rf) (.int .i64 rf) (.int .i64 vr) (.slice AD nd ud) (.bool ak)
  have ot:=fun (k:Nat) (hk:k≠X)=>set6_ot (W:=z) hk (.int .i64 wi) (.int .i64 rf) (.int .i64 rf) (.int .i64 vr) (.slice AD nd ud) (.bool ak)
  have HE:=hide (And.intro e1 (And.intro ((ot (w.heap.size+1+1) (by omega)).trans hm.r) (And.intro (hm.hv.other fun g cur _ e=>ot g (nX g cur _ (by decide) e)) (And.intro (hm.hf.other fun g cur _ e=>ot g (nX g cur _ (by decide) e)) (And.intro (hm.hg.other fun g cur _ e=>ot g (nX g cur _ (by decide) e)) (set6_lb (E:=X) hm.b (by omega) (.int .i64 wi) (.int .i64 rf) (.int .i64 rf) (.int .i64 vr) (.slice AD nd ud) (.bool ak)))))))
  clear hm nX e1 ot
  go_upto_region 23 with fail
  refine gen_world (fun q=>q.heap[X]?=some (.cells #[.int .i64 wi,.int .i64 rf,.int .i64 rf,.int .i64 vr,.slice AD nd ud,.bool ak,.slice none 0 0,.slice none 0 0,.int .i64 0] 79)∧q.heap[w.heap.size+1+1]?=some (.cells #[.int .i64 0,.int .i64 0,.int .i64 0,.int .i64 0,.slice none 0 0,.bool false,.slice none 0 0,.slice none 0 0,.int .i64 0] 79)∧HoldsR q (.slice AD nd ud) (L.drop j)∧HoldsN q (.slice none 0 0) []∧HoldsS q (.slice none 0 0) []∧Below w.heap.size w q) (uh HE) ?_
  clear HE o0 o1 o2 o3 o4 o5 x0 x1 x2 x3 x4 x5 x6 x7 x8 g0 g1 g2 g3 g4 g5 g6 g7 g8
  rintro u hu
  obtain ⟨x0,x1,x2,x3,x4,x5,x6,x7,x8⟩:=row9l hu.1
  obtain ⟨r0,r1,r2,r3,r4,r5,r6,r7,r8⟩:=row9l hu.2.1
  obtain ⟨g0,g1,g2,g3,g4,g5,g6,g7,g8⟩:=frz9l hu.2.1
  have n3:¬ (w.heap.size+1+1=X):=by omega
  have n4:¬ (X=w.heap.size+1+1):=by omega
  have HE:=hide hu
  clear hu
  go_wp2_with fail
  obtain ⟨_,q2,q1,qf,qg,q3⟩:=uh HE
  refine bodyPost_ret (v:=.agg (loC ⟨wi,rf,rf,vr,ak⟩ (.slice AD nd ud) (.slice none 0 0) (.slice none 0 0) 0)) (by simp [results,Tryz.results78,asAddr,loC,loadLo (set9_lo q2 _ _ _ _ _ _ _ _ _)]) rfl ?_
  rw [← uh HG]
  exact AnsW.put (o:=⟨⟨wi,rf,rf,vr,ak⟩,L.drop j,[],[],0⟩) q1 qf qg hAo (uh HLF) (uh HLG) q3 q2 (by omega) _ _ _ _ _ _ _ _ _
 rw [if_neg h3] at HG
 have e3:(kf == 3)=false:=beq_eq_false_iff_ne.2 h3
 by_cases h1:kf=1
 ·rw [if_pos h1] at HG
  subst h1
  unfold takeP at HG
  dsimp only at HG
  by_cases hns:nf=vr
  ·rw [if_pos hns] at HG
   dsimp only at HG
   subst hns
   obtain ⟨o0,o1,o2,o3,o4,o5⟩:=row6l (uh HM).o
   have p3:=frz (uh HM).o 3
   have p5:=frz (uh HM).o 5
   have HE:=hide (((uh HM).setO 3 (.int .i64 ((nf+1) % 8))).setO 5 (.bool false))
   clear HM
   go_upto_region 17 with fail
   refine gen_world (fun q=>Ms w #[.int .i64 wi,.int .i64 vs,.int .i64 va,.int .i64 nf,.slice x n y,.bool ak] #[.int .i64 1,.int .i64 nf,.int .i64 rf,.string t] O X #[.int .i64 wi,.int .i64 vs,.int .i64 rf,.int .i64 ((nf+1) % 8),.slice AD nd ud,.bool false] #[.int .i64 0,.int .i64 0,.int .i64 0,.int .i64 0,.slice none 0 0,.bool false,.slice none 0 0,.slice none 0 0,.int .i64 0] (.slice AD nd ud) (.slice none 0 0) (.slice none 0 0) (L.drop j) [] [] q) (uh HE) ?_
   clear HE b0 b1 b2 b3 b4 b5 m0 m1 m2 m3 o0 o1 o2 o3 o4 o5 p3 p5
   rintro z hm
   have m3:=(row4h hm.f).2.2.2
   have x7:=(row9l hm.x).2.2.2.2.2.2.2.1
   have g7:=frz hm.x 7
   have hXz:X<z.heap.size:=(Array.getElem?_eq_some_iff.1 hm.x).1
   have n5:¬ (X=z.heap.size):=by omega
   have HLG:Hid (∀ g,(Value.slice (some ⟨z.heap.size,0,none⟩) 1 1).ownBlock=some g→w.heap.size≤g):=hide fun g hg=>by have e:z.heap.size=g:=Option.some.inj hg;have:=hm.b.size;omega
   have HE:=hide (hm.newG t)
   clear hm
   generalize hzs:z.heap.size=zs at *
   go_upto_region 18 with fail
   refine gen_world (fun q=>Ms w #[.int .i64 wi,.int .i64 vs,.int .i64 va,.int .i64 nf,.slice x n y,.bool ak] #[.int .i64 1,.int .i64 nf,.int .i64 rf,.string t] O X #[.int .i64 wi,.int .i64 vs,.int .i64 rf,.int .i64 ((nf+1) % 8),.slice AD nd ud,.bool false] #[.int .i64 0,.int .i64 0,.int .i64 0,.int .i64 0,.slice none 0 0,.bool false,.slice none 0 0,.slice (some ⟨zs,0,none⟩) 1 1,.int .i64 0] (.slice AD nd ud) (.slice none 0 0) (.slice (some ⟨zs,0,none⟩) 1 1) (L.drop j) [] [t] q) (uh HE) ?_
   clear HE m3 x7 g7 hXz n5 hzs z
   rintro z hm
   have o3:=(row6l hm.o).2.2.2.1
   have x6:=(row9l hm.x).2.2.2.2.2.2.1
   have g6:=frz hm.x 6
   have hXz:X<z.heap.size:=(Array.getElem?_eq_some_iff.1 hm.x).1
   have n5:¬ (X=z.heap.size):=by omega
   have HLF:Hid (∀ g,(Value.slice (some ⟨z.heap.size,0,none⟩) 1 1).ownBlock=some g→w.heap.size≤g):=hide fun g hg=>by have e:z.heap.size=g:=Option.some.inj hg;have:=hm.b.size;omega
   have HE:=hide (hm.newF 2 ((nf+1) % 8))
   clear hm
   generalize hzs:z.heap.size=zf at *
   go_upto_region 22 with fail
   refine gen_world (fun q=>Ms w #[.int .i64 wi,.int .i64 vs,.int .i64 va,.int .i64 nf,.slice x n y,.bool ak] #[.int .i64 1,.int .i64 nf,.int .i64 rf,.string t] O X #[.int .i64 wi,.int .i64 vs,.int .i64 rf,.int .i64 ((nf+1) % 8),.slice AD nd ud,.bool false] #[.int .i64 0,.int .i64 0,.int .i64 0,.int .i64 0,.slice none 0 0,.bool false,.slice (some ⟨zf,0,none⟩) 1 1,.slice (some ⟨zs,0,none⟩) 1 1,.int .i64 0] (.slice AD nd ud) (.slice (some ⟨zf,0,none⟩) 1 1) (.slice (some ⟨zs,0,none⟩) 1 1) (L.drop j) [⟨2,0,(nf+1) % 8,⟨#[]⟩⟩] [t] q) (uh HE) ?_
   clear HE
   rintro z hm
   obtain ⟨o0,o1,o2,o3,o4,o5⟩:=row6l hm.o
   obtain ⟨x0,x1,x2,x3,x4,x5,x6,x7,x8⟩:=row9l hm.x
   obtain ⟨g0,g1,g2,g3,g4,g5,g6,g7,g8⟩:=frz9l hm.x
   have wO:=hm.wO
   have wX:=hm.wX
   have n1:¬ (O=X):=by omega
   have n2:¬ (X=O):=by omega
   have nX:∀ g cur T,T≠79→z.heap[g]?=some (.cells cur T)→g≠X:=fun g cur T hT h1 e=>by
    rw [e,hm.x] at h1
    cases h1
    exact hT rfl
   have e1:=set6_in9 hm.x (.int .i64 wi) (.int .i64 vs) (.int .i64 rf) (.int .i64 ((nf+1) % 8)) (.slice AD nd ud) (.bool false)
   have ot:=fun (k:Nat) (hk:k≠X)=>set6_ot (W:=z) hk (.int .i64 wi) (.int .i64 vs) (.int .i64 rf) (.int .i64 ((nf+1) % 8)) (.slice AD nd ud) (.bool false)
   have HE:=hide (And.intro e1 (And.intro ((ot (w.heap.size+1+1) (by omega)).trans hm.r) (And.intro (hm.hv.other fun g cur _ e=>ot g (nX g cur _ (by decide) e)) (And.intro (hm.hf.other fun g cur _ e=>ot g (nX g cur _ (by decide) e)) (And.intro (hm.hg.other fun g cur _ e=>ot g (nX g cur _ (by decide) e)) (set6_lb (E:=X) hm.b (by omega) (.int .i64 wi) (.int .i64 vs) (.int .i64 rf) (.int .i64 ((nf+1) % 8)) (.slice AD nd ud) (.bool false)))))))
   clear hm nX e1 ot
   go_upto_region 23 with fail
   refine gen_world (fun q=>q.heap[X]?=some (.cells #[.int .i64 wi,.int .i64 vs,.int .i64 rf,.int .i64 ((nf+1) % 8),.slice AD nd ud,.bool false,.slice (some ⟨zf,0,none⟩) 1 1,.slice (some ⟨zs,0,none⟩) 1 1,.int .i64 0] 79)∧q.heap[w.heap.size+1+1]?=some (.cells #[.int .i64 0,.int .i64 0,.int .i64 0,.int .i64 0,.slice none 0 0,.bool false,.slice none 0 0,.slice none 0 0,.int .i64 0] 79)∧HoldsR q (.slice AD nd ud) (L.drop j)∧HoldsN q (.slice (some ⟨zf,0,none⟩) 1 1) [⟨2,0,(nf+1) % 8,⟨#[]⟩⟩]∧HoldsS q (.slice (some ⟨zs,0,none⟩) 1 1) [t]∧Below w.heap.size w q) (uh HE) ?_
   clear HE o0 o1 o2 o3 o4 o5 x0 x1 x2 x3 x4 x5 x6 x7 x8 g0 g1 g2 g3 g4 g5 g6 g7 g8
   rintro u hu
   obtain ⟨x0,x1,x2,x3,x4,x5,x6,x7,x8⟩:=row9l hu.1
   obtain ⟨r0,r1,r2,r3,r4,r5,r6,r7,r8⟩:=row9l hu.2.1
   obtain ⟨g0,g1,g2,g3,g4,g5,g6,g7,g8⟩:=frz9l hu.2.1
   have n3:¬ (w.heap.size+1+1=X):=by omega
   have n4:¬ (X=w.heap.size+1+1):=by omega
   have HE:=hide hu
   clear hu
   go_wp2_with fail
   obtain ⟨_,q2,q1,qf,qg,q3⟩:=uh HE
   refine bodyPost_ret (v:=.agg (loC ⟨wi,vs,rf,((nf+1) % 8),false⟩ (.slice AD nd ud) (.slice (some ⟨zf,0,none⟩) 1 1) (.slice (some ⟨zs,0,none⟩) 1 1) 0)) (by simp [results,Tryz.results78,asAddr,loC,loadLo (set9_lo q2 _ _ _ _ _ _ _ _ _)]) rfl ?_
   rw [← uh HG]
   exact AnsW.put (o:=⟨⟨wi,vs,rf,((nf+1) % 8),false⟩,L.drop j,[⟨2,0,(nf+1) % 8,⟨#[]⟩⟩],[t],0⟩) q1 qf qg hAo (uh HLF) (uh HLG) q3 q2 (by omega) _ _ _ _ _ _ _ _ _
  ·rw [if_neg hns] at HG
   have d1:(nf == vr)=false:=beq_eq_false_iff_ne.2 hns
   cases ak
   ·rw [if_pos rfl] at HG
    dsimp only at HG
    have o5:=(row6l (uh HM).o).2.2.2.2.2
    have p5:=frz (uh HM).o 5
    have HE:=hide ((uh HM).setO 5 (.bool true))
    clear HM
    go_upto_region 21 with fail
    refine gen_world (fun q=>Ms w #[.int .i64 wi,.int .i64 vs,.int .i64 va,.int .i64 vr,.slice x n y,.bool false] #[.int .i64 1,.int .i64 nf,.int .i64 rf,.string t] O X #[.int .i64 wi,.int .i64 vs,.int .i64 rf,.int .i64 vr,.slice AD nd ud,.bool true] #[.int .i64 0,.int .i64 0,.int .i64 0,.int .i64 0,.slice none 0 0,.bool false,.slice none 0 0,.slice none 0 0,.int .i64 0] (.slice AD nd ud) (.slice none 0 0) (.slice none 0 0) (L.drop j) [] [] q) (uh HE) ?_
    clear HE b0 b1 b2 b3 b4 b5 m0 m1 m2 m3 o5 p5
    rintro z hm
    have b3:=(row6l hm.l).2.2.2.1
    have x6:=(row9l hm.x).2.2.2.2.2.2.1
    have g6:=frz hm.x 6
    have hXz:X<z.heap.size:=(Array.getElem?_eq_some_iff.1 hm.x).1
    have n5:¬ (X=z.heap.size):=by omega
    have HLF:Hid (∀ g,(Value.slice (some ⟨z.heap.size,0,none⟩) 1 1).ownBlock=some g→w.heap.size≤g):=hide fun g hg=>by have e:z.heap.size=g:=Option.some.inj hg;have:=hm.b.size;omega
    have HLG:Hid (∀ g,(Value.slice none 0 0).ownBlock=some g→w.heap.size≤g):=hide fun g hg=>by cases hg
    have HE:=hide (hm.newF 3 vr)
    clear hm
    generalize hzs:z.heap.size=zf at *
    go_upto_region 22 with fail
    refine gen_world (fun q=>Ms w #[.int .i64 wi,.int .i64 vs,.int .i64 va,.int .i64 vr,.slice x n y,.bool false] #[.int .i64 1,.int .i64 nf,.int .i64 rf,.string t] O X #[.int .i64 wi,.int .i64 vs,.int .i64 rf,.int .i64 vr,.slice AD nd ud,.bool true] #[.int .i64 0,.int .i64 0,.int .i64 0,.int .i64 0,.slice none 0 0,.bool false,.slice (some ⟨zf,0,none⟩) 1 1,.slice none 0 0,.int .i64 0] (.slice AD nd ud) (.slice (some ⟨zf,0,none⟩) 1 1) (.slice none 0 0) (L.drop j) [⟨3,0,vr,⟨#[]⟩⟩] [] q) (uh HE) ?_
    clear HE
    rintro z hm
    obtain ⟨o0,o1,o2,o3,o4,o5⟩:=row6l hm.o
    obtain ⟨x0,x1,x2,x3,x4,x5,x6,x7,x8⟩:=row9l hm.x
    obtain ⟨g0,g1,g2,g3,g4,g5,g6,g7,g8⟩:=frz9l hm.x
    have wO:=hm.wO
    have wX:=hm.wX
    have n1:¬ (O=X):=by omega
    have n2:¬ (X=O):=by omega
    have nX:∀ g cur T,T≠79→z.heap[g]?=some (.cells cur T)→g≠X:=fun g cur T hT h1 e=>by
     rw [e,hm.x] at h1
     cases h1
     exact hT rfl
    have e1:=set6_in9 hm.x (.int .i64 wi) (.int .i64 vs) (.int .i64 rf) (.int .i64 vr) (.slice AD nd ud) (.bool true)
    have ot:=fun (k:Nat) (hk:k≠X)=>set6_ot (W:=z) hk (.int .i64 wi) (.int .i64 vs) (.int .i64 rf) (.int .i64 vr) (.slice AD nd ud) (.bool true)
    have HE:=hide (And.intro e1 (And.intro ((ot (w.heap.size+1+1) (by omega)).trans hm.r) (And.intro (hm.hv.other fun g cur _ e=>ot g (nX g cur _ (by decide) e)) (And.intro (hm.hf.other fun g cur _ e=>ot g (nX g cur _ (by decide) e)) (And.intro (hm.hg.other fun g cur _ e=>ot g (nX g cur _ (by decide) e)) (set6_lb (E:=X) hm.b (by omega) (.int .i64 wi) (.int .i64 vs) (.int .i64 rf) (.int .i64 vr) (.slice AD nd ud) (.bool true)))))))
    clear hm nX e1 ot
    go_upto_region 23 with fail
    refine gen_world (fun q=>q.heap[X]?=some (.cells #[.int .i64 wi,.int .i64 vs,.int .i64 rf,.int .i64 vr,.slice AD nd ud,.bool true,.slice (some ⟨zf,0,none⟩) 1 1,.slice none 0 0,.int .i64 0] 79)∧q.heap[w.heap.size+1+1]?=some (.cells #[.int .i64 0,.int .i64 0,.int .i64 0,.int .i64 0,.slice none 0 0,.bool false,.slice none 0 0,.slice none 0 0,.int .i64 0] 79)∧HoldsR q (.slice AD nd ud) (L.drop j)∧HoldsN q (.slice (some ⟨zf,0,none⟩) 1 1) [⟨3,0,vr,⟨#[]⟩⟩]∧HoldsS q (.slice none 0 0) []∧Below w.heap.size w q) (uh HE) ?_
    clear HE o0 o1 o2 o3 o4 o5 x0 x1 x2 x3 x4 x5 x6 x7 x8 g0 g1 g2 g3 g4 g5 g6 g7 g8
    rintro u hu
    obtain ⟨x0,x1,x2,x3,x4,x5,x6,x7,x8⟩:=row9l hu.1
    obtain ⟨r0,r1,r2,r3,r4,r5,r6,r7,r8⟩:=row9l hu.2.1
    obtain ⟨g0,g1,g2,g3,g4,g5,g6,g7,g8⟩:=frz9l hu.2.1
    have n3:¬ (w.heap.size+1+1=X):=by omega
    have n4:¬ (X=w.heap.size+1+1):=by omega
    have HE:=hide hu
    clear hu
    go_wp2_with fail
    obtain ⟨_,q2,q1,qf,qg,q3⟩:=uh HE
    refine bodyPost_ret (v:=.agg (loC ⟨wi,vs,rf,vr,true⟩ (.slice AD nd ud) (.slice (some ⟨zf,0,none⟩) 1 1) (.slice none 0 0) 0)) (by simp [results,Tryz.results78,asAddr,loC,loadLo (set9_lo q2 _ _ _ _ _ _ _ _ _)]) rfl ?_
    rw [← uh HG]
    exact AnsW.put (o:=⟨⟨wi,vs,rf,vr,true⟩,L.drop j,[⟨3,0,vr,⟨#[]⟩⟩],[],0⟩) q1 qf qg hAo (uh HLF) (uh HLG) q3 q2 (by omega) _ _ _ _ _ _ _ _ _
   ·rw [if_neg (by decide)] at HG
    dsimp only at HG
    have x6:=(row9l (uh HM).x).2.2.2.2.2.2.1
    have g6:=frz (uh HM).x 6
    have hXz:X<q1.heap.size:=(Array.getElem?_eq_some_iff.1 (uh HM).x).1
    have n5:¬ (X=q1.heap.size):=by omega
    have HLF:Hid (∀ g,(Value.slice (some ⟨q1.heap.size,0,none⟩) 1 1).ownBlock=some g→w.heap.size≤g):=hide fun g hg=>by have e:q1.heap.size=g:=Option.some.inj hg;have:=(uh HM).b.size;omega
    have HLG:Hid (∀ g,(Value.slice none 0 0).ownBlock=some g→w.heap.size≤g):=hide fun g hg=>by cases hg
    have HE:=hide ((uh HM).newF 2 vr)
    clear HM
    generalize hzs:q1.heap.size=zf at *
    go_upto_region 22 with fail
    refine gen_world (fun q=>Ms w #[.int .i64 wi,.int .i64 vs,.int .i64 va,.int .i64 vr,.slice x n y,.bool true] #[.int .i64 1,.int .i64 nf,.int .i64 rf,.string t] O X #[.int .i64 wi,.int .i64 vs,.int .i64 rf,.int .i64 vr,.slice AD nd ud,.bool true] #[.int .i64 0,.int .i64 0,.int .i64 0,.int .i64 0,.slice none 0 0,.bool false,.slice (some ⟨zf,0,none⟩) 1 1,.slice none 0 0,.int .i64 0] (.slice AD nd ud) (.slice (some ⟨zf,0,none⟩) 1 1) (.slice none 0 0) (L.drop j) [⟨2,0,vr,⟨#[]⟩⟩] [] q) (uh HE) ?_
    clear HE
    rintro z hm
    obtain ⟨o0,o1,o2,o3,o4,o5⟩:=row6l hm.o
    obtain ⟨x0,x1,x2,x3,x4,x5,x6,x7,x8⟩:=row9l hm.x
    obtain ⟨g0,g1,g2,g3,g4,g5,g6,g7,g8⟩:=frz9l hm.x
    have wO:=hm.wO
    have wX:=hm.wX
    have n1:¬ (O=X):=by omega
    have n2:¬ (X=O):=by omega
    have nX:∀ g cur T,T≠79→z.heap[g]?=some (.cells cur T)→g≠X:=fun g cur T hT h1 e=>by
     rw [e,hm.x] at h1
     cases h1
     exact hT rfl
    have e1:=set6_in9 hm.x (.int .i64 wi) (.int .i64 vs) (.int .i64 rf) (.int .i64 vr) (.slice AD nd ud) (.bool true)
    have ot:=fun (k:Nat) (hk:k≠X)=>set6_ot (W:=z) hk (.int .i64 wi) (.int .i64 vs) (.int .i64 rf) (.int .i64 vr) (.slice AD nd ud) (.bool true)
    have HE:=hide (And.intro e1 (And.intro ((ot (w.heap.size+1+1) (by omega)).trans hm.r) (And.intro (hm.hv.other fun g cur _ e=>ot g (nX g cur _ (by decide) e)) (And.intro (hm.hf.other fun g cur _ e=>ot g (nX g cur _ (by decide) e)) (And.intro (hm.hg.other fun g cur _ e=>ot g (nX g cur _ (by decide) e)) (set6_lb (E:=X) hm.b (by omega) (.int .i64 wi) (.int .i64 vs) (.int .i64 rf) (.int .i64 vr) (.slice AD nd ud) (.bool true)))))))
    clear hm nX e1 ot
    go_upto_region 23 with fail
    refine gen_world (fun q=>q.heap[X]?=some (.cells #[.int .i64 wi,.int .i64 vs,.int .i64 rf,.int .i64 vr,.slice AD nd ud,.bool true,.slice (some ⟨zf,0,none⟩) 1 1,.slice none 0 0,.int .i64 0] 79)∧q.heap[w.heap.size+1+1]?=some (.cells #[.int .i64 0,.int .i64 0,.int .i64 0,.int .i64 0,.slice none 0 0,.bool false,.slice none 0 0,.slice none 0 0,.int .i64 0] 79)∧HoldsR q (.slice AD nd ud) (L.drop j)∧HoldsN q (.slice (some ⟨zf,0,none⟩) 1 1) [⟨2,0,vr,⟨#[]⟩⟩]∧HoldsS q (.slice none 0 0) []∧Below w.heap.size w q) (uh HE) ?_
    clear HE o0 o1 o2 o3 o4 o5 x0 x1 x2 x3 x4 x5 x6 x7 x8 g0 g1 g2 g3 g4 g5 g6 g7 g8
    rintro u hu
    obtain ⟨x0,x1,x2,x3,x4,x5,x6,x7,x8⟩:=row9l hu.1
    obtain ⟨r0,r1,r2,r3,r4,r5,r6,r7,r8⟩:=row9l hu.2.1
    obtain ⟨g0,g1,g2,g3,g4,g5,g6,g7,g8⟩:=frz9l hu.2.1
    have n3:¬ (w.heap.size+1+1=X):=by omega
    have n4:¬ (X=w.heap.size+1+1):=by omega
    have HE:=hide hu
    clear hu
    go_wp2_with fail
    obtain ⟨_,q2,q1,qf,qg,q3⟩:=uh HE
    refine bodyPost_ret (v:=.agg (loC ⟨wi,vs,rf,vr,true⟩ (.slice AD nd ud) (.slice (some ⟨zf,0,none⟩) 1 1) (.slice none 0 0) 0)) (by simp [results,Tryz.results78,asAddr,loC,loadLo (set9_lo q2 _ _ _ _ _ _ _ _ _)]) rfl ?_
    rw [← uh HG]
    exact AnsW.put (o:=⟨⟨wi,vs,rf,vr,true⟩,L.drop j,[⟨2,0,vr,⟨#[]⟩⟩],[],0⟩) q1 qf qg hAo (uh HLF) (uh HLG) q3 q2 (by omega) _ _ _ _ _ _ _ _ _
 ·rw [if_neg h1] at HG
  have h2:kf=2:=by omega
  subst h2
  have HE:=HM
  have HLF:Hid (∀ g,(Value.slice none 0 0).ownBlock=some g→w.heap.size≤g):=hide fun g hg=>by cases hg
  have HLG:Hid (∀ g,(Value.slice none 0 0).ownBlock=some g→w.heap.size≤g):=hide fun g hg=>by cases hg
  clear HM
  go_upto_region 22 with fail
  refine gen_world (fun q=>Ms w #[.int .i64 wi,.int .i64 vs,.int .i64 va,.int .i64 vr,.slice x n y,.bool ak] #[.int .i64 2,.int .i64 nf,.int .i64 rf,.string t] O X #[.int .i64 wi,.int .i64 vs,.int .i64 rf,.int .i64 vr,.slice AD nd ud,.bool ak] #[.int .i64 0,.int .i64 0,.int .i64 0,.int .i64 0,.slice none 0 0,.bool false,.slice none 0 0,.slice none 0 0,.int .i64 0] (.slice AD nd ud) (.slice none 0 0) (.slice none 0 0) (L.drop j) [] [] q) (uh HE) ?_
  clear HE
  rintro z hm
  obtain ⟨o0,o1,o2,o3,o4,o5⟩:=row6l hm.o
  obtain ⟨x0,x1,x2,x3,x4,x5,x6,x7,x8⟩:=row9l hm.x
  obtain ⟨g0,g1,g2,g3,g4,g5,g6,g7,g8⟩:=frz9l hm.x
  have wO:=hm.wO
  have wX:=hm.wX
  have n1:¬ (O=X):=by omega
  have n2:¬ (X=O):=by omega
  have nX:∀ g cur T,T≠79→z.heap[g]?=some (.cells cur T)→g≠X:=fun g cur T hT h1 e=>by
   rw [e,hm.x] at h1
   cases h1
   exact hT rfl
  have e1:=set6_in9 hm.x (.int .i64 wi) (.int .i64 vs) (.int .i64 rf) (.int .i64 vr) (.slice AD nd ud) (.bool ak)
  have ot:=fun (k:Nat) (hk:k≠X)=>set6_ot (W:=z) hk (.int .i64 wi) (.int .i64 vs) (.int .i64 rf) (.int .i64 vr) (.slice AD nd ud) (.bool ak)
  have HE:=hide (And.intro e1 (And.intro ((ot (w.heap.size+1+1) (by omega)).trans hm.r) (And.intro (hm.hv.other fun g cur _ e=>ot g (nX g cur _ (by decide) e)) (And.intro (hm.hf.other fun g cur _ e=>ot g (nX g cur _ (by decide) e)) (And.intro (hm.hg.other fun g cur _ e=>ot g (nX g cur _ (by decide) e)) (set6_lb (E:=X) hm.b (by omega) (.int .i64 wi) (.int .i64 vs) (.int .i64 rf) (.int .i64 vr) (.slice AD nd ud) (.bool ak)))))))
  clear hm nX e1 ot
  go_upto_region 23 with fail
  refine gen_world (fun q=>q.heap[X]?=some (.cells #[.int .i64 wi,.int .i64 vs,.int .i64 rf,.int .i64 vr,.slice AD nd ud,.bool ak,.slice none 0 0,.slice none 0 0,.int .i64 0] 79)∧q.heap[w.heap.size+1+1]?=some (.cells #[.int .i64 0,.int .i64 0,.int .i64 0,.int .i64 0,.slice none 0 0,.bool false,.slice none 0 0,.slice none 0 0,.int .i64 0] 79)∧HoldsR q (.slice AD nd ud) (L.drop j)∧HoldsN q (.slice none 0 0) []∧HoldsS q (.slice none 0 0) []∧Below w.heap.size w q) (uh HE) ?_
  clear HE o0 o1 o2 o3 o4 o5 x0 x1 x2 x3 x4 x5 x6 x7 x8 g0 g1 g2 g3 g4 g5 g6 g7 g8
  rintro u hu
  obtain ⟨x0,x1,x2,x3,x4,x5,x6,x7,x8⟩:=row9l hu.1
  obtain ⟨r0,r1,r2,r3,r4,r5,r6,r7,r8⟩:=row9l hu.2.1
  obtain ⟨g0,g1,g2,g3,g4,g5,g6,g7,g8⟩:=frz9l hu.2.1
  have n3:¬ (w.heap.size+1+1=X):=by omega
  have n4:¬ (X=w.heap.size+1+1):=by omega
  have HE:=hide hu
  clear hu
  go_wp2_with fail
  obtain ⟨_,q2,q1,qf,qg,q3⟩:=uh HE
  refine bodyPost_ret (v:=.agg (loC ⟨wi,vs,rf,vr,ak⟩ (.slice AD nd ud) (.slice none 0 0) (.slice none 0 0) 0)) (by simp [results,Tryz.results78,asAddr,loC,loadLo (set9_lo q2 _ _ _ _ _ _ _ _ _)]) rfl ?_
  rw [← uh HG]
  exact AnsW.put (o:=⟨⟨wi,vs,rf,vr,ak⟩,L.drop j,[],[],0⟩) q1 qf qg hAo (uh HLF) (uh HLG) q3 q2 (by omega) _ _ _ _ _ _ _ _ _
end Go.Proofs.YtkcghhkkepndnaaGreatDoor
