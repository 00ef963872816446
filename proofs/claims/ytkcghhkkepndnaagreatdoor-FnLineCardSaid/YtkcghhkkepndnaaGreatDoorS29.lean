/- The model's LapbNext; what lay in memory stands. -/
import Derived.Test.YtkcghhkkepndnaaGreatDoorS27
import Derived.Test.YtkcghhkkepndnaaGreatDoorS23
import Derived.Test.YtkcghhkkepndnaaGreatDoorShW
namespace Go.Proofs.YtkcghhkkepndnaaGreatDoor
open Go.RowKit
structure Nx (w:World) (N:Nat) (wi vs va vr vj:Int) (ak:Bool) (x:Option Addr) (y:Nat) (ua:Option Addr) (uc n:Nat) (L:List ByteArray) (j:Nat) (F:List Nb) (v:Value) (q:World):Prop where
 box:q.heap[w.heap.size]?=some (.cells #[.int .i64 wi,.int .i64 vs,.int .i64 va,.int .i64 vr,.slice x n y,.bool ak] 54)
 res:q.heap[w.heap.size+1]?=some (.cells #[.int .i64 0,.int .i64 0,.int .i64 0,.int .i64 0,.slice none 0 0,.bool false,.slice none 0 0,.slice none 0 0,.int .i64 0] 79)
 nn:q.heap[N]?=some (.cells #[.int .i64 wi,.int .i64 vj,.int .i64 va,.int .i64 vr,.slice ua n uc,.bool ak] 54)
 hx:HoldsS q (.slice x n y) L
 hu:HoldsR q (.slice ua n uc) L
 own:q.ownsRow w.heap.size 96 4 v j (nbcells F)
 below:Below w.heap.size w q
section
variable {w:World} {N:Nat} {wi vs va vr vj:Int} {ak:Bool} {x ua:Option Addr} {y uc n j:Nat} {L:List ByteArray} {F:List Nb} {v:Value} {q:World}
theorem Nx.step {q':World} (h:Nx w N wi vs va vr vj ak x y ua uc n L j F v q) (hb:Below q.heap.size q q'):Nx w N wi vs va vr vj ak x y ua uc n L j F v q' :=
 ⟨(hb.block _ (Array.getElem?_eq_some_iff.1 h.box).1).trans h.box,(hb.block _ (Array.getElem?_eq_some_iff.1 h.res).1).trans h.res,(hb.block _ (Array.getElem?_eq_some_iff.1 h.nn).1).trans h.nn,h.hx.below hb,h.hu.below hb,own_at h.own fun g _ _ e=>hb.block g (Array.getElem?_eq_some_iff.1 e).1,h.below.trans (hb.mono h.below.size)⟩
theorem Nx.drew (h:Nx w N wi vs va vr vj ak x y ua uc n L j F v q):Nx w N wi vs va vr vj ak x y ua uc n L j F v q.drew:=h.step (Below.refl _ _).drew
theorem Nx.cells (h:Nx w N wi vs va vr vj ak x y ua uc n L j F v q):q.cell? ⟨N,2,none⟩=some (.int .i64 va)∧q.cell? ⟨N,1,none⟩=some (.int .i64 vj)∧q.cell? ⟨w.heap.size,0,none⟩=some (.int .i64 wi)∧q.cell? ⟨w.heap.size,3,none⟩=some (.int .i64 vr)∧q.cell? ⟨w.heap.size,4,none⟩=some (.slice x n y) :=
 ⟨(row6l h.nn).2.2.1,(row6l h.nn).2.1,(row6l h.box).1,(row6l h.box).2.2.2.1,(row6l h.box).2.2.2.2.1⟩
theorem Nx.grow {q':World} {v':Value} {F':List Nb} (h:Nx w N wi vs va vr vj ak x y ua uc n L j F v q) (hg:q.grownBy q' v.ownBlock) (ho:q'.ownsRow w.heap.size 96 4 v' (j+1) (nbcells F')) :
  Nx w N wi vs va vr vj ak x y ua uc n L (j+1) F' v' q':=by
 have nT:∀ (k:Nat) (o:Obj),q.heap[k]?=some o→(∀ cur,o≠.cells cur 96)→q'.heap[k]?=q.heap[k]?:=fun k o h1 h2=>by
  refine hg.block k (Array.getElem?_eq_some_iff.1 h1).1 (fun e=>?_)
  rcases h.own.2 with ⟨e1,_⟩ | ⟨g,cap,cur,e1,_,e3,_⟩
  ·rw [e1] at e;cases e
  ·rw [e1] at e
   have e':k=g:=Option.some.inj e
   rw [e',e3] at h1
   exact h2 cur (Option.some.inj h1).symm
 refine ⟨(nT _ _ h.box (fun cur e=>by cases e)).trans h.box,(nT _ _ h.res (fun cur e=>by cases e)).trans h.res,(nT _ _ h.nn (fun cur e=>by cases e)).trans h.nn,h.hx.other fun g cur _ e=>nT g _ e (fun cur' e=>by cases e),h.hu.other fun g cur _ e=>nT g _ e (fun cur' e=>by cases e),ho,h.below.grown hg h.below.size (fun k hk=>(h.own.lt k hk).1)⟩
theorem Nx.set (h:Nx w N wi vs va vr vj ak x y ua uc n L j F v q) (hN:w.heap.size+1<N) (z:Int):Nx w N wi vs va vr z ak x y ua uc n L j F v (q.setCell ⟨N,1,none⟩ (.int .i64 z)):=by
 have hk:∀ k,k≠N→(q.setCell ⟨N,1,none⟩ (.int .i64 z)).heap[k]?=q.heap[k]?:=fun k hk=>heap_setCell_other q _ _ _ hk
 have nB:∀ g cur T,T≠54→q.heap[g]?=some (.cells cur T)→g≠N:=fun g cur T hT h1 e=>by
  rw [e,h.nn] at h1
  simp only [Option.some.injEq,Obj.cells.injEq] at h1
  exact hT h1.2.1.symm
 exact ⟨(hk _ (by omega)).trans h.box,(hk _ (by omega)).trans h.res,heap_setCell_same _ _ 1 _ _ _ h.nn,h.hx.other fun g cur _ e=>hk g (nB g cur _ (by decide) e),h.hu.other fun g cur _ e=>hk g (nB g cur _ (by decide) e),own_at h.own fun g cur _ e=>hk g (nB g cur _ (by decide) e),h.below.setCell (p:=⟨N,1,none⟩) (by show w.heap.size≤N;omega) _⟩
end
theorem Nx.cells6 {w:World} {N:Nat} {wi vs va vr vj:Int} {ak:Bool} {ua:Option Addr} {g o i:Nat} {t:ByteArray} {y uc n j:Nat} {L:List ByteArray} {F:List Nb} {v:Value} {q:World} (h:Nx w N wi vs va vr vj ak (some ⟨g,o,none⟩) y ua uc n L j F v q) (ht:∃ hi:i<L.length,L[i]=t):q.cell? ⟨N,2,none⟩=some (.int .i64 va)∧q.cell? ⟨N,1,none⟩=some (.int .i64 vj)∧q.cell? ⟨w.heap.size,0,none⟩=some (.int .i64 wi)∧q.cell? ⟨w.heap.size,3,none⟩=some (.int .i64 vr)∧q.cell? ⟨w.heap.size,4,none⟩=some (.slice (some ⟨g,o,none⟩) n y)∧q.cell? ⟨g,o+i,none⟩=some (.string t):=by
 obtain ⟨hi,ht⟩:=ht
 obtain ⟨g',o',cp',e,_,k⟩:=h.hx.get i hi
 simp only [Value.slice.injEq,Option.some.injEq,Addr.mk.injEq] at e
 obtain ⟨⟨rfl,rfl,_⟩,_⟩:=e
 rw [ht] at k
 exact ⟨h.cells.1,h.cells.2.1,h.cells.2.2.1,h.cells.2.2.2.1,h.cells.2.2.2.2,k⟩
def lenV8:Value→Nat
 | .slice _ n _=>n
 | _=>0
theorem far_at {va vs:Int} {s j:Nat} (hs:((s:Nat):Int)=far vs va) (h7:s+j≤7):far ((vs+(j:Int)) % 8) va=((s+j:Nat):Int):=by
 unfold far at hs ⊢
 omega
set_option linter.unusedSimpArgs false in
set_option maxHeartbeats 16000000 in
theorem sNextL (p:Lp) (x:Option Addr) (y:Nat) (L:List ByteArray) (w:World) (hl:L.length≤1048576) (h:HoldsS w (.slice x L.length y) L) :
  Calls Tryz.prog 49 #[.agg (lpC p (.slice x L.length y))] w fun e q=>AnsW w (nextF p L) e q:=by
 have C1:=hide fun W (hb:Below w.heap.size w W)=>sLpRight p x y L W hl (h.below hb)
 have C2:=hide fun W (hb:Below w.heap.size w W)=>sCopyL p x y L W hl (h.below hb)
 have HHx:=hide h
 obtain ⟨hN0,hN1,hbW,hsW⟩:=new2l w (.cells (lpC p (.slice x L.length y)) 54) (.cells #[.int .i64 0,.int .i64 0,.int .i64 0,.int .i64 0,.slice none 0 0,.bool false,.slice none 0 0,.slice none 0 0,.int .i64 0] 79)
 unfold nextF
 clear h
 cases hk:lpOk p L
 ·rw [if_neg (by decide)]
  rw [hk] at C1
  obtain ⟨wi,vs,va,vr,ak⟩:=p
  unfold lpC at hN0 hN1 hbW hsW C1 ⊢
  dsimp only at *
  have H0:=hide (And.intro hN1 hbW)
  clear hN0 hN1 hbW hsW hk C2
  generalize L.length=n at *
  go_enter Tryz.func49,Tryz.ntmps49
  go_wp2_with fail
  refine (uh C1 _ (uh H0).2).mono ?_
  rintro e w1 ⟨rfl,hb1⟩
  have k0:=(hb1.block (w.heap.size+1) (Array.getElem?_eq_some_iff.1 (uh H0).1).1).trans (uh H0).1
  have hB1:=(uh H0).2.trans (hb1.mono (uh H0).2.size)
  obtain ⟨r0,r1,r2,r3,r4,r5,r6,r7,r8⟩:=row9l k0
  obtain ⟨f0,f1,f2,f3,f4,f5,f6,f7,f8⟩:=frz9l k0
  have HX:=hide (And.intro k0 hB1)
  clear k0 hB1 hb1 H0 C1
  go_wp2
  obtain ⟨k0,hB1⟩:=uh HX
  refine bodyPost_ret (v:=.agg (loC lpZero (.slice none 0 0) (.slice none 0 0) (.slice none 0 0) 1)) (by simp [results,Tryz.results49,asAddr,loC,lpZero,loadLo (set9_lo k0 _ _ _ _ _ _ _ _ _)]) rfl ?_
  exact AnsW.put (o:=loErr 1) (holdsR_nil _) (holdsN_nil _ _ _) (holdsS_nil _ _ _) (fun g hg=>by cases hg) (fun g hg=>by cases hg) (fun g hg=>by cases hg) hB1 k0 (by omega) _ _ _ _ _ _ _ _ _
 ·rw [if_pos rfl]
  rw [hk] at C1
  have hr:=lpRt hk
  have hsn:=sentN_eq (p:=p)
  have hfw:=hr.fw
  have hfl:=hr.fl
  have HR:=hide hr
  obtain ⟨m,hm⟩:∃ m,nextM p L=m:=⟨_,rfl⟩
  rw [hm]
  unfold nextM at hm
  obtain ⟨s,hs⟩:∃ s,sentN p=s:=⟨_,rfl⟩
  rw [hs] at hm hsn ⊢
  have hva:=hr.va
  have hvs:=hr.vs
  have hvr:=hr.vr
  have hwi:=hr.wi
  have l20:=hr.l20
  obtain ⟨wi,vs,va,vr,ak⟩:=p
  unfold lpC at hN0 hN1 hbW hsW C1 C2 ⊢
  dsimp only at *
  rw [← hsn] at hfw hfl
  have H0:=hide (And.intro hN0 (And.intro hN1 (And.intro hbW hsW)))
  have HFA:=hide fun j=>far_at (j:=j) hsn
  have CFF:=hide fun vj hvj v=>sFar vj va hvj hva v
  have HLn:Hid (∀ i,i<L.length - s→∃ hi:s+i<L.length,L[s+i]=(L.drop s).getD i ⟨#[]⟩):=hide fun i hi=>⟨by omega,by rw [List.getD,List.getElem?_drop,List.getElem?_eq_getElem (by omega)];rfl⟩
  clear hN0 hN1 hbW hsW hk hr
  obtain ⟨n,hn⟩:∃ n,L.length=n:=⟨_,rfl⟩
  have HHx':Hid (HoldsS w (.slice x n y) L):=by rw [← hn];exact HHx
  rw [hn] at hm C1 C2 H0 hfl l20 ⊢
  clear HHx hsn
  go_enter Tryz.func49,Tryz.ntmps49
  go_wp2_with fail
  refine (uh C1 _ (uh H0).2.2.1).mono ?_
  rintro e w1 ⟨rfl,hb1⟩
  have k0:=(hb1.block w.heap.size (Array.getElem?_eq_some_iff.1 (uh H0).1).1).trans (uh H0).1
  have k1:=(hb1.block (w.heap.size+1) (Array.getElem?_eq_some_iff.1 (uh H0).2.1).1).trans (uh H0).2.1
  have hbW:=(uh H0).2.2.1.trans (hb1.mono (uh H0).2.2.1.size)
  obtain ⟨a0,a1,a2,a3,a4,a5⟩:=row6l k0
  have H1:=hide (And.intro k0 (And.intro k1 hbW))
  clear k0 k1 hbW hb1 H0 C1
  go_wp2_with fail
  refine (uh C2 _ (uh H1).2.2).mono ?_
  rintro e w2 ⟨ua,uc,rfl,ho,hb2⟩
  have k0:=(hb2.block w.heap.size (Array.getElem?_eq_some_iff.1 (uh H1).1).1).trans (uh H1).1
  have k1:=(hb2.block (w.heap.size+1) (Array.getElem?_eq_some_iff.1 (uh H1).2.1).1).trans (uh H1).2.1
  have hbW:=(uh H1).2.2.trans (hb2.mono (uh H1).2.2.size)
  have hl0:w.heap.size<w2.heap.size:=(Array.getElem?_eq_some_iff.1 k0).1
  have hl1:w.heap.size+1<w2.heap.size:=(Array.getElem?_eq_some_iff.1 k1).1
  have HLO:Hid (∀ g,(Value.slice ua n uc).ownBlock=some g→w.heap.size≤g):=hide fun g hg=>by have:=(ho.lt g hg).1;have:=(uh H1).2.2.size;omega
  have hS:HoldsR w2 (.slice ua n uc) L:=HoldsR.own (L:=L) (by rw [hn];exact ho)
  have hbN:Below w2.heap.size w2 ((w2.alloc (.cells #[.int .i64 wi,.int .i64 vs,.int .i64 va,.int .i64 vr,.slice ua n uc,.bool ak] 54)).alloc (.cells #[] 96)):=(new2l w2 _ _).2.2.1
  have hX0:Nx w w2.heap.size wi vs va vr vs ak x y ua uc n L 0 [] (.slice (some ⟨w2.heap.size+1,0,none⟩) 0 0) ((w2.alloc (.cells #[.int .i64 wi,.int .i64 vs,.int .i64 va,.int .i64 vr,.slice ua n uc,.bool ak] 54)).alloc (.cells #[] 96)):=by
   have hz:(w2.alloc (.cells #[.int .i64 wi,.int .i64 vs,.int .i64 va,.int .i64 vr,.slice ua n uc,.bool ak] 54)).heap.size=w2.heap.size+1:=by simp
   refine ⟨(hbN.block _ hl0).trans k0,(hbN.block _ hl1).trans k1,(new2l w2 _ _).1,((uh HHx').below hbW).below hbN,hS.below hbN,?_,hbW.trans (hbN.mono hbW.size)⟩
   have ho1:((w2.alloc (.cells #[.int .i64 wi,.int .i64 vs,.int .i64 va,.int .i64 vr,.slice ua n uc,.bool ak] 54)).alloc (.cells #[] 96)).ownsRow w.heap.size 96 4 (.slice (some ⟨(w2.alloc (.cells #[.int .i64 wi,.int .i64 vs,.int .i64 va,.int .i64 vr,.slice ua n uc,.bool ak] 54)).heap.size,0,none⟩) 0 0) 0 (nbcells []):=World.ownsRow_lit _ _ 0 (by rw [hz];omega) (by decide) rfl
   rw [hz] at ho1
   exact ho1
  have HX0:=hide hX0
  have n1:¬ (w.heap.size=w2.heap.size):=by omega
  have n2:¬ (w.heap.size+1=w2.heap.size):=by omega
  clear k0 k1 hbW ho hb2 H1 C2 hS hbN hX0 a0 a1 a2 a3 a4 a5 HHx'
  generalize hNN:w2.heap.size=N at *
  go_wp2_with fail
  go_loopw [4] (fun v wr=>∃ (j:Nat) (ad:Option Addr) (cp:Nat),j≤m∧v=.slice ad j cp∧Nx w N wi vs va vr ((vs+(j:Int)) % 8) ak x y ua uc n L j (outs vs vr (L.drop s) j) (.slice ad j cp) wr) (fun v _=>m - lenV8 v)
  case atStart=>exact ⟨0,_,_,Nat.zero_le _,rfl,by rw [show (vs+((0:Nat):Int)) % 8=vs by omega];exact uh HX0⟩
  case round =>
   obtain ⟨j,ad,cp,hjm,rfl,hX⟩:=hrel
   clear HX0
   have hFl:=outs_len vs vr (L.drop s) j
   have hsnoc:=outs_snoc vs vr (L.drop s) j
   have hv1:((vs+(j:Int)) % 8+1) % 8=(vs+((j+1:Nat):Int)) % 8:=by omega
   obtain ⟨vj,hvj⟩:∃ vj,(vs+(j:Int)) % 8=vj:=⟨_,rfl⟩
   have hvj7:0≤vj∧vj≤7:=by omega
   have hfa:=uh HFA j (by omega)
   have CF:=hide (uh CFF vj hvj7)
   rw [hvj] at hfa hX hsnoc hv1
   rw [hfa] at CF
   obtain ⟨i,hi⟩:∃ i,s+j=i:=⟨_,rfl⟩
   rw [hi] at CF
   have HX:=hide hX
   have HS1:=hide (And.intro hsnoc hv1)
   have HVJ:=hide hvj
   obtain ⟨F,hFF⟩:∃ F,outs vs vr (L.drop s) j=F:=⟨_,rfl⟩
   rw [hFF] at HX HS1 hFl
   have HFF:=hide hFF
   clear hX hsnoc hv1 hfa hvj hFF
   by_cases c1:(i:Int)<wi
   ·have d1:decide ((i:Int)<wi)=true:=decide_eq_true c1
    by_cases c2:(i:Int)<(n:Int)
    ·have d2:decide ((i:Int)<(n:Int))=true:=decide_eq_true c2
     have d2':decide (i<n)=true:=decide_eq_true (by omega)
     have hj1:j+1≤m:=by omega
     obtain ⟨t,ht⟩:∃ t,(L.drop s).getD j ⟨#[]⟩=t:=⟨_,rfl⟩
     have htx:∃ hi:i<L.length,L[i]=t:=by
      obtain ⟨q1,q2⟩:=uh HLn j (by omega)
      subst hi
      exact ⟨q1,by rw [q2,ht]⟩
     obtain ⟨g,o,cz,e9,hz8,hz9⟩:=(uh HX).hx.get i htx.1
     clear hz8 hz9
     simp only [Value.slice.injEq] at e9
     obtain ⟨rfl,hn9,rfl⟩:=e9
     clear hn9
     have HTX:=hide htx
     have hin:i<n:=by omega
     have hi0:(0:Int)≤(i:Int):=by omega
     have HNX:Hid (∀ a4 c4 (wz:World),Nx w N wi vs va vr vj ak (some ⟨g,o,none⟩) y ua uc n L (j+1) (F ++ [⟨1,vj,vr,t⟩]) (.slice a4 (j+1) c4) wz→Nx w N wi vs va vr ((vs+((j+1:Nat):Int)) % 8) ak (some ⟨g,o,none⟩) y ua uc n L (j+1) (outs vs vr (L.drop s) (j+1)) (.slice a4 (j+1) c4) (wz.setCell ⟨N,1,none⟩ (.int .i64 ((vj+1) % 8)))):=hide fun a4 c4 wz hz=>by
      have:=hz.set hl1 ((vj+1) % 8)
      rw [(uh HS1).1,ht,← (uh HS1).2]
      exact this
     clear htx ht HS1 HLn
     go_upto_region 5 with fail
     refine wp_region_held_drew (S:=fun z=>z.cell? ⟨N,2,none⟩=some (.int .i64 va)∧z.cell? ⟨N,1,none⟩=some (.int .i64 vj)∧z.cell? ⟨w.heap.size,0,none⟩=some (.int .i64 wi)∧z.cell? ⟨w.heap.size,3,none⟩=some (.int .i64 vr)∧z.cell? ⟨w.heap.size,4,none⟩=some (.slice (some ⟨g,o,none⟩) n y)) (by kernel_rfl) (uh HX).drew.cells (fun hHeld=>?_)
     have HSy:=hide hHeld
     have HXd:=hide (uh HX).drew
     generalize wr.drew=yy at HXd HSy hHeld ⊢
     clear HX
     have HX:=HXd
     clear HXd
     refine tk 0 (v:=?vya0) rfl ?hyya0 ?_
     case hyya0=>intro w hSw;(try dsimp only at hSw);go_simp;try with_reducible rfl
     try simp only [Act.put,sA,sZ,sS,gA,gZ]
     refine tk 1 (v:=?vya1) rfl ?hyya1 ?_
     case hyya1=>intro w hSw;(try dsimp only at hSw);go_simp;try with_reducible rfl
     try simp only [Act.put,sA,sZ,sS,gA,gZ,gS]
     refine tk 2 (v:=?vya2) rfl ?hyya2 ?_
     case hyya2=>intro w hSw;(try dsimp only at hSw);go_simp;try with_reducible rfl
     try simp only [Act.put,sA,sZ,sS,gA,gZ,gS]
     refine tk 3 (v:=?vya3) rfl ?hyya3 ?_
     case hyya3=>intro w hSw;(try dsimp only at hSw);go_simp;try with_reducible rfl
     try simp only [Act.put,sA,sZ,sS,gA,gZ,gS]
     refine tk 5 (v:=?vya5) rfl ?hyya5 ?_
     case hyya5=>intro w hSw;(try dsimp only at hSw);go_simp;try with_reducible rfl
     try simp only [Act.put,sA,sZ,sS,gA,gZ,gS]
     refine tk 6 (v:=?vya6) rfl ?hyya6 ?_
     case hyya6=>intro w hSw;(try dsimp only at hSw);go_simp;try with_reducible rfl
     try simp only [Act.put,sA,sZ,sS,gA,gZ,gS]
     refine r1 4 rfl (fun K hK=>?_)
     go_simp
     refine (uh CF _).mono ?_
     rintro r z9 ⟨rfl,hz9⟩
     replace hz9:=hz9.symm
     subst hz9
     go_wp2_with fail
     refine hK.out _ _ (uh HSy) (fun _=>?_)
     clear hK K
     try simp only [Act.put,sA,sZ,sS,gA,gZ,gS]
     refine tk 7 (v:=?vya7) rfl ?hyya7 ?_
     case hyya7=>intro w hSw;(try dsimp only at hSw);go_simp;try with_reducible rfl
     try simp only [Act.put,sA,sZ,sS,gA,gZ,gS]
     refine tk 8 (v:=?vya8) rfl ?hyya8 ?_
     case hyya8=>intro w hSw;(try dsimp only at hSw);go_simp;try with_reducible rfl
     try simp only [Act.put,sA,sZ,sS,gA,gZ,gS]
     refine tk 9 (v:=?vya9) rfl ?hyya9 ?_
     case hyya9=>intro w hSw;(try dsimp only at hSw);go_simp;try with_reducible rfl
     try simp only [Act.put,sA,sZ,sS,gA,gZ,gS]
     refine tk 10 (v:=?vya10) rfl ?hyya10 ?_
     case hyya10=>intro w hSw;(try dsimp only at hSw);go_simp;try with_reducible rfl
     try simp only [Act.put,sA,sZ,sS,gA,gZ,gS]
     refine tk 11 (v:=?vya11) rfl ?hyya11 ?_
     case hyya11=>intro w hSw;(try dsimp only at hSw);go_simp;try with_reducible rfl
     try simp only [Act.put,sA,sZ,sS,gA,gZ,gS]
     refine tk 12 (v:=?vya12) rfl ?hyya12 ?_
     case hyya12=>intro w hSw;(try dsimp only at hSw);go_simp;try with_reducible rfl
     try simp only [Act.put,sA,sZ,sS,gA,gZ,gS]
     refine tk 14 (v:=?vya14) rfl ?hyya14 ?_
     case hyya14=>intro w hSw;(try dsimp only at hSw);go_simp;try with_reducible rfl
     try simp only [Act.put,sA,sZ,sS,gA,gZ,gS]
     refine tk 15 (v:=?vya15) rfl ?hyya15 ?_
     case hyya15=>intro w hSw;(try dsimp only at hSw);go_simp;try with_reducible rfl
     try simp only [Act.put,sA,sZ,sS,gA,gZ,gS]
     refine tk 16 (v:=?vya16) rfl ?hyya16 ?_
     case hyya16=>intro w hSw;(try dsimp only at hSw);go_simp;try with_reducible rfl
     try simp only [Act.put,sA,sZ,sS,gA,gZ,gS]
     refine r1 13 rfl (fun K hK=>?_)
     go_simp
     refine (uh CF _).mono ?_
     rintro r z9 ⟨rfl,hz9⟩
     replace hz9:=hz9.symm
     subst hz9
     go_wp2_with fail
     refine hK.out _ _ (uh HSy) (fun _=>?_)
     clear hK K
     try simp only [Act.put,sA,sZ,sS,gA,gZ,gS]
     refine tk 17 (v:=?vya17) rfl ?hyya17 ?_
     case hyya17=>intro w hSw;(try dsimp only at hSw);go_simp;try with_reducible rfl
     try simp only [Act.put,sA,sZ,sS,gA,gZ,gS]
     refine tk 18 (v:=?vya18) rfl ?hyya18 ?_
     case hyya18=>intro w hSw;(try dsimp only at hSw);go_simp;try with_reducible rfl
     try simp only [Act.put,sA,sZ,sS,gA,gZ,gS]
     refine wpAnyH_done (by kernel_rfl) ?_ _
     go_upto_region 6 with fail
     refine gen_world (fun z=>Nx w N wi vs va vr vj ak (some ⟨g,o,none⟩) y ua uc n L j F (.slice ad j cp) z) ?_ ?_
     ·exact uh HX
     clear HX
     intro wq hq
     have HX:=hide hq
     clear hq
     go_cut [4] (fun v wx=>∃ a4 c4,v=.slice a4 (j+1) c4∧Nx w N wi vs va vr vj ak (some ⟨g,o,none⟩) y ua uc n L (j+1) (F ++ [⟨1,vj,vr,t⟩]) (.slice a4 (j+1) c4) wx)
     case first =>
      refine wp_region_held_drew (S:=fun z=>z.cell? ⟨N,2,none⟩=some (.int .i64 va)∧z.cell? ⟨N,1,none⟩=some (.int .i64 vj)∧z.cell? ⟨w.heap.size,0,none⟩=some (.int .i64 wi)∧z.cell? ⟨w.heap.size,3,none⟩=some (.int .i64 vr)∧z.cell? ⟨w.heap.size,4,none⟩=some (.slice (some ⟨g,o,none⟩) n y)∧z.cell? ⟨g,o+i,none⟩=some (.string t)) (by kernel_rfl) ((uh HX).drew.cells6 (uh HTX)) (fun hHeld=>?_)
      have HX6:=hide (uh HX).drew
      have HSy:=hide hHeld
      generalize wq.drew=yy at HX6 HSy hHeld ⊢
      refine tk 0 (v:=?vsa0) rfl ?hysa0 ?_
      case hysa0=>intro w hSw;(try dsimp only at hSw);go_simp;try with_reducible rfl
      try simp only [Act.put,sA,sZ,sS,gA,gZ]
      refine tk 1 (v:=?vsa1) rfl ?hysa1 ?_
      case hysa1=>intro w hSw;(try dsimp only at hSw);go_simp;try with_reducible rfl
      try simp only [Act.put,sA,sZ,sS,gA,gZ,gS]
      refine tk 2 (v:=?vsa2) rfl ?hysa2 ?_
      case hysa2=>intro w hSw;(try dsimp only at hSw);go_simp;try with_reducible rfl
      try simp only [Act.put,sA,sZ,sS,gA,gZ,gS]
      refine tk 3 (v:=?vsa3) rfl ?hysa3 ?_
      case hysa3=>intro w hSw;(try dsimp only at hSw);go_simp;try with_reducible rfl
      try simp only [Act.put,sA,sZ,sS,gA,gZ,gS]
      refine tk 4 (v:=?vsa4) rfl ?hysa4 ?_
      case hysa4=>intro w hSw;(try dsimp only at hSw);go_simp;try with_reducible rfl
      try simp only [Act.put,sA,sZ,sS,gA,gZ,gS]
      refine tk 5 (v:=?vsa5) rfl ?hysa5 ?_
      case hysa5=>intro w hSw;(try dsimp only at hSw);go_simp;try with_reducible rfl
      try simp only [Act.put,sA,sZ,sS,gA,gZ,gS]
      refine tk 6 (v:=?vsa6) rfl ?hysa6 ?_
      case hysa6=>intro w hSw;(try dsimp only at hSw);go_simp;try with_reducible rfl
      try simp only [Act.put,sA,sZ,sS,gA,gZ,gS]
      refine tk 7 (v:=?vsa7) rfl ?hysa7 ?_
      case hysa7=>intro w hSw;(try dsimp only at hSw);go_simp;try with_reducible rfl
      try simp only [Act.put,sA,sZ,sS,gA,gZ,gS]
      refine tk 8 (v:=?vsa8) rfl ?hysa8 ?_
      case hysa8=>intro w hSw;(try dsimp only at hSw);go_simp;try with_reducible rfl
      try simp only [Act.put,sA,sZ,sS,gA,gZ,gS]
      refine tk 9 (v:=?vsa9) rfl ?hysa9 ?_
      case hysa9=>intro w hSw;(try dsimp only at hSw);go_simp;try with_reducible rfl
      try simp only [Act.put,sA,sZ,sS,gA,gZ,gS]
      refine tk 10 (v:=?vsa10) rfl ?hysa10 ?_
      case hysa10=>intro w hSw;(try dsimp only at hSw);go_simp;try with_reducible rfl
      try simp only [Act.put,sA,sZ,sS,gA,gZ,gS]
      refine r1 11 rfl (fun K hK=>?_)
      go_simp
      refine (uh CF _).mono ?_
      rintro r z9 ⟨rfl,hz9⟩
      replace hz9:=hz9.symm
      subst hz9
      go_wp2_with fail
      refine hK.out _ _ (uh HSy) (fun _=>?_)
      clear hK K
      try simp only [Act.put,sA,sZ,sS,gA,gZ,gS]
      refine tk 12 (v:=?vsa12) rfl ?hysa12 ?_
      case hysa12=>intro w hSw;(try dsimp only at hSw);go_simp;try with_reducible rfl
      try simp only [Act.put,sA,sZ,sS,gA,gZ,gS]
      refine tk 13 (v:=?vsa13) rfl ?hysa13 ?_
      case hysa13=>intro w hSw;(try dsimp only at hSw);go_simp;try with_reducible rfl
      try simp only [Act.put,sA,sZ,sS,gA,gZ,gS]
      refine tk 14 (v:=?vsa14) rfl ?hysa14 ?_
      case hysa14=>intro w hSw;(try dsimp only at hSw);go_simp;try with_reducible rfl
      try simp only [Act.put,sA,sZ,sS,gA,gZ,gS]
      refine r1 15 rfl (fun K hK=>?_)
      go_simp
      have hbA:Below yy.heap.size yy (yy.alloc (.cells #[.int .i64 1,.int .i64 vj,.int .i64 vr,.string t] 96)):=(Below.refl _ _).alloc (Nat.le_refl _) _
      have HX7:=hide ((uh HX6).step hbA)
      have HSz:=hide ((uh HX7).cells6 (uh HTX))
      have HN7:=hide (heap_alloc_new yy (.cells #[.int .i64 1,.int .i64 vj,.int .i64 vr,.string t] 96))
      clear hbA
      refine hK.out _ _ (uh HSz) (fun _=>?_)
      clear hK K
      try simp only [Act.put,sA,sZ,sS,gA,gZ,gS]
      refine r1 16 rfl (fun K hK=>?_)
      refine step_append_nb (yy.alloc (.cells #[.int .i64 1,.int .i64 vj,.int .i64 vr,.string t] 96)) (by rfl) _ _ (by rfl) w.heap.size (.slice ad j cp) F j hFl 1 vj vr t yy.heap.size (by rfl) (by rfl) (uh HX7).own (uh HN7) (by omega) (uh HX7).below.size ?_
      rintro v4 z2 ho4 hg4
      obtain ⟨a4,c4',rfl⟩:=own_form ho4
      have HX8:=hide ((uh HX7).grow hg4 ho4)
      have HS8:=hide ((uh HX8).cells6 (uh HTX))
      clear ho4 hg4
      refine hK.out _ _ (uh HS8) (fun _=>?_)
      clear hK K
      try simp only [Act.put,sA,sZ,sS,gA,gZ,gS]
      refine tk 17 (v:=?vsa17) rfl ?hysa17 ?_
      case hysa17=>intro w hSw;(try dsimp only at hSw);go_simp;try with_reducible rfl
      try simp only [Act.put,sA,sZ,sS,gA,gZ,gS]
      refine wpAnyH_done (by kernel_rfl) ?_ _
      go_wp2_with fail
      go_meet
      exact ⟨a4,c4',rfl,(uh HX8)⟩
     case rest =>
      obtain ⟨a4,c4,rfl,hz⟩:=hcut
      obtain ⟨p0,p1,p2,p3,p4,p5⟩:=row6l hz.nn
      have f1:=frz hz.nn 1
      have HZ:=hide (uh HNX _ _ _ hz)
      clear hz HX CF HNX
      go_wp2_with fail
      go_roundw
      case rel=>exact ⟨j+1,a4,c4,hj1,rfl,uh HZ⟩
      case measure=>show m - (j+1)<m - j;omega
    ·have d2:decide ((i:Int)<(n:Int))=false:=decide_eq_false c2
     have d2':decide (i<n)=false:=decide_eq_false (by omega)
     have hjm2:j=m:=by omega
     subst hjm2
     go_upto_region 5 with fail
     refine wp_region_held_drew (S:=fun z=>z.cell? ⟨N,2,none⟩=some (.int .i64 va)∧z.cell? ⟨N,1,none⟩=some (.int .i64 vj)∧z.cell? ⟨w.heap.size,0,none⟩=some (.int .i64 wi)∧z.cell? ⟨w.heap.size,3,none⟩=some (.int .i64 vr)∧z.cell? ⟨w.heap.size,4,none⟩=some (.slice x n y)) (by kernel_rfl) (uh HX).drew.cells (fun hHeld=>?_)
     have HSy:=hide hHeld
     have HXd:=hide (uh HX).drew
     generalize wr.drew=yy at HXd HSy hHeld ⊢
     clear HX
     have HX:=HXd
     clear HXd
     refine tk 0 (v:=?vna0) rfl ?hyna0 ?_
     case hyna0=>intro w hSw;(try dsimp only at hSw);go_simp;try with_reducible rfl
     try simp only [Act.put,sA,sZ,sS,gA,gZ]
     refine tk 1 (v:=?vna1) rfl ?hyna1 ?_
     case hyna1=>intro w hSw;(try dsimp only at hSw);go_simp;try with_reducible rfl
     try simp only [Act.put,sA,sZ,sS,gA,gZ,gS]
     refine tk 2 (v:=?vna2) rfl ?hyna2 ?_
     case hyna2=>intro w hSw;(try dsimp only at hSw);go_simp;try with_reducible rfl
     try simp only [Act.put,sA,sZ,sS,gA,gZ,gS]
     refine tk 3 (v:=?vna3) rfl ?hyna3 ?_
     case hyna3=>intro w hSw;(try dsimp only at hSw);go_simp;try with_reducible rfl
     try simp only [Act.put,sA,sZ,sS,gA,gZ,gS]
     refine tk 5 (v:=?vna5) rfl ?hyna5 ?_
     case hyna5=>intro w hSw;(try dsimp only at hSw);go_simp;try with_reducible rfl
     try simp only [Act.put,sA,sZ,sS,gA,gZ,gS]
     refine tk 6 (v:=?vna6) rfl ?hyna6 ?_
     case hyna6=>intro w hSw;(try dsimp only at hSw);go_simp;try with_reducible rfl
     try simp only [Act.put,sA,sZ,sS,gA,gZ,gS]
     refine r1 4 rfl (fun K hK=>?_)
     go_simp
     refine (uh CF _).mono ?_
     rintro r z9 ⟨rfl,hz9⟩
     replace hz9:=hz9.symm
     subst hz9
     go_wp2_with fail
     refine hK.out _ _ (uh HSy) (fun _=>?_)
     clear hK K
     try simp only [Act.put,sA,sZ,sS,gA,gZ,gS]
     refine tk 7 (v:=?vna7) rfl ?hyna7 ?_
     case hyna7=>intro w hSw;(try dsimp only at hSw);go_simp;try with_reducible rfl
     try simp only [Act.put,sA,sZ,sS,gA,gZ,gS]
     refine tk 8 (v:=?vna8) rfl ?hyna8 ?_
     case hyna8=>intro w hSw;(try dsimp only at hSw);go_simp;try with_reducible rfl
     try simp only [Act.put,sA,sZ,sS,gA,gZ,gS]
     refine tk 9 (v:=?vna9) rfl ?hyna9 ?_
     case hyna9=>intro w hSw;(try dsimp only at hSw);go_simp;try with_reducible rfl
     try simp only [Act.put,sA,sZ,sS,gA,gZ,gS]
     refine tk 10 (v:=?vna10) rfl ?hyna10 ?_
     case hyna10=>intro w hSw;(try dsimp only at hSw);go_simp;try with_reducible rfl
     try simp only [Act.put,sA,sZ,sS,gA,gZ,gS]
     refine tk 11 (v:=?vna11) rfl ?hyna11 ?_
     case hyna11=>intro w hSw;(try dsimp only at hSw);go_simp;try with_reducible rfl
     try simp only [Act.put,sA,sZ,sS,gA,gZ,gS]
     refine tk 12 (v:=?vna12) rfl ?hyna12 ?_
     case hyna12=>intro w hSw;(try dsimp only at hSw);go_simp;try with_reducible rfl
     try simp only [Act.put,sA,sZ,sS,gA,gZ,gS]
     refine tk 14 (v:=?vna14) rfl ?hyna14 ?_
     case hyna14=>intro w hSw;(try dsimp only at hSw);go_simp;try with_reducible rfl
     try simp only [Act.put,sA,sZ,sS,gA,gZ,gS]
     refine tk 15 (v:=?vna15) rfl ?hyna15 ?_
     case hyna15=>intro w hSw;(try dsimp only at hSw);go_simp;try with_reducible rfl
     try simp only [Act.put,sA,sZ,sS,gA,gZ,gS]
     refine tk 16 (v:=?vna16) rfl ?hyna16 ?_
     case hyna16=>intro w hSw;(try dsimp only at hSw);go_simp;try with_reducible rfl
     try simp only [Act.put,sA,sZ,sS,gA,gZ,gS]
     refine r1 13 rfl (fun K hK=>?_)
     go_simp
     refine (uh CF _).mono ?_
     rintro r z9 ⟨rfl,hz9⟩
     replace hz9:=hz9.symm
     subst hz9
     go_wp2_with fail
     refine hK.out _ _ (uh HSy) (fun _=>?_)
     clear hK K
     try simp only [Act.put,sA,sZ,sS,gA,gZ,gS]
     refine tk 17 (v:=?vna17) rfl ?hyna17 ?_
     case hyna17=>intro w hSw;(try dsimp only at hSw);go_simp;try with_reducible rfl
     try simp only [Act.put,sA,sZ,sS,gA,gZ,gS]
     refine tk 18 (v:=?vna18) rfl ?hyna18 ?_
     case hyna18=>intro w hSw;(try dsimp only at hSw);go_simp;try with_reducible rfl
     try simp only [Act.put,sA,sZ,sS,gA,gZ,gS]
     refine wpAnyH_done (by kernel_rfl) ?_ _
     have hXd:=uh HX
     obtain ⟨p0,p1,p2,p3,p4,p5⟩:=row6l hXd.nn
     obtain ⟨r0,r1,r2,r3,r4,r5,r6,r7,r8⟩:=row9l hXd.res
     obtain ⟨f0,f1,f2,f3,f4,f5,f6,f7,f8⟩:=frz9l hXd.res
     have HXd:=hide hXd
     clear hXd HX CF
     go_wp2_with fail
     refine bodyPost_ret (v:=.agg (loC ⟨wi,vj,va,vr,ak⟩ (.slice ua n uc) (.slice ad j cp) (.slice none 0 0) 0)) (by simp [results,Tryz.results49,asAddr,loC,loadLo (set9_lo (uh HXd).res _ _ _ _ _ _ _ _ _)]) rfl ?_
     rw [uh HVJ,uh HFF]
     exact AnsW.put (o:=⟨⟨wi,vj,va,vr,ak⟩,L,F,[],0⟩) (uh HXd).hu (HoldsN.own (F:=F) (by rw [hFl];exact (uh HXd).own)) (holdsS_nil _ none 0) (uh HLO) (fun g hg=>((uh HXd).own.lt g hg).1) (fun g hg=>by cases hg) (uh HXd).below (uh HXd).res (by omega) _ _ _ _ _ _ _ _ _
   ·have d1:decide ((i:Int)<wi)=false:=decide_eq_false c1
    have hjm2:j=m:=by omega
    subst hjm2
    go_upto_region 5 with fail
    refine wp_region_held_drew (S:=fun z=>z.cell? ⟨N,2,none⟩=some (.int .i64 va)∧z.cell? ⟨N,1,none⟩=some (.int .i64 vj)∧z.cell? ⟨w.heap.size,0,none⟩=some (.int .i64 wi)∧z.cell? ⟨w.heap.size,3,none⟩=some (.int .i64 vr)∧z.cell? ⟨w.heap.size,4,none⟩=some (.slice x n y)) (by kernel_rfl) (uh HX).drew.cells (fun hHeld=>?_)
    have HSy:=hide hHeld
    have HXd:=hide (uh HX).drew
    generalize wr.drew=yy at HXd HSy hHeld ⊢
    clear HX
    have HX:=HXd
    clear HXd
    refine tk 0 (v:=?vxa0) rfl ?hyxa0 ?_
    case hyxa0=>intro w hSw;(try dsimp only at hSw);go_simp;try with_reducible rfl
    try simp only [Act.put,sA,sZ,sS,gA,gZ]
    refine tk 1 (v:=?vxa1) rfl ?hyxa1 ?_
    case hyxa1=>intro w hSw;(try dsimp only at hSw);go_simp;try with_reducible rfl
    try simp only [Act.put,sA,sZ,sS,gA,gZ,gS]
    refine tk 2 (v:=?vxa2) rfl ?hyxa2 ?_
    case hyxa2=>intro w hSw;(try dsimp only at hSw);go_simp;try with_reducible rfl
    try simp only [Act.put,sA,sZ,sS,gA,gZ,gS]
    refine tk 3 (v:=?vxa3) rfl ?hyxa3 ?_
    case hyxa3=>intro w hSw;(try dsimp only at hSw);go_simp;try with_reducible rfl
    try simp only [Act.put,sA,sZ,sS,gA,gZ,gS]
    refine tk 5 (v:=?vxa5) rfl ?hyxa5 ?_
    case hyxa5=>intro w hSw;(try dsimp only at hSw);go_simp;try with_reducible rfl
    try simp only [Act.put,sA,sZ,sS,gA,gZ,gS]
    refine tk 6 (v:=?vxa6) rfl ?hyxa6 ?_
    case hyxa6=>intro w hSw;(try dsimp only at hSw);go_simp;try with_reducible rfl
    try simp only [Act.put,sA,sZ,sS,gA,gZ,gS]
    refine r1 4 rfl (fun K hK=>?_)
    go_simp
    refine (uh CF _).mono ?_
    rintro r z9 ⟨rfl,hz9⟩
    replace hz9:=hz9.symm
    subst hz9
    go_wp2_with fail
    refine hK.out _ _ (uh HSy) (fun _=>?_)
    clear hK K
    try simp only [Act.put,sA,sZ,sS,gA,gZ,gS]
    refine tk 7 (v:=?vxa7) rfl ?hyxa7 ?_
    case hyxa7=>intro w hSw;(try dsimp only at hSw);go_simp;try with_reducible rfl
    try simp only [Act.put,sA,sZ,sS,gA,gZ,gS]
    refine tk 8 (v:=?vxa8) rfl ?hyxa8 ?_
    case hyxa8=>intro w hSw;(try dsimp only at hSw);go_simp;try with_reducible rfl
    try simp only [Act.put,sA,sZ,sS,gA,gZ,gS]
    refine wpAnyH_take (i:=9) (v:=undef) rfl (by kernel_rfl) (by kernel_rfl) (by kernel_rfl) (fun _ _ _ h=>h) (Or.inr ⟨by rfl,rfl⟩) (by assumption) ?_
    try simp only [Act.put,sA,sZ,sS,gA,gZ,gS]
    refine wpAnyH_take (i:=10) (v:=undef) rfl (by kernel_rfl) (by kernel_rfl) (by kernel_rfl) (fun _ _ _ h=>h) (Or.inr ⟨by rfl,rfl⟩) (by assumption) ?_
    try simp only [Act.put,sA,sZ,sS,gA,gZ,gS]
    refine wpAnyH_take (i:=11) (v:=undef) rfl (by kernel_rfl) (by kernel_rfl) (by kernel_rfl) (fun _ _ _ h=>h) (Or.inr ⟨by rfl,rfl⟩) (by assumption) ?_
    try simp only [Act.put,sA,sZ,sS,gA,gZ,gS]
    refine wpAnyH_take (i:=12) (v:=undef) rfl (by kernel_rfl) (by kernel_rfl) (by kernel_rfl) (fun _ _ _ h=>h) (Or.inr ⟨by rfl,rfl⟩) (by assumption) ?_
    try simp only [Act.put,sA,sZ,sS,gA,gZ,gS]
    refine wpAnyH_take (i:=13) (v:=undef) rfl (by kernel_rfl) (by kernel_rfl) (by kernel_rfl) (fun _ _ _ h=>h) (Or.inr ⟨by rfl,rfl⟩) (by assumption) ?_
    try simp only [Act.put,sA,sZ,sS,gA,gZ,gS]
    refine wpAnyH_take (i:=14) (v:=undef) rfl (by kernel_rfl) (by kernel_rfl) (by kernel_rfl) (fun _ _ _ h=>h) (Or.inr ⟨by rfl,rfl⟩) (by assumption) ?_
    try simp only [Act.put,sA,sZ,sS,gA,gZ,gS]
    refine wpAnyH_take (i:=15) (v:=undef) rfl (by kernel_rfl) (by kernel_rfl) (by kernel_rfl) (fun _ _ _ h=>h) (Or.inr ⟨by rfl,rfl⟩) (by assumption) ?_
    try simp only [Act.put,sA,sZ,sS,gA,gZ,gS]
    refine wpAnyH_take (i:=16) (v:=undef) rfl (by kernel_rfl) (by kernel_rfl) (by kernel_rfl) (fun _ _ _ h=>h) (Or.inr ⟨by rfl,rfl⟩) (by assumption) ?_
    try simp only [Act.put,sA,sZ,sS,gA,gZ,gS]
    refine wpAnyH_take (i:=17) (v:=undef) rfl (by kernel_rfl) (by kernel_rfl) (by kernel_rfl) (fun _ _ _ h=>h) (Or.inr ⟨by rfl,rfl⟩) (by assumption) ?_
    try simp only [Act.put,sA,sZ,sS,gA,gZ,gS]
    refine tk 18 (v:=?vxa18) rfl ?hyxa18 ?_
    case hyxa18=>intro w hSw;(try dsimp only at hSw);go_simp;try with_reducible rfl
    try simp only [Act.put,sA,sZ,sS,gA,gZ,gS]
    refine wpAnyH_done (by kernel_rfl) ?_ _
    have hXd:=uh HX
    obtain ⟨p0,p1,p2,p3,p4,p5⟩:=row6l hXd.nn
    obtain ⟨r0,r1,r2,r3,r4,r5,r6,r7,r8⟩:=row9l hXd.res
    obtain ⟨f0,f1,f2,f3,f4,f5,f6,f7,f8⟩:=frz9l hXd.res
    have HXd:=hide hXd
    clear hXd HX CF
    go_wp2_with fail
    refine bodyPost_ret (v:=.agg (loC ⟨wi,vj,va,vr,ak⟩ (.slice ua n uc) (.slice ad j cp) (.slice none 0 0) 0)) (by simp [results,Tryz.results49,asAddr,loC,loadLo (set9_lo (uh HXd).res _ _ _ _ _ _ _ _ _)]) rfl ?_
    rw [uh HVJ,uh HFF]
    exact AnsW.put (o:=⟨⟨wi,vj,va,vr,ak⟩,L,F,[],0⟩) (uh HXd).hu (HoldsN.own (F:=F) (by rw [hFl];exact (uh HXd).own)) (holdsS_nil _ none 0) (uh HLO) (fun g hg=>((uh HXd).own.lt g hg).1) (fun g hg=>by cases hg) (uh HXd).below (uh HXd).res (by omega) _ _ _ _ _ _ _ _ _
end Go.Proofs.YtkcghhkkepndnaaGreatDoor
