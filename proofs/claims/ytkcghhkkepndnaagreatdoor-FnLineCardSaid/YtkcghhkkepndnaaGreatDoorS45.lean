/- The model's LineRun: at every texts, window, script and way of settling what it answers; what lay in memory stands; no condition but those named. -/
import Derived.Test.YtkcghhkkepndnaaGreatDoorS44
import Derived.Test.YtkcghhkkepndnaaGreatDoorS41
import Derived.Test.YtkcghhkkepndnaaGreatDoorS05
import Derived.Test.YtkcghhkkepndnaaGreatDoorShW
namespace Go.Proofs.YtkcghhkkepndnaaGreatDoor
open Go.RowKit
theorem MS.stand {base Sa Sb Ww:Nat} {m:Nw} {W W':World} {K K':Nat→Prop} (h:MS base Sa Sb Ww m W K) (f:Fz (E3 Sa Sb Ww) K K' W W') (g:Nat) (cur:Array Value) (T:TypeId) (t1:T≠93) (t2:T≠70) (t3:T≠72) (t4:T≠9) (hg:W.heap[g]?=some (.cells cur T)):W'.heap[g]?=some (.cells cur T):=by
 obtain ⟨qa,la,qb,lb,gv,hm,rfl⟩:=h
 exact hm.stand f g cur T t1 t2 t3 t4 hg
theorem MS.low {base Sa Sb Ww:Nat} {m:Nw} {W W':World} {K K':Nat→Prop} (h:MS base Sa Sb Ww m W K) (f:Fz (E3 Sa Sb Ww) K K' W W'):Below base W W':=by
 obtain ⟨qa,la,qb,lb,gv,hm,rfl⟩:=h
 refine f.low (fun k e=>?_) (fun k hk=>(hm.kk k hk).1) hm.a.bs
 rcases e with e | e | e
 ·rw [e];exact hm.bA
 ·rw [e];exact hm.bB
 ·rw [e];exact hm.bW
theorem Rlo.after {w:World} {A:Nat} {q q':World} {Sa Sb Ww:Nat} {m:Nw} {K K':Nat→Prop} (h:Rlo w A q) (hm:MS w.heap.size Sa Sb Ww m q K) (f:Fz (E3 Sa Sb Ww) K K' q q'):Rlo w A q' :=
 ⟨hm.stand f A _ _ (by decide) (by decide) (by decide) (by decide) h.z,h.l.trans (hm.low f)⟩
theorem MS.end {w zf:World} {A Sa Sb Ww:Nat} {v:Nw} {K:Nat→Prop} {o:RO} (h:MS w.heap.size Sa Sb Ww v zf K) (hz:Rlo w A zf) (hA:w.heap.size≤A) (ho:o=⟨v.b.gt,decide (v.a.Q.length=0),v.bad,v.un,0⟩) :
  ∃ (ga:Option Addr) (gl gc:Nat) (qa:Option Addr) (ql qc:Nat) (bd ub:Int),zf.cell? ⟨Ww,2,none⟩=some (.slice ga gl gc)∧zf.cell? ⟨Ww,0,none⟩=some (.pointer (some ⟨Sa,0,none⟩))∧zf.cell? ⟨Sa,4,none⟩=some (.slice qa ql qc)∧zf.cell? ⟨Ww,3,none⟩=some (.int .i64 bd)∧zf.cell? ⟨Ww,4,none⟩=some (.int .i64 ub)∧zf.heap[A]?=some (.cells (roC (.slice none 0 0) false 0 0 0) 28)∧Ww≠A∧Sa≠A ∧
   AnR o w (.returned (.agg (roC (.slice ga gl gc) (decide (ql=0)) bd ub 0))) (zf.drew.setRow A (roC (.slice ga gl gc) (decide (ql=0)) bd ub 0)):=by
 obtain ⟨qa,la,qb,lb,gv,hm,rfl⟩:=h
 obtain ⟨c0,_,c2,c3,c4⟩:=hm.cells
 obtain ⟨qad,qc,hqf⟩:=hm.a.hq.form
 obtain ⟨gad,gc,hgf⟩:=own_form hm.hg
 have ca:zf.cell? ⟨Sa,4,none⟩=some (.slice qad v.a.Q.length qc):=by rw [cr hm.a.row,← hqf];rfl
 rw [hgf] at c2
 refine ⟨gad,v.b.gt.length,gc,qad,v.a.Q.length,qc,v.bad,v.un,c2,c0,ca,c3,c4,hz.z,typ_ne hm.w hz.z (by decide),typ_ne hm.a.row hz.z (by decide),?_⟩
 rw [ho]
 refine ⟨_,rfl,?_,below_setRow hz.l.drew hA _⟩
 have hg:=hm.hg
 rw [hgf] at hg
 exact own_blk hg fun g cur _ hg=>setRow_other zf.drew A g _ (typ_ne hg hz.z (by decide))
theorem MS.laid {w y3 y5:World} {A Sa Sb Ww:Nat} {wi:Int} {T:List ByteArray} {v:Value} (hz:Rlo w A y3) (ha:y3.heap[Sa]?=some (.cells (smC (lpNew wi) (.slice none 0 0) dm0 (.slice none 0 0)).toArray 70)) (hb:y3.heap[Sb]?=some (.cells (smC (lpNew wi) (.slice none 0 0) dm0 (.slice none 0 0)).toArray 70)) (hw:y3.heap[Ww]?=some (.cells (wwC Sa Sb (.slice none 0 0) 0 0) 72)) (ab:Sa≠Sb) (bA:w.heap.size≤Sa) (bB:w.heap.size≤Sb) (bW:w.heap.size≤Ww)
  (hl:Below y3.heap.size y3 y5) (hq:y5.ownsRow y3.heap.size 9 1 v T.length (scells T)) :
  MS w.heap.size Sa Sb Ww ⟨nl0 wi T,nl0 wi [],0,0⟩ (y5.setCell ⟨Sa,4,none⟩ v) (K3 (.slice none 0 0) (.slice none 0 0) (.slice none 0 0))∧Rlo w A (y5.setCell ⟨Sa,4,none⟩ v):=by
 have lt:∀ {k:Nat} {o:Obj},y3.heap[k]?=some o→k<y3.heap.size:=fun h=>(Array.getElem?_eq_some_iff.1 h).1
 have ha5:=(hl.block Sa (lt ha)).trans ha
 have hb5:=(hl.block Sb (lt hb)).trans hb
 have hw5:=(hl.block Ww (lt hw)).trans hw
 have hz5:=(hl.block A (lt hz.z)).trans hz.z
 have ot:∀ k,k≠Sa→(y5.setCell ⟨Sa,4,none⟩ v).heap[k]?=y5.heap[k]?:=fun k hk=>heap_setCell_other _ _ _ _ hk
 have hzz:=((Below.refl w.heap.size y5).setCell (p:=⟨Sa,4,none⟩) bA v)
 have hr:=heap_setCell_same y5 Sa 4 _ _ v ha5
 refine ⟨MS.start (v:=v) hr ((ot Sb (fun e=>ab e.symm)).trans hb5) ((ot Ww (typ_ne hw ha (by decide))).trans hw5) (HoldsT.own (own_blk hq fun g cur _ hg=>ot g (typ_ne hg ha5 (by decide)))).s (fun g hg=>?_) ab bA bB bW (Nat.le_trans hz.l.size (Nat.le_trans hl.size hzz.size)),(ot A (typ_ne hz.z ha (by decide))).trans hz5,hz.l.trans ((hl.mono hz.l.size).trans hzz)⟩
 have h2:=own_typ hq g hg
 exact ⟨Nat.le_trans hz.l.size h2.1,Nat.lt_of_lt_of_le h2.2.1 hzz.size⟩
set_option maxHeartbeats 8000000 in
set_option maxRecDepth 100000 in
set_option linter.unusedSimpArgs false in
theorem sLineRun {w:World} {x:Option Addr} {y:Nat} {T:List ByteArray} (hS:HoldsS w (.slice x T.length y) T) (hl1:T.length≤1048576) (wi:Int) {x2:Option Addr} {y2:Nat} {L:List Int} (hL:HoldsI w (.slice x2 L.length y2) L) (hl2:L.length≤1048576) (he:∀ e ∈ L,e≤9223372036854775807) (st:Bool) :
  Calls Tryz.prog 7 #[.slice x T.length y,.int .i64 wi,.slice x2 L.length y2,.bool st] w fun e w'=>AnR (lineO T wi L st) w e w':=by
 have H0:Rlo w w.heap.size (w.alloc (.cells (roC (.slice none 0 0) false 0 0 0) 28)):=⟨heap_alloc_new w _,(Below.refl _ _).alloc (Nat.le_refl _) _⟩
 have HS:=hide (And.intro hS hL)
 have HE:=hide he
 clear hS hL he
 obtain ⟨o,ho⟩:∃ o,lineO T wi L st=o:=⟨_,rfl⟩
 rw [ho]
 obtain ⟨A,eA⟩:∃ A,w.heap.size=A:=⟨_,rfl⟩
 have hXw:w.heap.size≤A:=by omega
 rw [eA] at H0
 have HZ:=hide H0
 clear H0
 obtain ⟨n,hn⟩:∃ n,T.length=n:=⟨_,rfl⟩
 obtain ⟨n2,hn2⟩:∃ n,L.length=n:=⟨_,rfl⟩
 unfold lineO at ho
 rw [hn,hn2] at ho
 rw [hn] at hl1 HS ⊢
 rw [hn2] at hl2 HS ⊢
 have HO:=hide ho.symm
 clear ho
 go_enter Tryz.func7,Tryz.ntmps7
 go_upto_region 1 with fail
 generalize w.alloc (.cells (roC (.slice none 0 0) false 0 0 0) 28)=z at HZ ⊢
 by_cases h4:400<n
 ·have d0:(400:Int)<(n:Int):=by omega
  go_wp2_with (first
   | (refine wpList_buildTo rfl 28 _ rfl (some 21) rfl (roC (.slice none 0 0) false 0 0 2) (by as_aux_lemma=>kernel_rfl) ?_)
   | (refine wpList_store_rowTo rfl 28 (.tmp 8) (.tmp 21) rfl rfl A (roC (.slice none 0 0) false 0 0 2) rfl rfl 28 _ (uh HZ).z infoRo rfl (roC_all _ _ _ _ _ _ _) ?_))
  refine bodyPost_ret (v:=.agg (roC (.slice none 0 0) false 0 0 2)) (by simp [results,Tryz.results7,asAddr,Act.put,loadRo (setRow_heap z A _ (roC (.slice none 0 0) false 0 0 2) _ _ (uh HZ).z)]) rfl ?_
  rw [show o=⟨[],false,0,0,2⟩ by rw [uh HO,if_pos (Or.inl h4)]]
  exact AnR.err 2 (below_setRow (uh HZ).l hXw _)
 have d0:¬ ((400:Int)<(n:Int)):=by omega
 by_cases h5:400<n2
 ·have d2:(400:Int)<(n2:Int):=by omega
  go_wp2_with (first
   | (refine wpList_buildTo rfl 28 _ rfl (some 21) rfl (roC (.slice none 0 0) false 0 0 2) (by as_aux_lemma=>kernel_rfl) ?_)
   | (refine wpList_store_rowTo rfl 28 (.tmp 8) (.tmp 21) rfl rfl A (roC (.slice none 0 0) false 0 0 2) rfl rfl 28 _ (uh HZ).z infoRo rfl (roC_all _ _ _ _ _ _ _) ?_))
  refine bodyPost_ret (v:=.agg (roC (.slice none 0 0) false 0 0 2)) (by simp [results,Tryz.results7,asAddr,Act.put,loadRo (setRow_heap z A _ (roC (.slice none 0 0) false 0 0 2) _ _ (uh HZ).z)]) rfl ?_
  rw [show o=⟨[],false,0,0,2⟩ by rw [uh HO,if_pos (Or.inr h5)]]
  exact AnR.err 2 (below_setRow (uh HZ).l hXw _)
 have d2:¬ ((400:Int)<(n2:Int)):=by omega
 have HO2:Hid (o=if n≠0∧qOk T=true∧winOk wi=true then ⟨(lineN T wi L st).b.gt,decide ((lineN T wi L st).a.Q.length=0),(lineN T wi L st).bad,(lineN T wi L st).un,0⟩ else ⟨[],false,0,0,1⟩):=hide (by rw [uh HO,if_neg (by omega)])
 clear HO
 have CW:=hide fun v=>sWin wi v
 obtain ⟨b3,hb3⟩:∃ b3,(decide (n≠0) && (decide (n≤20) && winOk wi))=b3:=⟨_,rfl⟩
 have HB3:=hide hb3
 clear hb3
 go_upto_region 3 with fail
 go_cut [9] (fun v wx=>v=.bool b3∧Rlo w A wx)
 case first =>
  by_cases h0:n=0
  ·have e1:¬ ((1:Int)≤(n:Int)):=by omega
   have HR:Hid (Value.bool false=.bool b3):=hide (by rw [← uh HB3,h0];rfl)
   clear CW h0
   go_wp2_with fail
   go_meet
   exact ⟨uh HR,uh HZ⟩
  ·have e1:(1:Int)≤(n:Int):=by omega
   by_cases h20:n≤20
   ·have e2:(n:Int)≤20:=by omega
    have HR:Hid (Value.bool (winOk wi)=.bool b3):=hide (by rw [← uh HB3,decide_eq_true h0,decide_eq_true h20,Bool.true_and,Bool.true_and])
    go_wp2_with fail
    refine (uh CW _).mono ?_
    rintro e z2 ⟨rfl,hz2⟩
    replace hz2:=hz2.symm
    subst hz2
    go_wp2_with fail
    go_meet
    exact ⟨uh HR,uh HZ⟩
   ·have e2:¬ ((n:Int)≤20):=by omega
    have HR:Hid (Value.bool false=.bool b3):=hide (by rw [← uh HB3,decide_eq_false h20,Bool.false_and,Bool.and_false])
    clear CW
    go_wp2_with fail
    go_meet
    exact ⟨uh HR,uh HZ⟩
 case rest =>
  obtain ⟨rfl,hZ2⟩:=hcut
  rename World=>z2
  have HZ2:=hide hZ2
  clear hZ2 HZ CW
  obtain ⟨bT,hbT⟩:∃ bT,(b3 && T.all fun t=>decide (t.size≤200))=bT:=⟨_,rfl⟩
  have HBT:=hide hbT
  clear hbT
  have HTN:=hide hn
  clear hn
  go_wp2_with fail
  go_loopw [9,10] (fun p q wr=>∃ i:Nat,i≤n∧q=.int .i64 i∧p=.bool (b3 && (T.take i).all fun t=>decide (t.size≤200))∧Rlo w A wr) (fun _ q _=>n - (intOf q).toNat)
  case atStart=>exact ⟨0,Nat.zero_le _,rfl,by rw [List.take_zero,List.all_nil,Bool.and_true],uh HZ2⟩
  case round =>
   obtain ⟨i,hi,rfl,rfl,hZr⟩:=hrel
   clear HZ2
   by_cases hlt:i<n
   ·have d1:(i:Int)<(n:Int):=by omega
    have hiT:i<T.length:=by rw [uh HTN];exact hlt
    obtain ⟨g,o9,ex,hgc⟩:∃ g o,x=some ⟨g,o,none⟩∧wr.cell? ⟨g,o+i,none⟩=some (.string T[i]):=by
     obtain ⟨g,o9,cp,e,_,h2⟩:=((uh HS).1.below hZr.l).get i hiT
     injection e with e _ _
     exact ⟨g,o9,e,h2⟩
    subst ex
    have hT:=all_take (L:=T) (i:=i) hiT
    obtain ⟨bq,hbq⟩:∃ bq,(b3 && (T.take i).all fun t=>decide (t.size≤200))=bq:=⟨_,rfl⟩
    have HNX:Hid ((b3 && (T.take (i+1)).all fun t=>decide (t.size≤200))=(bq && decide (T[i].size≤200))):=hide (by rw [hT,← hbq,Bool.and_assoc])
    rw [hbq]
    have HZr:=hide hZr
    clear hT hbq hZr
    generalize T[i]=t at *
    cases bq
    ·go_wp2_with fail
     go_roundw
     case rel=>exact ⟨i+1,by omega,by go_num,by rw [uh HNX];rfl,uh HZr⟩
     case measure=>simp [intOf];omega
    ·by_cases h2:t.size≤200
     ·have d3:(t.size:Int)≤200:=by omega
      have HD:=hide (decide_eq_true h2)
      clear h2
      go_wp2_with fail
      go_roundw
      case rel=>exact ⟨i+1,by omega,by go_num,by rw [uh HNX,uh HD];rfl,uh HZr⟩
      case measure=>simp [intOf];omega
     ·have d3:¬ ((t.size:Int)≤200):=by omega
      have HD:=hide (decide_eq_false h2)
      clear h2
      go_wp2_with fail
      go_roundw
      case rel=>exact ⟨i+1,by omega,by go_num,by rw [uh HNX,uh HD];rfl,uh HZr⟩
      case measure=>simp [intOf];omega
   ·have e:i=n:=by omega
    subst e
    have d1:¬ ((i:Int)<(i:Int)):=by omega
    rw [show T.take i=T by rw [← uh HTN];exact List.take_length,uh HBT]
    have HZr:=hide hZr
    clear hZr hi hlt
    cases bT
    ·go_wp2_with (first
      | (refine wpList_buildTo rfl 28 _ rfl (some 51) rfl (roC (.slice none 0 0) false 0 0 1) (by as_aux_lemma=>kernel_rfl) ?_)
      | (refine wpList_store_rowTo rfl 28 (.tmp 8) (.tmp 51) rfl rfl A (roC (.slice none 0 0) false 0 0 1) rfl rfl 28 _ (uh HZr).z infoRo rfl (roC_all _ _ _ _ _ _ _) ?_))
     refine bodyPost_ret (v:=.agg (roC (.slice none 0 0) false 0 0 1)) (by simp [results,Tryz.results7,asAddr,Act.put,loadRo (setRow_heap wr A _ (roC (.slice none 0 0) false 0 0 1) _ _ (uh HZr).z)]) rfl ?_
     rw [show o=⟨[],false,0,0,1⟩ by
      rw [uh HO2,if_neg]
      rintro ⟨h1,h2,h3⟩
      have h4:=uh HBT
      rw [← uh HB3,h3,decide_eq_true h1] at h4
      unfold qOk at h2
      rw [Bool.and_eq_true] at h2
      rw [h2.2,decide_eq_true (by have:=of_decide_eq_true h2.1;have:=uh HTN;omega)] at h4
      cases h4]
     exact AnR.err 1 (below_setRow (uh HZr).l hXw _)
    ·have hok:i≠0∧qOk T=true∧winOk wi=true:=by
      have h4:=uh HBT
      rw [← uh HB3] at h4
      simp only [Bool.and_eq_true,decide_eq_true_eq] at h4
      refine ⟨h4.1.1,?_,h4.1.2.2⟩
      unfold qOk
      rw [Bool.and_eq_true]
      exact ⟨decide_eq_true (by rw [uh HTN];exact h4.1.2.1),h4.2⟩
     have HOU:=hide ((uh HO2).trans (if_pos hok))
     have HOK:=hide hok
     clear hok HO2 HB3 HBT
     have C0:=hide fun v=>specLpNew wi v
     go_wp2_with fail
     refine (uh C0 _).mono ?_
     rintro e w1 ⟨rfl,hb1⟩
     have H1:=hide ((uh HZr).step hb1)
     clear hb1 HZr
     have HA1:Hid ((w1.alloc (.cells (smC (lpNew wi) (.slice none 0 0) dm0 (.slice none 0 0)).toArray 70)).heap[w1.heap.size]?=some (.cells (smC (lpNew wi) (.slice none 0 0) dm0 (.slice none 0 0)).toArray 70)∧Rlo w A (w1.alloc (.cells (smC (lpNew wi) (.slice none 0 0) dm0 (.slice none 0 0)).toArray 70))∧w.heap.size≤w1.heap.size):=hide ⟨heap_alloc_new _ _,(uh H1).step ((Below.refl _ _).alloc (Nat.le_refl _) _),(uh H1).l.size⟩
     clear H1
     go_wp2_with (first
      | (refine wpList_buildTo rfl 70 _ rfl (some 54) rfl (smC (lpNew wi) (.slice none 0 0) dm0 (.slice none 0 0)).toArray (by kernel_rfl) ?_)
      | (refine Great.wpList_allocTo rfl (some 55) rfl (.pointer (some ⟨w1.heap.size,0,none⟩)) (.cells (smC (lpNew wi) (.slice none 0 0) dm0 (.slice none 0 0)).toArray 70) (by simp [go_sem]) ?_))
     generalize w1.alloc (.cells (smC (lpNew wi) (.slice none 0 0) dm0 (.slice none 0 0)).toArray 70)=y1 at HA1 ⊢
     generalize w1.heap.size=Sa at HA1 ⊢
     refine (uh C0 _).mono ?_
     rintro e w3 ⟨rfl,hb3⟩
     obtain ⟨Sb,eSb⟩:∃ Sb,w3.heap.size=Sb:=⟨_,rfl⟩
     obtain ⟨y3,hy3⟩:∃ y3,(w3.alloc (.cells (smC (lpNew wi) (.slice none 0 0) dm0 (.slice none 0 0)).toArray 70)).alloc (.cells (wwC Sa Sb (.slice none 0 0) 0 0) 72)=y3:=⟨_,rfl⟩
     obtain ⟨k1,k2,k3,k4⟩:=new2l w3 (.cells (smC (lpNew wi) (.slice none 0 0) dm0 (.slice none 0 0)).toArray 70) (.cells (wwC Sa Sb (.slice none 0 0) 0 0) 72)
     have HY:Hid (Rlo w A y3∧y3.heap[Sa]?=some (.cells (smC (lpNew wi) (.slice none 0 0) dm0 (.slice none 0 0)).toArray 70)∧y3.heap[Sb]?=some (.cells (smC (lpNew wi) (.slice none 0 0) dm0 (.slice none 0 0)).toArray 70)∧y3.heap[Sb+1]?=some (.cells (wwC Sa Sb (.slice none 0 0) 0 0) 72)∧Sa≠Sb∧w.heap.size≤Sa∧w.heap.size≤Sb∧w.heap.size≤Sb+1):=hide (by
      obtain ⟨a1,a2,a3⟩:=uh HA1
      have hlt:=(Array.getElem?_eq_some_iff.1 a1).1
      have hb13:=hb3.trans (k3.mono hb3.size)
      have hsz:=hb3.size
      have hsa:=(hb13.block Sa hlt).trans a1
      have hr:=a2.step hb13
      rw [← hy3,← eSb] at *
      exact ⟨hr,hsa,k1,k2,by omega,a3,by omega,by omega⟩)
     have HY3:=hide hy3
     have HSB:=hide eSb
     clear hb3 k1 k2 k3 k4 hy3 eSb HA1
     go_upto_region 11 with (first
      | (refine wpList_buildTo rfl 70 _ rfl (some 58) rfl (smC (lpNew wi) (.slice none 0 0) dm0 (.slice none 0 0)).toArray (by kernel_rfl) ?_)
      | (refine Great.wpList_allocTo rfl (some 59) rfl (.pointer (some ⟨Sb,0,none⟩)) (.cells (smC (lpNew wi) (.slice none 0 0) dm0 (.slice none 0 0)).toArray 70) (by simp [go_sem,uh HSB]) ?_)
      | (refine wpList_buildTo rfl 72 _ rfl (some 60) rfl (wwC Sa Sb (.slice none 0 0) 0 0) (by kernel_rfl) ?_)
      | (refine Great.wpList_allocTo rfl (some 61) rfl (.pointer (some ⟨Sb+1,0,none⟩)) (.cells (wwC Sa Sb (.slice none 0 0) 0 0) 72) (by simp [go_sem,uh HSB]) ?_))
     rw [uh HY3]
     clear HY3 HSB C0
     generalize Sb+1=Ww at HY ⊢
     have HYd:Hid (Rlo w A y3.drew∧y3.drew.heap[Sa]?=some (.cells (smC (lpNew wi) (.slice none 0 0) dm0 (.slice none 0 0)).toArray 70)∧y3.drew.heap[Sb]?=some (.cells (smC (lpNew wi) (.slice none 0 0) dm0 (.slice none 0 0)).toArray 70)∧y3.drew.heap[Ww]?=some (.cells (wwC Sa Sb (.slice none 0 0) 0 0) 72)∧Sa≠Sb∧w.heap.size≤Sa∧w.heap.size≤Sb∧w.heap.size≤Ww):=hide (by
      obtain ⟨r0,ra,rb,rw9,ab,bA,bB,bW⟩:=uh HY
      exact ⟨r0.step (Below.refl _ _).drew,ra,rb,rw9,ab,bA,bB,bW⟩)
     have hS0:y3.drew.cell? ⟨Ww,0,none⟩=some (.pointer (some ⟨Sa,0,none⟩)):=by rw [cr (uh HYd).2.2.2.1];rfl
     refine wp_region_held_drew (S:=fun z=>z.cell? ⟨Ww,0,none⟩=some (.pointer (some ⟨Sa,0,none⟩))) (by kernel_rfl) hS0 (fun hHeld=>?_)
     clear hHeld HY
     generalize y3.drew=yd at HYd hS0 ⊢
     refine t2 0 ?_
     refine t2 1 ?_
     refine t2 2 ?_
     refine t2 3 ?_
     refine t2 5 ?_
     refine r1 4 rfl (fun K hK=>?_)
     go_simp
     have hWl:=World.block_lt_of_cell? _ _ hS0
     have hbz:Below yd.heap.size yd (yd.alloc (.cells #[] 9)):=(Below.refl _ _).alloc (Nat.le_refl _) _
     have hS1:(yd.alloc (.cells #[] 9)).cell? ⟨Ww,0,none⟩=some (.pointer (some ⟨Sa,0,none⟩)):=(hbz.cell (p:=⟨Ww,0,none⟩) hWl).trans hS0
     have hown:(yd.alloc (.cells #[] 9)).ownsRow yd.heap.size 9 1 (.slice (some ⟨yd.heap.size,0,none⟩) 0 0) ([]:List ByteArray).length (scells []):=⟨rfl,Or.inr ⟨yd.heap.size,0,#[],rfl,Nat.le_refl _,heap_alloc_new _ _,Nat.le_refl _,Nat.zero_le _,rfl,rfl⟩⟩
     have hsT:HoldsS (yd.alloc (.cells #[] 9)) (.slice x i y) T:=(uh HS).1.below ((uh HYd).1.l.trans (hbz.mono (uh HYd).1.l.size))
     refine ro hK hS1 fun _=>?_
     clear hK K
     refine r1 6 rfl (fun K hK=>?_)
     rw [if_pos (by rfl)]
     refine step_append_hb (.tmp 66) (.tmp 67) rfl (P:=[]) (F:=T) rfl rfl hown hsT (by simp) (by rw [uh HTN];omega) (by simp) ?_
     intro v' y5 ho5 hg5 _
     rw [List.nil_append] at ho5
     obtain ⟨va,vc,rfl⟩:=own_form ho5
     have hB5:Below yd.heap.size yd y5:=hbz.grown hg5 (by simp) (fun k hk=>by have e':yd.heap.size=k:=Option.some.inj hk;omega)
     have hS2:y5.cell? ⟨Ww,0,none⟩=some (.pointer (some ⟨Sa,0,none⟩)):=(hB5.cell (p:=⟨Ww,0,none⟩) hWl).trans hS0
     have H6:=hide (MS.laid (uh HYd).1 (uh HYd).2.1 (uh HYd).2.2.1 (uh HYd).2.2.2.1 (uh HYd).2.2.2.2.1 (uh HYd).2.2.2.2.2.1 (uh HYd).2.2.2.2.2.2.1 (uh HYd).2.2.2.2.2.2.2 hB5 ho5)
     have hra5:=(hB5.block Sa (Array.getElem?_eq_some_iff.1 (uh HYd).2.1).1).trans (uh HYd).2.1
     have c4:y5.cell? ⟨Sa,4,none⟩=some (.slice none 0 0):=by rw [cr hra5];rfl
     have f4:y5.frozen? ⟨Sa,4,none⟩=false:=frz hra5 _
     clear hra5 hB5 ho5 hg5 hown hsT hbz hS1 hWl
     refine ro hK hS2 fun _=>?_
     clear hK K
     refine t2 7 ?_
     refine t2 8 ?_
     refine t2 9 ?_
     refine r1 10 rfl (fun K hK=>?_)
     go_simp
     refine ro hK (uh H6).1.lens.1 fun _=>?_
     clear hK K hS2 c4 f4 hS0 HYd
     refine dn ?_ _
     generalize y5.setCell ⟨Sa,4,none⟩ (.slice va T.length vc)=w6 at H6 ⊢
     have ok0:NwOk 0 0 0 ⟨nl0 wi T,nl0 wi [],0,0⟩:=⟨nl0_ok (uh HOK).2.2 (uh HOK).2.1,nl0_ok (uh HOK).2.2 (by decide),⟨Int.le_refl _,Int.le_refl _⟩,⟨Int.le_refl _,Int.le_refl _⟩⟩
     have hlu:lineN T wi L st=if st=true then timesN setN1 100 (L.foldl evN ⟨nl0 wi T,nl0 wi [],0,0⟩) else L.foldl evN ⟨nl0 wi T,nl0 wi [],0,0⟩:=rfl
     obtain ⟨m0,hm0⟩:∃ m,(⟨nl0 wi T,nl0 wi [],0,0⟩:Nw)=m:=⟨_,rfl⟩
     rw [hlu] at HOU
     rw [hm0] at H6 ok0 HOU
     have HL6:Hid (HoldsI w6 (.slice x2 n2 y2) L):=hide ((uh HS).2.below (uh H6).2.l rfl)
     have HN2:=hide hn2
     clear hlu hm0 hn2
     generalize K3 (.slice none 0 0) (.slice none 0 0) (.slice none 0 0)=K0 at H6
     go_wp2_with fail
     go_loopw [12] (fun p wr=>∃ (j:Nat) (K':Nat→Prop),j≤n2∧p=.int .i64 j∧MS w.heap.size Sa Sb Ww ((L.take j).foldl evN m0) wr K'∧Fz (E3 Sa Sb Ww) K0 K' w6 wr) (fun p _=>n2 - (intOf p).toNat)
     case atStart=>exact ⟨0,K0,Nat.zero_le _,rfl,(uh H6).1,Fz.refl _ _ _⟩
     case round =>
      rename World=>wr9
      obtain ⟨j,K',hj,rfl,hM,hf⟩:=hrel
      have hok9:=foldN_ok (L.take j) ok0
      rw [List.length_take,uh HN2,Nat.min_eq_left hj] at hok9
      by_cases hlt2:j<n2
      ·have d3:(j:Int)<(n2:Int):=by omega
       have hjL:j<L.length:=by rw [uh HN2];exact hlt2
       have HST:Hid ((L.take (j+1)).foldl evN m0=evN ((L.take j).foldl evN m0) L[j]):=hide (by
        rw [← List.take_append_getElem hjL,List.foldl_append]
        rfl)
       have hRj:=uh HE L[j] (List.getElem_mem hjL)
       obtain ⟨g,ex,hgc⟩:∃ g,x2=some ⟨g,0,none⟩∧wr9.cell? ⟨g,j,none⟩=some (.int .i64 L[j]):=by
        rcases uh HL6 with ⟨ad,cp,e,e2⟩ | ⟨g,cp,cur,e,q1,_,q3⟩
        ·rw [e2] at hjL;exact absurd hjL (Nat.not_lt_zero _)
        ·injection e with e _ _
         refine ⟨g,e,?_⟩
         rw [cr ((uh H6).1.stand hf g _ _ (by decide) (by decide) (by decide) (by decide) q1),q3 j hjL]
         exact icells_get _ _ _ (List.getElem?_eq_getElem hjL)
       subst ex
       have CE:=hide (sEvent hM hok9 (by omega) (by omega) L[j] hRj)
       have HFW:=hide hf
       clear hf hM hok9 hRj
       generalize L[j]=e at *
       go_wp2_with fail
       refine (uh CE).mono ?_
       rintro e9 w7 ⟨rfl,K7,hm7,hf7⟩
       have H7:=hide (And.intro hm7 ((uh HFW).trans hf7))
       clear hm7 hf7 CE
       go_wp2_with fail
       go_roundw
       case rel=>exact ⟨j+1,K7,by omega,by go_num,by rw [uh HST];exact (uh H7).1,(uh H7).2⟩
       case measure=>simp [intOf];omega
      ·have e:j=n2:=by omega
       subst e
       have d3:¬ ((j:Int)<(j:Int)):=by omega
       rw [show L.take j=L by rw [← uh HN2];exact List.take_length] at hM hok9
       obtain ⟨u,hu⟩:∃ u,L.foldl evN m0=u:=⟨_,rfl⟩
       rw [hu] at hM hok9 HOU
       have HZ9:=hide ((uh H6).2.after (uh H6).1 hf)
       clear hu hf hj hlt2 HL6
       cases st
       ·rw [if_neg (by decide)] at HOU
        have HF:=hide (hM.end (uh HZ9) hXw (uh HOU))
        clear hM hok9 HZ9 HOU
        generalize wr9=zf at HF ⊢
        go_upto_region 18 with fail
        obtain ⟨ga,gl,gc,qa,ql,qc,bd,ub,r1,r0,r2,r3,r4,rz,hne,hne2,hend⟩:=uh HF
        have HEE:=hide hend
        clear HF hend
        have hS0:zf.drew.cell? ⟨Ww,2,none⟩=some (.slice ga gl gc)∧zf.drew.cell? ⟨Ww,0,none⟩=some (.pointer (some ⟨Sa,0,none⟩))∧zf.drew.cell? ⟨Sa,4,none⟩=some (.slice qa ql qc)∧zf.drew.cell? ⟨Ww,3,none⟩=some (.int .i64 bd)∧zf.drew.cell? ⟨Ww,4,none⟩=some (.int .i64 ub):=⟨r1,r0,r2,r3,r4⟩
        have rzd:zf.drew.heap[A]?=some (.cells (roC (.slice none 0 0) false 0 0 0) 28):=rz
        refine wp_region_held_drew (S:=fun z=>z.cell? ⟨Ww,2,none⟩=some (.slice ga gl gc)∧z.cell? ⟨Ww,0,none⟩=some (.pointer (some ⟨Sa,0,none⟩))∧z.cell? ⟨Sa,4,none⟩=some (.slice qa ql qc)∧z.cell? ⟨Ww,3,none⟩=some (.int .i64 bd)∧z.cell? ⟨Ww,4,none⟩=some (.int .i64 ub)) (by kernel_rfl) hS0 (fun hHeld=>?_)
        clear hHeld r1 r0 r2 r3 r4 rz
        generalize zf.drew=yf at HEE hS0 rzd ⊢
        refine t2 0 ?_
        refine t2 1 ?_
        refine t2 2 ?_
        refine t2 3 ?_
        refine t2 4 ?_
        refine t2 5 ?_
        refine t2 6 ?_
        refine t2 7 ?_
        refine t2 8 ?_
        refine t2 9 ?_
        refine t2 10 ?_
        refine t2 11 ?_
        refine t2 12 ?_
        refine tk 13 (v:=.bool (decide (ql=0))) rfl (fun w _=>?_) ?_
        ·go_simp
         exact eq0_dec ql
        try simp only [Act.put,sA,sZ,sS,gA,gZ,gS]
        refine t2 14 ?_
        refine t2 15 ?_
        refine t2 16 ?_
        refine t2 17 ?_
        refine t2 18 ?_
        refine t2 19 ?_
        refine t2 20 ?_
        refine t2 21 ?_
        refine t4 22 (.agg (roC (.slice ga gl gc) (decide (ql=0)) bd ub 0)) rfl (yieldsB (by rfl) _ _ rfl _ (by kernel_rfl)) ?_
        try simp only [Act.put,sA,sZ,sS,gA,gZ,gS]
        have hS2:(yf.setRow A (roC (.slice ga gl gc) (decide (ql=0)) bd ub 0)).cell? ⟨Ww,2,none⟩=some (.slice ga gl gc)∧(yf.setRow A (roC (.slice ga gl gc) (decide (ql=0)) bd ub 0)).cell? ⟨Ww,0,none⟩=some (.pointer (some ⟨Sa,0,none⟩))∧(yf.setRow A (roC (.slice ga gl gc) (decide (ql=0)) bd ub 0)).cell? ⟨Sa,4,none⟩=some (.slice qa ql qc)∧(yf.setRow A (roC (.slice ga gl gc) (decide (ql=0)) bd ub 0)).cell? ⟨Ww,3,none⟩=some (.int .i64 bd)∧(yf.setRow A (roC (.slice ga gl gc) (decide (ql=0)) bd ub 0)).cell? ⟨Ww,4,none⟩=some (.int .i64 ub):=by
         refine ⟨?_,?_,?_,?_,?_⟩
         ·rw [cell_setRow_other _ _ _ _ hne];exact hS0.1
         ·rw [cell_setRow_other _ _ _ _ hne];exact hS0.2.1
         ·rw [cell_setRow_other _ _ _ _ hne2];exact hS0.2.2.1
         ·rw [cell_setRow_other _ _ _ _ hne];exact hS0.2.2.2.1
         ·rw [cell_setRow_other _ _ _ _ hne];exact hS0.2.2.2.2
        have hall:=roC_all ga gl gc (decide (ql=0)) bd ub 0
        refine r1 23 rfl (fun K hK=>?_)
        rw [if_pos (by rfl)]
        refine wp_store_row 28 (.tmp 8) (.tmp 109) rfl A (roC (.slice ga gl gc) (decide (ql=0)) bd ub 0) rfl rfl 28 _ rzd infoRo rfl hall ?_
        refine ro hK hS2 fun _=>?_
        clear hK K hS0 hS2
        refine dn ?_ _
        go_wp2_with fail
        refine bodyPost_ret (v:=.agg (roC (.slice ga gl gc) (decide (ql=0)) bd ub 0)) (by simp [results,Tryz.results7,asAddr,loadRo (setRow_heap yf A _ (roC (.slice ga gl gc) (decide (ql=0)) bd ub 0) _ _ rzd)]) rfl ?_
        exact uh HEE
       ·rw [if_pos rfl] at HOU
        have CS:=hide (sSettle hM hok9 (by omega) (by omega))
        have HM9:=hide hM
        clear hM
        go_wp2_with fail
        refine (uh CS).mono ?_
        rintro e zf ⟨rfl,K5,hM5,hf5⟩
        have HF:=hide (hM5.end ((uh HZ9).after (uh HM9) hf5) hXw (uh HOU))
        clear hM5 hf5 CS hok9 HZ9 HOU HM9
        go_upto_region 18 with fail
        obtain ⟨ga,gl,gc,qa,ql,qc,bd,ub,r1,r0,r2,r3,r4,rz,hne,hne2,hend⟩:=uh HF
        have HEE:=hide hend
        clear HF hend
        have hS0:zf.drew.cell? ⟨Ww,2,none⟩=some (.slice ga gl gc)∧zf.drew.cell? ⟨Ww,0,none⟩=some (.pointer (some ⟨Sa,0,none⟩))∧zf.drew.cell? ⟨Sa,4,none⟩=some (.slice qa ql qc)∧zf.drew.cell? ⟨Ww,3,none⟩=some (.int .i64 bd)∧zf.drew.cell? ⟨Ww,4,none⟩=some (.int .i64 ub):=⟨r1,r0,r2,r3,r4⟩
        have rzd:zf.drew.heap[A]?=some (.cells (roC (.slice none 0 0) false 0 0 0) 28):=rz
        refine wp_region_held_drew (S:=fun z=>z.cell? ⟨Ww,2,none⟩=some (.slice ga gl gc)∧z.cell? ⟨Ww,0,none⟩=some (.pointer (some ⟨Sa,0,none⟩))∧z.cell? ⟨Sa,4,none⟩=some (.slice qa ql qc)∧z.cell? ⟨Ww,3,none⟩=some (.int .i64 bd)∧z.cell? ⟨Ww,4,none⟩=some (.int .i64 ub)) (by kernel_rfl) hS0 (fun hHeld=>?_)
        clear hHeld r1 r0 r2 r3 r4 rz
        generalize zf.drew=yf at HEE hS0 rzd ⊢
        refine t2 0 ?_
        refine t2 1 ?_
        refine t2 2 ?_
        refine t2 3 ?_
        refine t2 4 ?_
        refine t2 5 ?_
        refine t2 6 ?_
        refine t2 7 ?_
        refine t2 8 ?_
        refine t2 9 ?_
        refine t2 10 ?_
        refine t2 11 ?_
        refine t2 12 ?_
        refine tk 13 (v:=.bool (decide (ql=0))) rfl (fun w _=>?_) ?_
        ·go_simp
         exact eq0_dec ql
        try simp only [Act.put,sA,sZ,sS,gA,gZ,gS]
        refine t2 14 ?_
        refine t2 15 ?_
        refine t2 16 ?_
        refine t2 17 ?_
        refine t2 18 ?_
        refine t2 19 ?_
        refine t2 20 ?_
        refine t2 21 ?_
        refine t4 22 (.agg (roC (.slice ga gl gc) (decide (ql=0)) bd ub 0)) rfl (yieldsB (by rfl) _ _ rfl _ (by kernel_rfl)) ?_
        try simp only [Act.put,sA,sZ,sS,gA,gZ,gS]
        have hS2:(yf.setRow A (roC (.slice ga gl gc) (decide (ql=0)) bd ub 0)).cell? ⟨Ww,2,none⟩=some (.slice ga gl gc)∧(yf.setRow A (roC (.slice ga gl gc) (decide (ql=0)) bd ub 0)).cell? ⟨Ww,0,none⟩=some (.pointer (some ⟨Sa,0,none⟩))∧(yf.setRow A (roC (.slice ga gl gc) (decide (ql=0)) bd ub 0)).cell? ⟨Sa,4,none⟩=some (.slice qa ql qc)∧(yf.setRow A (roC (.slice ga gl gc) (decide (ql=0)) bd ub 0)).cell? ⟨Ww,3,none⟩=some (.int .i64 bd)∧(yf.setRow A (roC (.slice ga gl gc) (decide (ql=0)) bd ub 0)).cell? ⟨Ww,4,none⟩=some (.int .i64 ub):=by
         refine ⟨?_,?_,?_,?_,?_⟩
         ·rw [cell_setRow_other _ _ _ _ hne];exact hS0.1
         ·rw [cell_setRow_other _ _ _ _ hne];exact hS0.2.1
         ·rw [cell_setRow_other _ _ _ _ hne2];exact hS0.2.2.1
         ·rw [cell_setRow_other _ _ _ _ hne];exact hS0.2.2.2.1
         ·rw [cell_setRow_other _ _ _ _ hne];exact hS0.2.2.2.2
        have hall:=roC_all ga gl gc (decide (ql=0)) bd ub 0
        refine r1 23 rfl (fun K hK=>?_)
        rw [if_pos (by rfl)]
        refine wp_store_row 28 (.tmp 8) (.tmp 109) rfl A (roC (.slice ga gl gc) (decide (ql=0)) bd ub 0) rfl rfl 28 _ rzd infoRo rfl hall ?_
        refine ro hK hS2 fun _=>?_
        clear hK K hS0 hS2
        refine dn ?_ _
        go_wp2_with fail
        refine bodyPost_ret (v:=.agg (roC (.slice ga gl gc) (decide (ql=0)) bd ub 0)) (by simp [results,Tryz.results7,asAddr,loadRo (setRow_heap yf A _ (roC (.slice ga gl gc) (decide (ql=0)) bd ub 0) _ _ rzd)]) rfl ?_
        exact uh HEE
end Go.Proofs.YtkcghhkkepndnaaGreatDoor
