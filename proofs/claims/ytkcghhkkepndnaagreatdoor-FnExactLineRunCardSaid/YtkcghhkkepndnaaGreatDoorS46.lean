/- The model's LineRun: at every texts, window, script and way of settling what it answers; what lay in memory stands; no condition but those named. What LineRun answers: compared, marked, held by the law's words; what lay in memory stands but for the marked row; no condition but those named. The law FnExactLineRun walked: it returns true, and what lay in memory stands; the decoder's tables lie as the texts lay them; no condition but those named. -/
import Derived.Test.YtkcghhkkepndnaaGreatDoorS43
import Derived.Test.YtkcghhkkepndnaaGreatDoorS45
import Derived.Test.YtkcghhkkepndnaaGreatDoorS03
import Derived.Test.YtkcghhkkepndnaaGreatDoorS02
import Derived.Test.YtkcghhkkepndnaaGreatDoorS06
import Derived.Test.YtkcghhkkepndnaaGreatDoorS33
import Derived.Test.YtkcghhkkepndnaaGreatDoorShW
namespace Go.Proofs.YtkcghhkkepndnaaGreatDoor
open Go.RowKit
theorem MS.stand {base Sa Sb Ww:Nat} {m:Nw} {W W':World} {K K':Nat→Prop} (h:MS base Sa Sb Ww m W K) (f:Fz (E3 Sa Sb Ww) K K' W W') (g:Nat) (cur:Array Value) (T:TypeId) (t1:T≠93) (t2:T≠70) (t3:T≠72) (t4:T≠9) (hg:W.heap[g]?=some (.cells cur T)):W'.heap[g]?=some (.cells cur T):=by
 obtain ⟨qa,la,qb,lb,gv,hm,rfl⟩:=h
 exact hm.stand f g cur T t1 t2 t3 t4 hg
theorem MS.low {base Sa Sb Ww:Nat} {m:Nw} {W W':World} {K K':Nat→Prop} (h:MS base Sa Sb Ww m W K) (f:Fz (E3 Sa Sb Ww) K K' W W'):Below base W W':=by
 obtain ⟨qa,la,qb,lb,gv,hm,rfl⟩:=h
 refine f.low (fun k e=>?_) (fun k hk=>(hm.kk k hk).1) hm.a.bs
 rcases e with e | e | e
 ·rw [e];exact hm.bA
 ·rw [e];exact hm.bB
 ·rw [e];exact hm.bW
theorem Rlo.after {w:World} {A:Nat} {q q':World} {Sa Sb Ww:Nat} {m:Nw} {K K':Nat→Prop} (h:Rlo w A q) (hm:MS w.heap.size Sa Sb Ww m q K) (f:Fz (E3 Sa Sb Ww) K K' q q'):Rlo w A q' :=
 ⟨hm.stand f A _ _ (by decide) (by decide) (by decide) (by decide) h.z,h.l.trans (hm.low f)⟩
theorem MS.end {w zf:World} {A Sa Sb Ww:Nat} {v:Nw} {K:Nat→Prop} {o:RO} (h:MS w.heap.size Sa Sb Ww v zf K) (hz:Rlo w A zf) (hA:w.heap.size≤A) (ho:o=⟨v.b.gt,decide (v.a.Q.length=0),v.bad,v.un,0⟩) :
  ∃ (ga:Option Addr) (gl gc:Nat) (qa:Option Addr) (ql qc:Nat) (bd ub:Int),zf.cell? ⟨Ww,2,none⟩=some (.slice ga gl gc)∧zf.cell? ⟨Ww,0,none⟩=some (.pointer (some ⟨Sa,0,none⟩))∧zf.cell? ⟨Sa,4,none⟩=some (.slice qa ql qc)∧zf.cell? ⟨Ww,3,none⟩=some (.int .i64 bd)∧zf.cell? ⟨Ww,4,none⟩=some (.int .i64 ub)∧zf.heap[A]?=some (.cells (roC (.slice none 0 0) false 0 0 0) 28)∧Ww≠A∧Sa≠A ∧
   AnR o w (.returned (.agg (roC (.slice ga gl gc) (decide (ql=0)) bd ub 0))) (zf.drew.setRow A (roC (.slice ga gl gc) (decide (ql=0)) bd ub 0)):=by
 obtain ⟨qa,la,qb,lb,gv,hm,rfl⟩:=h
 obtain ⟨c0,_,c2,c3,c4⟩:=hm.cells
 obtain ⟨qad,qc,hqf⟩:=hm.a.hq.form
 obtain ⟨gad,gc,hgf⟩:=own_form hm.hg
 have ca:zf.cell? ⟨Sa,4,none⟩=some (.slice qad v.a.Q.length qc):=by rw [cr hm.a.row,← hqf];rfl
 rw [hgf] at c2
 refine ⟨gad,v.b.gt.length,gc,qad,v.a.Q.length,qc,v.bad,v.un,c2,c0,ca,c3,c4,hz.z,typ_ne hm.w hz.z (by decide),typ_ne hm.a.row hz.z (by decide),?_⟩
 rw [ho]
 refine ⟨_,rfl,?_,below_setRow hz.l.drew hA _⟩
 have hg:=hm.hg
 rw [hgf] at hg
 exact own_blk hg fun g cur _ hg=>setRow_other zf.drew A g _ (typ_ne hg hz.z (by decide))
theorem MS.laid {w y3 y5:World} {A Sa Sb Ww:Nat} {wi:Int} {T:List ByteArray} {v:Value} (hz:Rlo w A y3) (ha:y3.heap[Sa]?=some (.cells (smC (lpNew wi) (.slice none 0 0) dm0 (.slice none 0 0)).toArray 70)) (hb:y3.heap[Sb]?=some (.cells (smC (lpNew wi) (.slice none 0 0) dm0 (.slice none 0 0)).toArray 70)) (hw:y3.heap[Ww]?=some (.cells (wwC Sa Sb (.slice none 0 0) 0 0) 72)) (ab:Sa≠Sb) (bA:w.heap.size≤Sa) (bB:w.heap.size≤Sb) (bW:w.heap.size≤Ww)
  (hl:Below y3.heap.size y3 y5) (hq:y5.ownsRow y3.heap.size 9 1 v T.length (scells T)) :
  MS w.heap.size Sa Sb Ww ⟨nl0 wi T,nl0 wi [],0,0⟩ (y5.setCell ⟨Sa,4,none⟩ v) (K3 (.slice none 0 0) (.slice none 0 0) (.slice none 0 0))∧Rlo w A (y5.setCell ⟨Sa,4,none⟩ v):=by
 have lt:∀ {k:Nat} {o:Obj},y3.heap[k]?=some o→k<y3.heap.size:=fun h=>(Array.getElem?_eq_some_iff.1 h).1
 have ha5:=(hl.block Sa (lt ha)).trans ha
 have hb5:=(hl.block Sb (lt hb)).trans hb
 have hw5:=(hl.block Ww (lt hw)).trans hw
 have hz5:=(hl.block A (lt hz.z)).trans hz.z
 have ot:∀ k,k≠Sa→(y5.setCell ⟨Sa,4,none⟩ v).heap[k]?=y5.heap[k]?:=fun k hk=>heap_setCell_other _ _ _ _ hk
 have hzz:=((Below.refl w.heap.size y5).setCell (p:=⟨Sa,4,none⟩) bA v)
 have hr:=heap_setCell_same y5 Sa 4 _ _ v ha5
 refine ⟨MS.start (v:=v) hr ((ot Sb (fun e=>ab e.symm)).trans hb5) ((ot Ww (typ_ne hw ha (by decide))).trans hw5) (HoldsT.own (own_blk hq fun g cur _ hg=>ot g (typ_ne hg ha5 (by decide)))).s (fun g hg=>?_) ab bA bB bW (Nat.le_trans hz.l.size (Nat.le_trans hl.size hzz.size)),(ot A (typ_ne hz.z ha (by decide))).trans hz5,hz.l.trans ((hl.mono hz.l.size).trans hzz)⟩
 have h2:=own_typ hq g hg
 exact ⟨Nat.le_trans hz.l.size h2.1,Nat.lt_of_lt_of_le h2.2.1 hzz.size⟩
set_option maxHeartbeats 8000000 in
set_option maxRecDepth 100000 in
set_option linter.unusedSimpArgs false in
theorem sLineRun {w:World} {x:Option Addr} {y:Nat} {T:List ByteArray} (hS:HoldsS w (.slice x T.length y) T) (hl1:T.length≤1048576) (wi:Int) {x2:Option Addr} {y2:Nat} {L:List Int} (hL:HoldsI w (.slice x2 L.length y2) L) (hl2:L.length≤1048576) (he:∀ e ∈ L,e≤9223372036854775807) (st:Bool) :
  Calls Tryz.prog 7 #[.slice x T.length y,.int .i64 wi,.slice x2 L.length y2,.bool st] w fun e w'=>AnR (lineO T wi L st) w e w':=by
 have H0:Rlo w w.heap.size (w.alloc (.cells (roC (.slice none 0 0) false 0 0 0) 28)):=⟨heap_alloc_new w _,(Below.refl _ _).alloc (Nat.le_refl _) _⟩
 have HS:=hide (And.intro hS hL)
 have HE:=hide he
 clear hS hL he
 obtain ⟨o,ho⟩:∃ o,lineO T wi L st=o:=⟨_,rfl⟩
 rw [ho]
 obtain ⟨A,eA⟩:∃ A,w.heap.size=A:=⟨_,rfl⟩
 have hXw:w.heap.size≤A:=by omega
 rw [eA] at H0
 have HZ:=hide H0
 clear H0
 obtain ⟨n,hn⟩:∃ n,T.length=n:=⟨_,rfl⟩
 obtain ⟨n2,hn2⟩:∃ n,L.length=n:=⟨_,rfl⟩
 unfold lineO at ho
 rw [hn,hn2] at ho
 rw [hn] at hl1 HS ⊢
 rw [hn2] at hl2 HS ⊢
 have HO:=hide ho.symm
 clear ho
 go_enter Tryz.func7,Tryz.ntmps7
 go_upto_region 1 with fail
 generalize w.alloc (.cells (roC (.slice none 0 0) false 0 0 0) 28)=z at HZ ⊢
 by_cases h4:400<n
 ·have d0:(400:Int)<(n:Int):=by omega
  go_wp2_with (first
   | (refine wpList_buildTo rfl 28 _ rfl (some 21) rfl (roC (.slice none 0 0) false 0 0 2) (by as_aux_lemma=>kernel_rfl) ?_)
   | (refine wpList_store_rowTo rfl 28 (.tmp 8) (.tmp 21) rfl rfl A (roC (.slice none 0 0) false 0 0 2) rfl rfl 28 _ (uh HZ).z infoRo rfl (roC_all _ _ _ _ _ _ _) ?_))
  refine bodyPost_ret (v:=.agg (roC (.slice none 0 0) false 0 0 2)) (by simp [results,Tryz.results7,asAddr,Act.put,loadRo (setRow_heap z A _ (roC (.slice none 0 0) false 0 0 2) _ _ (uh HZ).z)]) rfl ?_
  rw [show o=⟨[],false,0,0,2⟩ by rw [uh HO,if_pos (Or.inl h4)]]
  exact AnR.err 2 (below_setRow (uh HZ).l hXw _)
 have d0:¬ ((400:Int)<(n:Int)):=by omega
 by_cases h5:400<n2
 ·have d2:(400:Int)<(n2:Int):=by omega
  go_wp2_with (first
   | (refine wpList_buildTo rfl 28 _ rfl (some 21) rfl (roC (.slice none 0 0) false 0 0 2) (by as_aux_lemma=>kernel_rfl) ?_)
   | (refine wpList_store_rowTo rfl 28 (.tmp 8) (.tmp 21) rfl rfl A (roC (.slice none 0 0) false 0 0 2) rfl rfl 28 _ (uh HZ).z infoRo rfl (roC_all _ _ _ _ _ _ _) ?_))
  refine bodyPost_ret (v:=.agg (roC (.slice none 0 0) false 0 0 2)) (by simp [results,Tryz.results7,asAddr,Act.put,loadRo (setRow_heap z A _ (roC (.slice none 0 0) false 0 0 2) _ _ (uh HZ).z)]) rfl ?_
  rw [show o=⟨[],false,0,0,2⟩ by rw [uh HO,if_pos (Or.inr h5)]]
  exact AnR.err 2 (below_setRow (uh HZ).l hXw _)
 have d2:¬ ((400:Int)<(n2:Int)):=by omega
 have HO2:Hid (o=if n≠0∧qOk T=true∧winOk wi=true then ⟨(lineN T wi L st).b.gt,decide ((lineN T wi L st).a.Q.length=0),(lineN T wi L st).bad,(lineN T wi L st).un,0⟩ else ⟨[],false,0,0,1⟩):=hide (by rw [uh HO,if_neg (by omega)])
 clear HO
 have CW:=hide fun v=>sWin wi v
 obtain ⟨b3,hb3⟩:∃ b3,(decide (n≠0) && (decide (n≤20) && winOk wi))=b3:=⟨_,rfl⟩
 have HB3:=hide hb3
 clear hb3
 go_upto_region 3 with fail
 go_cut [9] (fun v wx=>v=.bool b3∧Rlo w A wx)
 case first =>
  by_cases h0:n=0
  ·have e1:¬ ((1:Int)≤(n:Int)):=by omega
   have HR:Hid (Value.bool false=.bool b3):=hide (by rw [← uh HB3,h0];rfl)
   clear CW h0
   go_wp2_with fail
   go_meet
   exact ⟨uh HR,uh HZ⟩
  ·have e1:(1:Int)≤(n:Int):=by omega
   by_cases h20:n≤20
   ·have e2:(n:Int)≤20:=by omega
    have HR:Hid (Value.bool (winOk wi)=.bool b3):=hide (by rw [← uh HB3,decide_eq_true h0,decide_eq_true h20,Bool.true_and,Bool.true_and])
    go_wp2_with fail
    refine (uh CW _).mono ?_
    rintro e z2 ⟨rfl,hz2⟩
    replace hz2:=hz2.symm
    subst hz2
    go_wp2_with fail
    go_meet
    exact ⟨uh HR,uh HZ⟩
   ·have e2:¬ ((n:Int)≤20):=by omega
    have HR:Hid (Value.bool false=.bool b3):=hide (by rw [← uh HB3,decide_eq_false h20,Bool.false_and,Bool.and_false])
    clear CW
    go_wp2_with fail
    go_meet
    exact ⟨uh HR,uh HZ⟩
 case rest =>
  obtain ⟨rfl,hZ2⟩:=hcut
  rename World=>z2
  have HZ2:=hide hZ2
  clear hZ2 HZ CW
  obtain ⟨bT,hbT⟩:∃ bT,(b3 && T.all fun t=>decide (t.size≤200))=bT:=⟨_,rfl⟩
  have HBT:=hide hbT
  clear hbT
  have HTN:=hide hn
  clear hn
  go_wp2_with fail
  go_loopw [9,10] (fun p q wr=>∃ i:Nat,i≤n∧q=.int .i64 i∧p=.bool (b3 && (T.take i).all fun t=>decide (t.size≤200))∧Rlo w A wr) (fun _ q _=>n - (intOf q).toNat)
  case atStart=>exact ⟨0,Nat.zero_le _,rfl,by rw [List.take_zero,List.all_nil,Bool.and_true],uh HZ2⟩
  case round =>
   obtain ⟨i,hi,rfl,rfl,hZr⟩:=hrel
   clear HZ2
   by_cases hlt:i<n
   ·have d1:(i:Int)<(n:Int):=by omega
    have hiT:i<T.length:=by rw [uh HTN];exact hlt
    obtain ⟨g,o9,ex,hgc⟩:∃ g o,x=some ⟨g,o,none⟩∧wr.cell? ⟨g,o+i,none⟩=some (.string T[i]):=by
     obtain ⟨g,o9,cp,e,_,h2⟩:=((uh HS).1.below hZr.l).get i hiT
     injection e with e _ _
     exact ⟨g,o9,e,h2⟩
    subst ex
    have hT:=all_take (L:=T) (i:=i) hiT
    obtain ⟨bq,hbq⟩:∃ bq,(b3 && (T.take i).all fun t=>decide (t.size≤200))=bq:=⟨_,rfl⟩
    have HNX:Hid ((b3 && (T.take (i+1)).all fun t=>decide (t.size≤200))=(bq && decide (T[i].size≤200))):=hide (by rw [hT,← hbq,Bool.and_assoc])
    rw [hbq]
    have HZr:=hide hZr
    clear hT hbq hZr
    generalize T[i]=t at *
    cases bq
    ·go_wp2_with fail
     go_roundw
     case rel=>exact ⟨i+1,by omega,by go_num,by rw [uh HNX];rfl,uh HZr⟩
     case measure=>simp [intOf];omega
    ·by_cases h2:t.size≤200
     ·have d3:(t.size:Int)≤200:=by omega
      have HD:=hide (decide_eq_true h2)
      clear h2
      go_wp2_with fail
      go_roundw
      case rel=>exact ⟨i+1,by omega,by go_num,by rw [uh HNX,uh HD];rfl,uh HZr⟩
      case measure=>simp [intOf];omega
     ·have d3:¬ ((t.size:Int)≤200):=by omega
      have HD:=hide (decide_eq_false h2)
      clear h2
      go_wp2_with fail
      go_roundw
      case rel=>exact ⟨i+1,by omega,by go_num,by rw [uh HNX,uh HD];rfl,uh HZr⟩
      case measure=>simp [intOf];omega
   ·have e:i=n:=by omega
    subst e
    have d1:¬ ((i:Int)<(i:Int)):=by omega
    rw [show T.take i=T by rw [← uh HTN];exact List.take_length,uh HBT]
    have HZr:=hide hZr
    clear hZr hi hlt
    cases bT
    ·go_wp2_with (first
      | (refine wpList_buildTo rfl 28 _ rfl (some 51) rfl (roC (.slice none 0 0) false 0 0 1) (by as_aux_lemma=>kernel_rfl) ?_)
      | (refine wpList_store_rowTo rfl 28 (.tmp 8) (.tmp 51) rfl rfl A (roC (.slice none 0 0) false 0 0 1) rfl rfl 28 _ (uh HZr).z infoRo rfl (roC_all _ _ _ _ _ _ _) ?_))
     refine bodyPost_ret (v:=.agg (roC (.slice none 0 0) false 0 0 1)) (by simp [results,Tryz.results7,asAddr,Act.put,loadRo (setRow_heap wr A _ (roC (.slice none 0 0) false 0 0 1) _ _ (uh HZr).z)]) rfl ?_
     rw [show o=⟨[],false,0,0,1⟩ by
      rw [uh HO2,if_neg]
      rintro ⟨h1,h2,h3⟩
      have h4:=uh HBT
      rw [← uh HB3,h3,decide_eq_true h1] at h4
      unfold qOk at h2
      rw [Bool.and_eq_true] at h2
      rw [h2.2,decide_eq_true (by have:=of_decide_eq_true h2.1;have:=uh HTN;omega)] at h4
      cases h4]
     exact AnR.err 1 (below_setRow (uh HZr).l hXw _)
    ·have hok:i≠0∧qOk T=true∧winOk wi=true:=by
      have h4:=uh HBT
      rw [← uh HB3] at h4
      simp only [Bool.and_eq_true,decide_eq_true_eq] at h4
      refine ⟨h4.1.1,?_,h4.1.2.2⟩
      unfold qOk
      rw [Bool.and_eq_true]
      exact ⟨decide_eq_true (by rw [uh HTN];exact h4.1.2.1),h4.2⟩
     have HOU:=hide ((uh HO2).trans (if_pos hok))
     have HOK:=hide hok
     clear hok HO2 HB3 HBT
     have C0:=hide fun v=>specLpNew wi v
     go_wp2_with fail
     refine (uh C0 _).mono ?_
     rintro e w1 ⟨rfl,hb1⟩
     have H1:=hide ((uh HZr).step hb1)
     clear hb1 HZr
     have HA1:Hid ((w1.alloc (.cells (smC (lpNew wi) (.slice none 0 0) dm0 (.slice none 0 0)).toArray 70)).heap[w1.heap.size]?=some (.cells (smC (lpNew wi) (.slice none 0 0) dm0 (.slice none 0 0)).toArray 70)∧Rlo w A (w1.alloc (.cells (smC (lpNew wi) (.slice none 0 0) dm0 (.slice none 0 0)).toArray 70))∧w.heap.size≤w1.heap.size):=hide ⟨heap_alloc_new _ _,(uh H1).step ((Below.refl _ _).alloc (Nat.le_refl _) _),(uh H1).l.size⟩
     clear H1
     go_wp2_with (first
      | (refine wpList_buildTo rfl 70 _ rfl (some 54) rfl (smC (lpNew wi) (.slice none 0 0) dm0 (.slice none 0 0)).toArray (by kernel_rfl) ?_)
      | (refine Great.wpList_allocTo rfl (some 55) rfl (.pointer (some ⟨w1.heap.size,0,none⟩)) (.cells (smC (lpNew wi) (.slice none 0 0) dm0 (.slice none 0 0)).toArray 70) (by simp [go_sem]) ?_))
     generalize w1.alloc (.cells (smC (lpNew wi) (.slice none 0 0) dm0 (.slice none 0 0)).toArray 70)=y1 at HA1 ⊢
     generalize w1.heap.size=Sa at HA1 ⊢
     refine (uh C0 _).mono ?_
     rintro e w3 ⟨rfl,hb3⟩
     obtain ⟨Sb,eSb⟩:∃ Sb,w3.heap.size=Sb:=⟨_,rfl⟩
     obtain ⟨y3,hy3⟩:∃ y3,(w3.alloc (.cells (smC (lpNew wi) (.slice none 0 0) dm0 (.slice none 0 0)).toArray 70)).alloc (.cells (wwC Sa Sb (.slice none 0 0) 0 0) 72)=y3:=⟨_,rfl⟩
     obtain ⟨k1,k2,k3,k4⟩:=new2l w3 (.cells (smC (lpNew wi) (.slice none 0 0) dm0 (.slice none 0 0)).toArray 70) (.cells (wwC Sa Sb (.slice none 0 0) 0 0) 72)
     have HY:Hid (Rlo w A y3∧y3.heap[Sa]?=some (.cells (smC (lpNew wi) (.slice none 0 0) dm0 (.slice none 0 0)).toArray 70)∧y3.heap[Sb]?=some (.cells (smC (lpNew wi) (.slice none 0 0) dm0 (.slice none 0 0)).toArray 70)∧y3.heap[Sb+1]?=some (.cells (wwC Sa Sb (.slice none 0 0) 0 0) 72)∧Sa≠Sb∧w.heap.size≤Sa∧w.heap.size≤Sb∧w.heap.size≤Sb+1):=hide (by
      obtain ⟨a1,a2,a3⟩:=uh HA1
      have hlt:=(Array.getElem?_eq_some_iff.1 a1).1
      have hb13:=hb3.trans (k3.mono hb3.size)
      have hsz:=hb3.size
      have hsa:=(hb13.block Sa hlt).trans a1
      have hr:=a2.step hb13
      rw [← hy3,← eSb] at *
      exact ⟨hr,hsa,k1,k2,by omega,a3,by omega,by omega⟩)
     have HY3:=hide hy3
     have HSB:=hide eSb
     clear hb3 k1 k2 k3 k4 hy3 eSb HA1
     go_upto_region 11 with (first
      | (refine wpList_buildTo rfl 70 _ rfl (some 58) rfl (smC (lpNew wi) (.slice none 0 0) dm0 (.slice none 0 0)).toArray (by kernel_rfl) ?_)
      | (refine Great.wpList_allocTo rfl (some 59) rfl (.pointer (some ⟨Sb,0,none⟩)) (.cells (smC (lpNew wi) (.slice none 0 0) dm0 (.slice none 0 0)).toArray 70) (by simp [go_sem,uh HSB]) ?_)
      | (refine wpList_buildTo rfl 72 _ rfl (some 60) rfl (wwC Sa Sb (.slice none 0 0) 0 0) (by kernel_rfl) ?_)
      | (refine Great.wpList_allocTo rfl (some 61) rfl (.pointer (some ⟨Sb+1,0,none⟩)) (.cells (wwC Sa Sb (.slice none 0 0) 0 0) 72) (by simp [go_sem,uh HSB]) ?_))
     rw [uh HY3]
     clear HY3 HSB C0
     generalize Sb+1=Ww at HY ⊢
     have HYd:Hid (Rlo w A y3.drew∧y3.drew.heap[Sa]?=some (.cells (smC (lpNew wi) (.slice none 0 0) dm0 (.slice none 0 0)).toArray 70)∧y3.drew.heap[Sb]?=some (.cells (smC (lpNew wi) (.slice none 0 0) dm0 (.slice none 0 0)).toArray 70)∧y3.drew.heap[Ww]?=some (.cells (wwC Sa Sb (.slice none 0 0) 0 0) 72)∧Sa≠Sb∧w.heap.size≤Sa∧w.heap.size≤Sb∧w.heap.size≤Ww):=hide (by
      obtain ⟨r0,ra,rb,rw9,ab,bA,bB,bW⟩:=uh HY
      exact ⟨r0.step (Below.refl _ _).drew,ra,rb,rw9,ab,bA,bB,bW⟩)
     have hS0:y3.drew.cell? ⟨Ww,0,none⟩=some (.pointer (some ⟨Sa,0,none⟩)):=by rw [cr (uh HYd).2.2.2.1];rfl
     refine wp_region_held_drew (S:=fun z=>z.cell? ⟨Ww,0,none⟩=some (.pointer (some ⟨Sa,0,none⟩))) (by kernel_rfl) hS0 (fun hHeld=>?_)
     clear hHeld HY
     generalize y3.drew=yd at HYd hS0 ⊢
     refine t2 0 ?_
     refine t2 1 ?_
     refine t2 2 ?_
     refine t2 3 ?_
     refine t2 5 ?_
     refine r1 4 rfl (fun K hK=>?_)
     go_simp
     have hWl:=World.block_lt_of_cell? _ _ hS0
     have hbz:Below yd.heap.size yd (yd.alloc (.cells #[] 9)):=(Below.refl _ _).alloc (Nat.le_refl _) _
     have hS1:(yd.alloc (.cells #[] 9)).cell? ⟨Ww,0,none⟩=some (.pointer (some ⟨Sa,0,none⟩)):=(hbz.cell (p:=⟨Ww,0,none⟩) hWl).trans hS0
     have hown:(yd.alloc (.cells #[] 9)).ownsRow yd.heap.size 9 1 (.slice (some ⟨yd.heap.size,0,none⟩) 0 0) ([]:List ByteArray).length (scells []):=⟨rfl,Or.inr ⟨yd.heap.size,0,#[],rfl,Nat.le_refl _,heap_alloc_new _ _,Nat.le_refl _,Nat.zero_le _,rfl,rfl⟩⟩
     have hsT:HoldsS (yd.alloc (.cells #[] 9)) (.slice x i y) T:=(uh HS).1.below ((uh HYd).1.l.trans (hbz.mono (uh HYd).1.l.size))
     refine ro hK hS1 fun _=>?_
     clear hK K
     refine r1 6 rfl (fun K hK=>?_)
     rw [if_pos (by rfl)]
     refine step_append_hb (.tmp 66) (.tmp 67) rfl (P:=[]) (F:=T) rfl rfl hown hsT (by simp) (by rw [uh HTN];omega) (by simp) ?_
     intro v' y5 ho5 hg5 _
     rw [List.nil_append] at ho5
     obtain ⟨va,vc,rfl⟩:=own_form ho5
     have hB5:Below yd.heap.size yd y5:=hbz.grown hg5 (by simp) (fun k hk=>by have e':yd.heap.size=k:=Option.some.inj hk;omega)
     have hS2:y5.cell? ⟨Ww,0,none⟩=some (.pointer (some ⟨Sa,0,none⟩)):=(hB5.cell (p:=⟨Ww,0,none⟩) hWl).trans hS0
     have H6:=hide (MS.laid (uh HYd).1 (uh HYd).2.1 (uh HYd).2.2.1 (uh HYd).2.2.2.1 (uh HYd).2.2.2.2.1 (uh HYd).2.2.2.2.2.1 (uh HYd).2.2.2.2.2.2.1 (uh HYd).2.2.2.2.2.2.2 hB5 ho5)
     have hra5:=(hB5.block Sa (Array.getElem?_eq_some_iff.1 (uh HYd).2.1).1).trans (uh HYd).2.1
     have c4:y5.cell? ⟨Sa,4,none⟩=some (.slice none 0 0):=by rw [cr hra5];rfl
     have f4:y5.frozen? ⟨Sa,4,none⟩=false:=frz hra5 _
     clear hra5 hB5 ho5 hg5 hown hsT hbz hS1 hWl
     refine ro hK hS2 fun _=>?_
     clear hK K
     refine t2 7 ?_
     refine t2 8 ?_
     refine t2 9 ?_
     refine r1 10 rfl (fun K hK=>?_)
     go_simp
     refine ro hK (uh H6).1.lens.1 fun _=>?_
     clear hK K hS2 c4 f4 hS0 HYd
     refine dn ?_ _
     generalize y5.setCell ⟨Sa,4,none⟩ (.slice va T.length vc)=w6 at H6 ⊢
     have ok0:NwOk 0 0 0 ⟨nl0 wi T,nl0 wi [],0,0⟩:=⟨nl0_ok (uh HOK).2.2 (uh HOK).2.1,nl0_ok (uh HOK).2.2 (by decide),⟨Int.le_refl _,Int.le_refl _⟩,⟨Int.le_refl _,Int.le_refl _⟩⟩
     have hlu:lineN T wi L st=if st=true then timesN setN1 100 (L.foldl evN ⟨nl0 wi T,nl0 wi [],0,0⟩) else L.foldl evN ⟨nl0 wi T,nl0 wi [],0,0⟩:=rfl
     obtain ⟨m0,hm0⟩:∃ m,(⟨nl0 wi T,nl0 wi [],0,0⟩:Nw)=m:=⟨_,rfl⟩
     rw [hlu] at HOU
     rw [hm0] at H6 ok0 HOU
     have HL6:Hid (HoldsI w6 (.slice x2 n2 y2) L):=hide ((uh HS).2.below (uh H6).2.l rfl)
     have HN2:=hide hn2
     clear hlu hm0 hn2
     generalize K3 (.slice none 0 0) (.slice none 0 0) (.slice none 0 0)=K0 at H6
     go_wp2_with fail
     go_loopw [12] (fun p wr=>∃ (j:Nat) (K':Nat→Prop),j≤n2∧p=.int .i64 j∧MS w.heap.size Sa Sb Ww ((L.take j).foldl evN m0) wr K'∧Fz (E3 Sa Sb Ww) K0 K' w6 wr) (fun p _=>n2 - (intOf p).toNat)
     case atStart=>exact ⟨0,K0,Nat.zero_le _,rfl,(uh H6).1,Fz.refl _ _ _⟩
     case round =>
      rename World=>wr9
      obtain ⟨j,K',hj,rfl,hM,hf⟩:=hrel
      have hok9:=foldN_ok (L.take j) ok0
      rw [List.length_take,uh HN2,Nat.min_eq_left hj] at hok9
      by_cases hlt2:j<n2
      ·have d3:(j:Int)<(n2:Int):=by omega
       have hjL:j<L.length:=by rw [uh HN2];exact hlt2
       have HST:Hid ((L.take (j+1)).foldl evN m0=evN ((L.take j).foldl evN m0) L[j]):=hide (by
        rw [← List.take_append_getElem hjL,List.foldl_append]
        rfl)
       have hRj:=uh HE L[j] (List.getElem_mem hjL)
       obtain ⟨g,ex,hgc⟩:∃ g,x2=some ⟨g,0,none⟩∧wr9.cell? ⟨g,j,none⟩=some (.int .i64 L[j]):=by
        rcases uh HL6 with ⟨ad,cp,e,e2⟩ | ⟨g,cp,cur,e,q1,_,q3⟩
        ·rw [e2] at hjL;exact absurd hjL (Nat.not_lt_zero _)
        ·injection e with e _ _
         refine ⟨g,e,?_⟩
         rw [cr ((uh H6).1.stand hf g _ _ (by decide) (by decide) (by decide) (by decide) q1),q3 j hjL]
         exact icells_get _ _ _ (List.getElem?_eq_getElem hjL)
       subst ex
       have CE:=hide (sEvent hM hok9 (by omega) (by omega) L[j] hRj)
       have HFW:=hide hf
       clear hf hM hok9 hRj
       generalize L[j]=e at *
       go_wp2_with fail
       refine (uh CE).mono ?_
       rintro e9 w7 ⟨rfl,K7,hm7,hf7⟩
       have H7:=hide (And.intro hm7 ((uh HFW).trans hf7))
       clear hm7 hf7 CE
       go_wp2_with fail
       go_roundw
       case rel=>exact ⟨j+1,K7,by omega,by go_num,by rw [uh HST];exact (uh H7).1,(uh H7).2⟩
       case measure=>simp [intOf];omega
      ·have e:j=n2:=by omega
       subst e
       have d3:¬ ((j:Int)<(j:Int)):=by omega
       rw [show L.take j=L by rw [← uh HN2];exact List.take_length] at hM hok9
       obtain ⟨u,hu⟩:∃ u,L.foldl evN m0=u:=⟨_,rfl⟩
       rw [hu] at hM hok9 HOU
       have HZ9:=hide ((uh H6).2.after (uh H6).1 hf)
       clear hu hf hj hlt2 HL6
       cases st
       ·rw [if_neg (by decide)] at HOU
        have HF:=hide (hM.end (uh HZ9) hXw (uh HOU))
        clear hM hok9 HZ9 HOU
        generalize wr9=zf at HF ⊢
        go_upto_region 18 with fail
        obtain ⟨ga,gl,gc,qa,ql,qc,bd,ub,r1,r0,r2,r3,r4,rz,hne,hne2,hend⟩:=uh HF
        have HEE:=hide hend
        clear HF hend
        have hS0:zf.drew.cell? ⟨Ww,2,none⟩=some (.slice ga gl gc)∧zf.drew.cell? ⟨Ww,0,none⟩=some (.pointer (some ⟨Sa,0,none⟩))∧zf.drew.cell? ⟨Sa,4,none⟩=some (.slice qa ql qc)∧zf.drew.cell? ⟨Ww,3,none⟩=some (.int .i64 bd)∧zf.drew.cell? ⟨Ww,4,none⟩=some (.int .i64 ub):=⟨r1,r0,r2,r3,r4⟩
        have rzd:zf.drew.heap[A]?=some (.cells (roC (.slice none 0 0) false 0 0 0) 28):=rz
        refine wp_region_held_drew (S:=fun z=>z.cell? ⟨Ww,2,none⟩=some (.slice ga gl gc)∧z.cell? ⟨Ww,0,none⟩=some (.pointer (some ⟨Sa,0,none⟩))∧z.cell? ⟨Sa,4,none⟩=some (.slice qa ql qc)∧z.cell? ⟨Ww,3,none⟩=some (.int .i64 bd)∧z.cell? ⟨Ww,4,none⟩=some (.int .i64 ub)) (by kernel_rfl) hS0 (fun hHeld=>?_)
        clear hHeld r1 r0 r2 r3 r4 rz
        generalize zf.drew=yf at HEE hS0 rzd ⊢
        refine t2 0 ?_
        refine t2 1 ?_
        refine t2 2 ?_
        refine t2 3 ?_
        refine t2 4 ?_
        refine t2 5 ?_
        refine t2 6 ?_
        refine t2 7 ?_
        refine t2 8 ?_
        refine t2 9 ?_
        refine t2 10 ?_
        refine t2 11 ?_
        refine t2 12 ?_
        refine tk 13 (v:=.bool (decide (ql=0))) rfl (fun w _=>?_) ?_
        ·go_simp
         exact eq0_dec ql
        try simp only [Act.put,sA,sZ,sS,gA,gZ,gS]
        refine t2 14 ?_
        refine t2 15 ?_
        refine t2 16 ?_
        refine t2 17 ?_
        refine t2 18 ?_
        refine t2 19 ?_
        refine t2 20 ?_
        refine t2 21 ?_
        refine t4 22 (.agg (roC (.slice ga gl gc) (decide (ql=0)) bd ub 0)) rfl (yieldsB (by rfl) _ _ rfl _ (by kernel_rfl)) ?_
        try simp only [Act.put,sA,sZ,sS,gA,gZ,gS]
        have hS2:(yf.setRow A (roC (.slice ga gl gc) (decide (ql=0)) bd ub 0)).cell? ⟨Ww,2,none⟩=some (.slice ga gl gc)∧(yf.setRow A (roC (.slice ga gl gc) (decide (ql=0)) bd ub 0)).cell? ⟨Ww,0,none⟩=some (.pointer (some ⟨Sa,0,none⟩))∧(yf.setRow A (roC (.slice ga gl gc) (decide (ql=0)) bd ub 0)).cell? ⟨Sa,4,none⟩=some (.slice qa ql qc)∧(yf.setRow A (roC (.slice ga gl gc) (decide (ql=0)) bd ub 0)).cell? ⟨Ww,3,none⟩=some (.int .i64 bd)∧(yf.setRow A (roC (.slice ga gl gc) (decide (ql=0)) bd ub 0)).cell? ⟨Ww,4,none⟩=some (.int .i64 ub):=by
         refine ⟨?_,?_,?_,?_,?_⟩
         ·rw [cell_setRow_other _ _ _ _ hne];exact hS0.1
         ·rw [cell_setRow_other _ _ _ _ hne];exact hS0.2.1
         ·rw [cell_setRow_other _ _ _ _ hne2];exact hS0.2.2.1
         ·rw [cell_setRow_other _ _ _ _ hne];exact hS0.2.2.2.1
         ·rw [cell_setRow_other _ _ _ _ hne];exact hS0.2.2.2.2
        have hall:=roC_all ga gl gc (decide (ql=0)) bd ub 0
        refine r1 23 rfl (fun K hK=>?_)
        rw [if_pos (by rfl)]
        refine wp_store_row 28 (.tmp 8) (.tmp 109) rfl A (roC (.slice ga gl gc) (decide (ql=0)) bd ub 0) rfl rfl 28 _ rzd infoRo rfl hall ?_
        refine ro hK hS2 fun _=>?_
        clear hK K hS0 hS2
        refine dn ?_ _
        go_wp2_with fail
        refine bodyPost_ret (v:=.agg (roC (.slice ga gl gc) (decide (ql=0)) bd ub 0)) (by simp [results,Tryz.results7,asAddr,loadRo (setRow_heap yf A _ (roC (.slice ga gl gc) (decide (ql=0)) bd ub 0) _ _ rzd)]) rfl ?_
        exact uh HEE
       ·rw [if_pos rfl] at HOU
        have CS:=hide (sSettle hM hok9 (by omega) (by omega))
        have HM9:=hide hM
        clear hM
        go_wp2_with fail
        refine (uh CS).mono ?_
        rintro e zf ⟨rfl,K5,hM5,hf5⟩
        have HF:=hide (hM5.end ((uh HZ9).after (uh HM9) hf5) hXw (uh HOU))
        clear hM5 hf5 CS hok9 HZ9 HOU HM9
        go_upto_region 18 with fail
        obtain ⟨ga,gl,gc,qa,ql,qc,bd,ub,r1,r0,r2,r3,r4,rz,hne,hne2,hend⟩:=uh HF
        have HEE:=hide hend
        clear HF hend
        have hS0:zf.drew.cell? ⟨Ww,2,none⟩=some (.slice ga gl gc)∧zf.drew.cell? ⟨Ww,0,none⟩=some (.pointer (some ⟨Sa,0,none⟩))∧zf.drew.cell? ⟨Sa,4,none⟩=some (.slice qa ql qc)∧zf.drew.cell? ⟨Ww,3,none⟩=some (.int .i64 bd)∧zf.drew.cell? ⟨Ww,4,none⟩=some (.int .i64 ub):=⟨r1,r0,r2,r3,r4⟩
        have rzd:zf.drew.heap[A]?=some (.cells (roC (.slice none 0 0) false 0 0 0) 28):=rz
        refine wp_region_held_drew (S:=fun z=>z.cell? ⟨Ww,2,none⟩=some (.slice ga gl gc)∧z.cell? ⟨Ww,0,none⟩=some (.pointer (some ⟨Sa,0,none⟩))∧z.cell? ⟨Sa,4,none⟩=some (.slice qa ql qc)∧z.cell? ⟨Ww,3,none⟩=some (.int .i64 bd)∧z.cell? ⟨Ww,4,none⟩=some (.int .i64 ub)) (by kernel_rfl) hS0 (fun hHeld=>?_)
        clear hHeld r1 r0 r2 r3 r4 rz
        generalize zf.drew=yf at HEE hS0 rzd ⊢
        refine t2 0 ?_
        refine t2 1 ?_
        refine t2 2 ?_
        refine t2 3 ?_
        refine t2 4 ?_
        refine t2 5 ?_
        refine t2 6 ?_
        refine t2 7 ?_
        refine t2 8 ?_
        refine t2 9 ?_
        refine t2 10 ?_
        refine t2 11 ?_
        refine t2 12 ?_
        refine tk 13 (v:=.bool (decide (ql=0))) rfl (fun w _=>?_) ?_
        ·go_simp
         exact eq0_dec ql
        try simp only [Act.put,sA,sZ,sS,gA,gZ,gS]
        refine t2 14 ?_
        refine t2 15 ?_
        refine t2 16 ?_
        refine t2 17 ?_
        refine t2 18 ?_
        refine t2 19 ?_
        refine t2 20 ?_
        refine t2 21 ?_
        refine t4 22 (.agg (roC (.slice ga gl gc) (decide (ql=0)) bd ub 0)) rfl (yieldsB (by rfl) _ _ rfl _ (by kernel_rfl)) ?_
        try simp only [Act.put,sA,sZ,sS,gA,gZ,gS]
        have hS2:(yf.setRow A (roC (.slice ga gl gc) (decide (ql=0)) bd ub 0)).cell? ⟨Ww,2,none⟩=some (.slice ga gl gc)∧(yf.setRow A (roC (.slice ga gl gc) (decide (ql=0)) bd ub 0)).cell? ⟨Ww,0,none⟩=some (.pointer (some ⟨Sa,0,none⟩))∧(yf.setRow A (roC (.slice ga gl gc) (decide (ql=0)) bd ub 0)).cell? ⟨Sa,4,none⟩=some (.slice qa ql qc)∧(yf.setRow A (roC (.slice ga gl gc) (decide (ql=0)) bd ub 0)).cell? ⟨Ww,3,none⟩=some (.int .i64 bd)∧(yf.setRow A (roC (.slice ga gl gc) (decide (ql=0)) bd ub 0)).cell? ⟨Ww,4,none⟩=some (.int .i64 ub):=by
         refine ⟨?_,?_,?_,?_,?_⟩
         ·rw [cell_setRow_other _ _ _ _ hne];exact hS0.1
         ·rw [cell_setRow_other _ _ _ _ hne];exact hS0.2.1
         ·rw [cell_setRow_other _ _ _ _ hne2];exact hS0.2.2.1
         ·rw [cell_setRow_other _ _ _ _ hne];exact hS0.2.2.2.1
         ·rw [cell_setRow_other _ _ _ _ hne];exact hS0.2.2.2.2
        have hall:=roC_all ga gl gc (decide (ql=0)) bd ub 0
        refine r1 23 rfl (fun K hK=>?_)
        rw [if_pos (by rfl)]
        refine wp_store_row 28 (.tmp 8) (.tmp 109) rfl A (roC (.slice ga gl gc) (decide (ql=0)) bd ub 0) rfl rfl 28 _ rzd infoRo rfl hall ?_
        refine ro hK hS2 fun _=>?_
        clear hK K hS0 hS2
        refine dn ?_ _
        go_wp2_with fail
        refine bodyPost_ret (v:=.agg (roC (.slice ga gl gc) (decide (ql=0)) bd ub 0)) (by simp [results,Tryz.results7,asAddr,loadRo (setRow_heap yf A _ (roC (.slice ga gl gc) (decide (ql=0)) bd ub 0) _ _ rzd)]) rfl ?_
        exact uh HEE
theorem start2o (w:World) (a b:Obj):((w.alloc a).alloc b).heap.size=w.heap.size+1+1∧((w.alloc a).alloc b).heap[w.heap.size]?=some a∧((w.alloc a).alloc b).heap[w.heap.size+1]?=some b∧Below w.heap.size w ((w.alloc a).alloc b):=by
 have s1:(w.alloc a).heap.size=w.heap.size+1:=by simp
 have e2:=heap_alloc_new (w.alloc a) b
 rw [s1] at e2
 refine ⟨by simp,?_,e2,((Below.refl _ _).alloc (Nat.le_refl _) _).alloc (by omega) _⟩
 rw [Below.heap_alloc _ _ _ (by omega)]
 exact heap_alloc_new w a
theorem row5o {w:World} {B:Nat} {x0 x1 x2 x3 x4:Value} {T:TypeId} (h:w.heap[B]?=some (.cells #[x0,x1,x2,x3,x4] T)) :
  w.cell? ⟨B,0,none⟩=some x0∧w.cell? ⟨B,1,none⟩=some x1∧w.cell? ⟨B,2,none⟩=some x2∧w.cell? ⟨B,3,none⟩=some x3∧w.cell? ⟨B,4,none⟩=some x4 :=
 ⟨by rw [cell_of_row _ _ _ _ _ _ h];rfl,by rw [cell_of_row _ _ _ _ _ _ h];rfl,by rw [cell_of_row _ _ _ _ _ _ h];rfl,by rw [cell_of_row _ _ _ _ _ _ h];rfl,by rw [cell_of_row _ _ _ _ _ _ h];rfl⟩
set_option maxHeartbeats 2000000 in
theorem markRo (F:List ByteArray) (dn:Bool) (bad un cd:Int) (ad:Option Addr) (cp:Nat) (w:World) (hF:F.length≤1000000) (h:HoldsT w (.slice ad F.length cp) F) :
  Calls Tryz.prog 17 #[.agg (roC (.slice ad F.length cp) dn bad un cd),.int .i64 1] w fun e w'=>e=.returned (.int .i64 ((1+F.length:Nat):Int))∧HoldsT w' (.slice ad F.length cp) (mtl 1 F.length)∧But (Value.slice ad F.length cp).ownBlock w w':=by
 have C:=hide fun o=>markTF (.slice ad F.length cp) F 1 (w.alloc o) (by decide) (by omega) (h.below ((Below.refl _ _).alloc (Nat.le_refl _) o) rfl)
 go_enter Tryz.func17,Tryz.ntmps17
 go_wp2_with fail
 refine (uh C _).mono ?_
 rintro e w2 ⟨rfl,hh2,hb2,_⟩
 go_wp2
 go_ret
 exact ⟨rfl,hh2,⟨hb2.os,hb2.tape,hb2.output,Nat.le_trans (by simp) hb2.size,fun b hb hne=>(hb2.block b (by simp;omega) hne).trans (Below.heap_alloc _ _ _ hb)⟩⟩
set_option maxHeartbeats 2000000 in
theorem heldRo (n:Nat) (dn:Bool) (bad un cd:Int) (ad:Option Addr) (cp:Nat) (w:World) (hF:n≤1000000) (h:HoldsT w (.slice ad n cp) (mtl 1 n)) :
  Calls Tryz.prog 18 #[.agg (roC (.slice ad n cp) dn bad un cd),.int .i64 1] w fun e w'=>e=.returned (.int .i64 ((1+n:Nat):Int))∧Below w.heap.size w w':=by
 have C:=hide fun o=>heldTF (.slice ad n cp) n 1 (w.alloc o) (by decide) (by omega) (h.below ((Below.refl _ _).alloc (Nat.le_refl _) o) rfl)
 obtain ⟨K,hK⟩:∃ K:Nat,1+n=K:=⟨_,rfl⟩
 rw [hK] at C ⊢
 have d1:¬ ((K:Int)<0):=by omega
 clear hK
 go_enter Tryz.func18,Tryz.ntmps18
 go_wp2_with fail
 refine (uh C _).mono ?_
 rintro e w2 ⟨rfl,hb2⟩
 go_wp2
 go_ret
 exact ⟨rfl,((Below.refl _ _).alloc (Nat.le_refl _) _).trans (hb2.mono (by simp))⟩
set_option maxHeartbeats 2000000 in
theorem eqRo (F:List ByteArray) (dn:Bool) (bad un cd:Int) (ad1 ad2:Option Addr) (cp1 cp2:Nat) (w:World) (hF:F.length≤1000000) (h1:HoldsT w (.slice ad1 F.length cp1) F) (h2:HoldsT w (.slice ad2 F.length cp2) F) :
  Calls Tryz.prog 12 #[.agg (roC (.slice ad1 F.length cp1) dn bad un cd),.agg (roC (.slice ad2 F.length cp2) dn bad un cd)] w fun e w'=>e=.returned (.bool true)∧Below w.heap.size w w':=by
 obtain ⟨hs,q0,q1,hb0⟩:=start2o w (.cells (roC (.slice ad1 F.length cp1) dn bad un cd) 28) (.cells (roC (.slice ad2 F.length cp2) dn bad un cd) 28)
 have HB:=hide (And.intro hs (And.intro q0 (And.intro q1 hb0)))
 have C:=hide (eqT _ _ F ((w.alloc (.cells (roC (.slice ad1 F.length cp1) dn bad un cd) 28)).alloc (.cells (roC (.slice ad2 F.length cp2) dn bad un cd) 28)) (by omega) (h1.below hb0 rfl) (h2.below hb0 rfl))
 have hbb:(dn == dn)=true:=by cases dn<;>rfl
 clear hs q0 q1 hb0 h1 h2
 go_enter Tryz.func12,Tryz.ntmps12
 go_wp2_with fail
 refine (uh C).mono ?_
 rintro e w2 ⟨rfl,hb2⟩
 obtain ⟨hs,q0,q1,hb0⟩:=uh HB
 rw [hs] at hb2
 obtain ⟨_,c1,c2,c3,c4⟩:=row5o ((hb2.block w.heap.size (by omega)).trans q0)
 obtain ⟨_,e1,e2,e3,e4⟩:=row5o ((hb2.block (w.heap.size+1) (by omega)).trans q1)
 have hb:=hb0.trans (hb2.mono (by omega))
 clear hb2 C HB hs q0 q1 hb0
 go_wp2
 go_ret
 exact ⟨rfl,hb⟩
end Go.Proofs.YtkcghhkkepndnaaGreatDoor
namespace Go.Proofs.YtkcghhkkepndnaaGreatDoor
open Go.RowKit
theorem lineO_len {T:List ByteArray} {wi:Int} {L:List Int} {st:Bool}:(lineO T wi L st).gt.length≤1000000:=by
 unfold lineO
 split
 ·exact Nat.zero_le _
 ·rename_i h4
  split
  ·rename_i h
   exact (lineN_ok h.2.2 h.2.1 (by omega) st).b.g
  ·exact Nat.zero_le _
structure Lq (w:World) (A B:Nat) (o:RO) (v0 v1:Value) (F1:List ByteArray) (W:World):Prop where
 ra:W.heap[A]?=some (.cells (roC v0 o.dn o.bad o.un o.cd) 28)
 rb:W.heap[B]?=some (.cells (roC v1 o.dn o.bad o.un o.cd) 28)
 h0:HoldsT W v0 o.gt
 h1:HoldsT W v1 F1
 l:Below w.heap.size w W
theorem Lq.step {w:World} {A B:Nat} {o:RO} {v0 v1:Value} {F1:List ByteArray} {W W':World} (h:Lq w A B o v0 v1 F1 W) (hb:Below W.heap.size W W'):Lq w A B o v0 v1 F1 W' :=
 ⟨(hb.block A (Array.getElem?_eq_some_iff.1 h.ra).1).trans h.ra,(hb.block B (Array.getElem?_eq_some_iff.1 h.rb).1).trans h.rb,h.h0.below hb rfl,h.h1.below hb rfl,h.l.trans (hb.mono h.l.size)⟩
theorem typT {W:World} {v:Value} {L:List ByteArray} (h:HoldsT W v L) (hn:L≠[]) (g:Nat) (hg:v.ownBlock=some g):∃ cur,W.heap[g]?=some (.cells cur 9):=by
 rcases h with ⟨_,_,_,e⟩ | ⟨g',_,cur,e,q,_⟩
 ·exact absurd e hn
 ·rw [e] at hg;cases hg;exact ⟨cur,q⟩
theorem typI {W:World} {v:Value} {L:List Int} (h:HoldsI W v L) (hn:L≠[]) (g:Nat) (hg:v.ownBlock=some g):∃ cur,W.heap[g]?=some (.cells cur 2):=by
 rcases h with ⟨_,_,_,e⟩ | ⟨g',_,cur,e,q,_⟩
 ·exact absurd e hn
 ·rw [e] at hg;cases hg;exact ⟨cur,q⟩
theorem but_low {w W W':World} {v:Value} (l:Below w.heap.size w W) (hb:But v.ownBlock W W') (hv:∀ g,v.ownBlock=some g→w.heap.size≤g):Below w.heap.size w W' :=
 ⟨hb.os.trans l.os,hb.tape.trans l.tape,hb.output.trans l.output,Nat.le_trans l.size hb.size,fun b hlt=>(hb.block b (Nat.lt_of_lt_of_le hlt l.size) fun e=>by have:=hv b e;omega).trans (l.block b hlt)⟩
section
variable {w:World} {A B:Nat} {o:RO} {v0 v1:Value} {F1:List ByteArray} {W W':World}
theorem Lq.markT (h:Lq w A B o v0 v1 F1 W) {vx:Value} {T:List ByteArray} (hx:HoldsT W vx T) (hb:But vx.ownBlock W W') (he:T=[]→Below W.heap.size W W') (lo:∀ q,vx.ownBlock=some q→w.heap.size≤q) (n0:T≠[]→∀ g,v0.ownBlock=some g→vx.ownBlock≠some g) (n1:T≠[]→∀ g,v1.ownBlock=some g→vx.ownBlock≠some g):Lq w A B o v0 v1 F1 W':=by
 by_cases hT:T=[]
 ·exact h.step (he hT)
 ·have ty:=typT hx hT
  refine ⟨(hb.block A (Array.getElem?_eq_some_iff.1 h.ra).1 fun e=>?_).trans h.ra,(hb.block B (Array.getElem?_eq_some_iff.1 h.rb).1 fun e=>?_).trans h.rb,holdsT_but h.h0 hb (n0 hT),holdsT_but h.h1 hb (n1 hT),but_low h.l hb lo⟩
  ·obtain ⟨cur,hc⟩:=ty A e
   exact typ_ne h.ra hc (by decide) rfl
  ·obtain ⟨cur,hc⟩:=ty B e
   exact typ_ne h.rb hc (by decide) rfl
theorem holdsT_butI {u v:Value} {L:List ByteArray} (h:HoldsT W v L) (hb:But u.ownBlock W W') (ty:∀ g,u.ownBlock=some g→∃ cur,W.heap[g]?=some (.cells cur 2)):HoldsT W' v L :=
 h.imp id fun ⟨g,cp,cur,e1,e2,e3⟩=>⟨g,cp,cur,e1,(hb.block g (Array.getElem?_eq_some_iff.1 e2).1 (fun e=>by
  obtain ⟨c2,hc⟩:=ty g e
  exact typ_ne e2 hc (by decide) rfl)).trans e2,e3⟩
theorem Lq.markI (h:Lq w A B o v0 v1 F1 W) {vy:Value} {L:List Int} (hy:HoldsI W vy L) (hb:But vy.ownBlock W W') (he:L=[]→Below W.heap.size W W') (lo:∀ q,vy.ownBlock=some q→w.heap.size≤q):Lq w A B o v0 v1 F1 W':=by
 by_cases hL:L=[]
 ·exact h.step (he hL)
 ·have ty:=typI hy hL
  refine ⟨(hb.block A (Array.getElem?_eq_some_iff.1 h.ra).1 fun e=>?_).trans h.ra,(hb.block B (Array.getElem?_eq_some_iff.1 h.rb).1 fun e=>?_).trans h.rb,?_,?_,but_low h.l hb lo⟩
  ·obtain ⟨cur,hc⟩:=ty A e
   exact typ_ne h.ra hc (by decide) rfl
  ·obtain ⟨cur,hc⟩:=ty B e
   exact typ_ne h.rb hc (by decide) rfl
  ·exact holdsT_butI h.h0 hb ty
  ·exact holdsT_butI h.h1 hb ty
theorem Lq.markO (h:Lq w A B o v0 v1 F1 W) {F2:List ByteArray} (hb:But v1.ownBlock W W') (h1:HoldsT W' v1 F2) (n:(∀ g,v0.ownBlock=some g→v1.ownBlock≠some g)∧v1.ownBlock≠some A∧v1.ownBlock≠some B∧∀ q,v1.ownBlock=some q→w.heap.size≤q):Lq w A B o v0 v1 F2 W' :=
 ⟨(hb.block A (Array.getElem?_eq_some_iff.1 h.ra).1 n.2.1).trans h.ra,(hb.block B (Array.getElem?_eq_some_iff.1 h.rb).1 n.2.2.1).trans h.rb,holdsT_but h.h0 hb n.1,h1,but_low h.l hb n.2.2.2⟩
end
theorem own_ltT {W:World} {base:Nat} {v:Value} {F:List ByteArray} (h:W.ownsRow base 9 1 v F.length (scells F)) (g:Nat) (hg:v.ownBlock=some g):base≤g∧g<W.heap.size:=⟨(own_typ h g hg).1,(own_typ h g hg).2.1⟩
def AnS (o:RO) (G:Nat) (w:World) (e:Ending) (w':World):Prop:=∃ a c,e=.returned (.agg (roC (.slice a G c) o.dn o.bad o.un o.cd))∧HoldsT w' (.slice a G c) o.gt∧(∀ g,(Value.slice a G c).ownBlock=some g→w.heap.size≤g∧g<w'.heap.size)∧Below w.heap.size w w'
theorem AnR.s {o:RO} {G:Nat} {w w':World} {e:Ending} (h:AnR o w e w') (hG:o.gt.length=G):AnS o G w e w':=by
 obtain ⟨v,rfl,ho,hb⟩:=h
 obtain ⟨a,c,rfl⟩:=own_form ho
 subst hG
 exact ⟨a,c,rfl,HoldsT.own ho,fun g hg=>own_ltT ho g hg,hb⟩
set_option linter.unusedSimpArgs false in
set_option maxHeartbeats 16000000 in
set_option maxRecDepth 100000 in
theorem lawLi (va:Value) (T:List ByteArray) (wi:Int) (vb:Value) (L:List Int) (st:Bool) (w:World) (hT:Lib.Utf8Tabs 0 1 w) (hm:T.length≤maxLen) (hm2:L.length≤maxLen) (hx:ArgT w va T) (hy:ArgI w vb L) (hR:∀ e ∈ L,e≤9223372036854775807) :
  Calls Tryz.prog 4 #[va,.int .i64 wi,vb,.bool st] w fun r w'=>r=.returned (.bool true)∧Below w.heap.size w w':=by
 obtain ⟨xa,xc,rfl⟩:=hx.1
 obtain ⟨ya,yc,rfl⟩:=hy.1
 obtain ⟨n,hn⟩:∃ n,T.length=n:=⟨_,rfl⟩
 obtain ⟨n2,hn2⟩:∃ n,L.length=n:=⟨_,rfl⟩
 unfold maxLen at hm hm2
 have CZ:=hide fun W (hb:Below w.heap.size w W)=>szTs (.slice xa T.length xc) T 1048576 W (Nat.le_refl _) (by unfold maxLen;omega) (hx.below hb)
 have CT:Hid (n≤1048576→∀ W,Below w.heap.size w W→Calls Tryz.prog 10 #[.slice xa n xc] W fun e w'=>∃ ua uc,e=.returned (.slice ua n uc)∧HoldsT w' (.slice ua n uc) T∧(∀ q,(Value.slice ua n uc).ownBlock=some q→W.heap.size≤q)∧Below W.heap.size W w'):=hide fun hl W hb=>by
  rw [← hn]
  refine (toTs _ T W (by rw [hn];exact hl) (hx.below hb)).mono ?_
  rintro e w' ⟨u,rfl,h1,h2,h3⟩
  obtain ⟨ua,uc,rfl⟩:=h1.form
  exact ⟨ua,uc,rfl,h1,h2,h3⟩
 have CY:Hid (n2≤1048576→∀ W,Below w.heap.size w W→Calls Tryz.prog 11 #[.slice ya n2 yc] W fun e w'=>∃ ua uc,e=.returned (.slice ua n2 uc)∧HoldsI w' (.slice ua n2 uc) L∧(∀ q,(Value.slice ua n2 uc).ownBlock=some q→W.heap.size≤q)∧Below W.heap.size W w'):=hide fun hl W hb=>by
  rw [← hn2]
  refine (toIs _ L W (by rw [hn2];exact hl) (hy.below hb)).mono ?_
  rintro e w' ⟨u,rfl,h1,h2,h3⟩
  obtain ⟨ua,uc,rfl⟩:=h1.form
  exact ⟨ua,uc,rfl,h1,h2,h3⟩
 have CS:Hid (n≤1048576→n2≤1048576→∀ (x:Option Addr) (y:Nat) (x2:Option Addr) (y2:Nat) (W:World),HoldsT W (.slice x n y) T→HoldsI W (.slice x2 n2 y2) L→Calls Tryz.prog 7 #[.slice x n y,.int .i64 wi,.slice x2 n2 y2,.bool st] W fun e w'=>AnR (lineO T wi L st) W e w'):=hide fun hl hl2 x y x2 y2 W h h2=>by
  rw [← hn] at h hl ⊢
  rw [← hn2] at h2 hl2 ⊢
  exact sLineRun h.s hl wi h2 hl2 hR st
 have CI:Hid (n≤1048576→n2≤1048576→∀ (x:Option Addr) (y:Nat) (x2:Option Addr) (y2:Nat) (W:World),Below w.heap.size w W→HoldsT W (.slice x n y) T→HoldsI W (.slice x2 n2 y2) L→Calls Tryz.prog 6 #[.slice x n y,.int .i64 wi,.slice x2 n2 y2,.bool st] W fun e w'=>AnR (lineO T wi L st) W e w'):=hide fun hl hl2 x y x2 y2 W hb h h2=>by
  rw [← hn] at h hl ⊢
  rw [← hn2] at h2 hl2 ⊢
  exact iLineRun (Utf8Tabs_below hT hb) h.s hl wi h2 hl2 hR st
 have CM:Hid (n≤1048576→∀ (x:Option Addr) (y:Nat) (W:World),HoldsT W (.slice x n y) T→Calls Tryz.prog 15 #[.slice x n y,.int .i64 1] W fun e w'=>e=.returned (.int .i64 ((1+n:Nat):Int))∧But (Value.slice x n y).ownBlock W w'∧(T=[]→Below W.heap.size W w')):=hide fun hl x y W h=>by
  rw [← hn] at h hl ⊢
  exact (markTF _ T 1 W (by decide) (by omega) h).mono fun e w' ⟨q1,_,q2,q3⟩=>⟨q1,q2,q3⟩
 have CN:Hid (n≤1048576→n2≤1048576→∀ (x:Option Addr) (y:Nat) (W:World),HoldsI W (.slice x n2 y) L→Calls Tryz.prog 16 #[.slice x n2 y,.int .i64 ((1+n:Nat):Int)] W fun e w'=>e=.returned (.int .i64 ((1+n+n2:Nat):Int))∧But (Value.slice x n2 y).ownBlock W w'∧(L=[]→Below W.heap.size W w')):=hide fun hl hl2 x y W h=>by
  rw [← hn2] at h hl2 ⊢
  exact (markIF _ L (1+n) W (by omega) (by omega) h).mono fun e w' ⟨q1,_,q2,q3⟩=>⟨q1,q2,q3⟩
 have CET:Hid (n≤1048576→∀ (x x2:Option Addr) (y y2:Nat) (W:World),HoldsT W (.slice x n y) T→HoldsT W (.slice x2 n y2) T→Calls Tryz.prog 13 #[.slice x n y,.slice x2 n y2] W fun e w'=>e=.returned (.bool true)∧Below W.heap.size W w'):=hide fun hl x x2 y y2 W h h2=>by
  rw [← hn] at h h2 hl ⊢
  exact eqT _ _ T W (by omega) h h2
 have CEI:Hid (n2≤1048576→∀ (x x2:Option Addr) (y y2:Nat) (W:World),HoldsI W (.slice x n2 y) L→HoldsI W (.slice x2 n2 y2) L→Calls Tryz.prog 14 #[.slice x n2 y,.slice x2 n2 y2] W fun e w'=>e=.returned (.bool true)∧Below W.heap.size W w'):=hide fun hl x x2 y y2 W h h2=>by
  rw [← hn2] at h h2 hl ⊢
  exact eqIs _ _ L W (by omega) h h2
 have hlo:(lineO T wi L st).gt.length≤1000000:=lineO_len
 rw [hn] at hm CZ ⊢
 rw [hn2] at hm2 ⊢
 clear hx hy hT hR hn hn2
 generalize lineO T wi L st=o at *
 have CEO:=hide fun ad1 cp1 ad2 cp2 v=>eqRo o.gt o.dn o.bad o.un o.cd ad1 ad2 cp1 cp2 v hlo
 have CK:=hide fun ad cp v=>markRo o.gt o.dn o.bad o.un o.cd ad cp v hlo
 have CH:=hide fun ad cp v=>heldRo o.gt.length o.dn o.bad o.un o.cd ad cp v hlo
 obtain ⟨G,hG⟩:∃ G:Nat,o.gt.length=G:=⟨_,rfl⟩
 rw [hG] at CEO CK CH
 obtain ⟨K,hK⟩:∃ K:Nat,1+G=K:=⟨_,rfl⟩
 rw [hK] at CK CH
 have d2:¬ ((K:Int)<0):=by omega
 replace CS:=hide fun a b x y x2 y2 W h h2=>(uh CS a b x y x2 y2 W h h2).mono fun e w' k=>k.s hG
 replace CI:=hide fun a b x y x2 y2 W hb h h2=>(uh CI a b x y x2 y2 W hb h h2).mono fun e w' k=>k.s hG
 clear hK hlo hG
 go_enter Tryz.func4,Tryz.ntmps4
 by_cases hbig:1048576<n2
 ·have d0:(1048576:Int)<(n2:Int):=by omega
  clear hbig
  go_wp2
  go_ret
  exact ⟨rfl,Below.refl _ _⟩
 have hl2:n2≤1048576:=by omega
 have d0:¬ ((1048576:Int)<(n2:Int)):=by omega
 go_wp2_with fail
 refine (uh CZ w (Below.refl _ _)).mono ?_
 rintro e w1 ⟨z,rfl,hz,hb1⟩
 have HB1:=hide hb1
 clear hb1 CZ
 rcases hz with rfl | ⟨hl,m,rfl,hm9⟩
 ·go_wp2
  go_ret
  exact ⟨rfl,uh HB1⟩
 have d1:¬ ((m:Int)<0):=by omega
 replace CT:=hide (uh CT hl)
 replace CY:=hide (uh CY hl2)
 replace CS:=hide (uh CS hl hl2)
 replace CI:=hide (uh CI hl hl2)
 replace CM:=hide (uh CM hl)
 replace CN:=hide (uh CN hl hl2)
 replace CET:=hide (uh CET hl)
 replace CEI:=hide (uh CEI hl2)
 have dk:¬ (((1+n+n2:Nat):Int)<0):=by omega
 clear hm hm2 hbig
 go_wp2_with fail
 refine (uh CT w1 (uh HB1)).mono ?_
 rintro e w2 ⟨ua,uc,rfl,ht2,_,hb2⟩
 have HB2:=hide ((uh HB1).trans (hb2.mono (uh HB1).size))
 have HT2:=hide ht2
 clear ht2 hb2 HB1
 go_wp2_with fail
 refine (uh CY w2 (uh HB2)).mono ?_
 rintro e w3 ⟨ub,ud,rfl,hi3,_,hb3⟩
 have HB3:=hide ((uh HB2).trans (hb3.mono (uh HB2).size))
 have HT3:=hide ((uh HT2).below hb3 rfl)
 have HI3:=hide hi3
 clear hi3 hb3 HB2 HT2
 go_wp2_with fail
 refine (uh CS _ _ _ _ w3 (uh HT3) (uh HI3)).mono ?_
 rintro e w4 ⟨a0,c0,rfl,ho4,hr4,hb4⟩
 have H5:Hid ((w4.alloc (.cells #[.slice a0 G c0,.bool o.dn,.int .i64 o.bad,.int .i64 o.un,.int .i64 o.cd] 28)).heap[w4.heap.size]?=some (.cells (roC (.slice a0 G c0) o.dn o.bad o.un o.cd) 28)∧HoldsT (w4.alloc (.cells #[.slice a0 G c0,.bool o.dn,.int .i64 o.bad,.int .i64 o.un,.int .i64 o.cd] 28)) (.slice a0 G c0) o.gt∧(∀ g,(Value.slice a0 G c0).ownBlock=some g→g<w4.heap.size)∧Below w.heap.size w (w4.alloc (.cells #[.slice a0 G c0,.bool o.dn,.int .i64 o.bad,.int .i64 o.un,.int .i64 o.cd] 28))):=hide (by
  have hbx:=(Below.refl w4.heap.size w4).alloc (Nat.le_refl _) (.cells #[.slice a0 G c0,.bool o.dn,.int .i64 o.bad,.int .i64 o.un,.int .i64 o.cd] 28)
  have hbw:=(uh HB3).trans (hb4.mono (uh HB3).size)
  exact ⟨heap_alloc_new _ _,ho4.below hbx rfl,fun g hg=>(hr4 g hg).2,hbw.trans (hbx.mono hbw.size)⟩)
 have hbw4:=(uh HB3).trans (hb4.mono (uh HB3).size)
 clear ho4 hr4 hb4 HB3 HT3 HI3 CS
 go_wp2_with fail
 refine (uh CT _ (hbw4.alloc hbw4.size _)).mono ?_
 clear hbw4
 generalize w4.alloc (.cells #[.slice a0 G c0,.bool o.dn,.int .i64 o.bad,.int .i64 o.un,.int .i64 o.cd] 28)=w5 at H5 ⊢
 generalize w4.heap.size=A at H5 ⊢
 rintro e w6 ⟨xa2,xc2,rfl,ht6,lo6,hb6⟩
 have H6:=hide (And.intro ht6 (And.intro lo6 hb6))
 clear ht6 lo6 hb6
 go_wp2_with fail
 refine (uh CY w6 ((uh H5).2.2.2.trans ((uh H6).2.2.mono (uh H5).2.2.2.size))).mono ?_
 rintro e w7 ⟨ya2,yc2,rfl,hi7,lo7,hb7⟩
 have HB7:=hide (((uh H5).2.2.2.trans ((uh H6).2.2.mono (uh H5).2.2.2.size)).trans (hb7.mono ((uh H5).2.2.2.trans ((uh H6).2.2.mono (uh H5).2.2.2.size)).size))
 have H7:=hide (And.intro hi7 (And.intro lo7 hb7))
 clear hi7 lo7 hb7
 go_wp2_with fail
 refine (uh CI _ _ _ _ w7 (uh HB7) ((uh H6).1.below (uh H7).2.2 rfl) (uh H7).1).mono ?_
 rintro e w8 ⟨a1,c1,rfl,ho8,hr8,hb8⟩
 have H9:Hid (Lq w A w8.heap.size o (.slice a0 G c0) (.slice a1 G c1) o.gt (w8.alloc (.cells #[.slice a1 G c1,.bool o.dn,.int .i64 o.bad,.int .i64 o.un,.int .i64 o.cd] 28))∧HoldsT (w8.alloc (.cells #[.slice a1 G c1,.bool o.dn,.int .i64 o.bad,.int .i64 o.un,.int .i64 o.cd] 28)) (.slice xa2 n xc2) T∧HoldsI (w8.alloc (.cells #[.slice a1 G c1,.bool o.dn,.int .i64 o.bad,.int .i64 o.un,.int .i64 o.cd] 28)) (.slice ya2 n2 yc2) L∧(∀ q,(Value.slice xa2 n xc2).ownBlock=some q→w.heap.size≤q)∧(∀ q,(Value.slice ya2 n2 yc2).ownBlock=some q→w.heap.size≤q)∧(T≠[]→∀ g,(Value.slice a0 G c0).ownBlock=some g→(Value.slice xa2 n xc2).ownBlock≠some g)∧(T≠[]→∀ g,(Value.slice a1 G c1).ownBlock=some g→(Value.slice xa2 n xc2).ownBlock≠some g)∧((∀ g,(Value.slice a0 G c0).ownBlock=some g→(Value.slice a1 G c1).ownBlock≠some g)∧(Value.slice a1 G c1).ownBlock≠some A∧(Value.slice a1 G c1).ownBlock≠some w8.heap.size∧∀ q,(Value.slice a1 G c1).ownBlock=some q→w.heap.size≤q)):=hide (by
  obtain ⟨p1,p2,p3,p4⟩:=uh H5
  obtain ⟨t1,t2,t3⟩:=uh H6
  obtain ⟨i1,i2,i3⟩:=uh H7
  have hA5:=(Array.getElem?_eq_some_iff.1 p1).1
  have z1:=p4.size
  have z2:=t3.size
  have z3:=i3.size
  have z4:=hb8.size
  have hbx:=(Below.refl w8.heap.size w8).alloc (Nat.le_refl _) (.cells #[.slice a1 G c1,.bool o.dn,.int .i64 o.bad,.int .i64 o.un,.int .i64 o.cd] 28)
  have h79:=hb8.trans (hbx.mono z4)
  have h69:=i3.trans (h79.mono z3)
  have h59:=t3.trans (h69.mono z2)
  have tT:T≠[]→∀ q,(Value.slice xa2 n xc2).ownBlock=some q→q<w6.heap.size:=fun hT q hq=>by
   obtain ⟨cur,hc⟩:=typT t1 hT q hq
   exact (Array.getElem?_eq_some_iff.1 hc).1
  refine ⟨⟨(h59.block A hA5).trans p1,heap_alloc_new _ _,p2.below h59 rfl,ho8.below hbx rfl,p4.trans (h59.mono z1)⟩,t1.below h69 rfl,i1.below h79 rfl,fun q hq=>by have:=t2 q hq;omega,fun q hq=>by have:=i2 q hq;omega,fun hT g hg e=>?_,fun hT g hg e=>?_,fun g hg e=>?_,fun e=>?_,fun e=>?_,fun q hq=>?_⟩
  ·have:=p3 g hg
   have:=t2 g e
   omega
  ·have:=(hr8 g hg).1
   have:=tT hT g e
   omega
  ·have:=p3 g hg
   have:=(hr8 g e).1
   omega
  ·have:=(hr8 A e).1
   omega
  ·have:=(hr8 _ e).2
   omega
  ·have:=(hr8 q hq).1
   omega)
 clear ho8 hr8 hb8 H5 H6 H7 HB7
 go_upto_region 11 with fail
 generalize w8.alloc (.cells #[.slice a1 G c1,.bool o.dn,.int .i64 o.bad,.int .i64 o.un,.int .i64 o.cd] 28)=w9 at H9 ⊢
 generalize w8.heap.size=B at H9 ⊢
 obtain ⟨hq9,hx9,hy9,lx,ly,n0,n1,nv⟩:=uh H9
 have HNX:=hide (And.intro lx (And.intro ly (And.intro n0 (And.intro n1 nv))))
 obtain ⟨i0,i1,i2,i3,i4⟩:=row5o hq9.ra
 obtain ⟨m0,m1,m2,m3,m4⟩:=row5o hq9.rb
 have HQ9:=hide (And.intro hq9 (And.intro hx9 hy9))
 clear hq9 hx9 hy9 lx ly n0 n1 nv H9
 go_wp2_with fail
 refine (uh CEO _ _ _ _ _ (uh HQ9).1.h1 (uh HQ9).1.h0).mono ?_
 rintro e w10 ⟨rfl,hb10⟩
 have HQ10:=hide (And.intro ((uh HQ9).1.step hb10) (And.intro ((uh HQ9).2.1.below hb10 rfl) ((uh HQ9).2.2.below hb10 rfl)))
 clear i0 i1 i2 i3 i4 m0 m1 m2 m3 m4 hb10 HQ9
 go_wp2_with fail
 refine (uh CT w10 (uh HQ10).1.l).mono ?_
 rintro e w11 ⟨ua1,uc1,rfl,ht11,_,hb11⟩
 have HQ11:=hide (And.intro ((uh HQ10).1.step hb11) (And.intro ((uh HQ10).2.1.below hb11 rfl) ((uh HQ10).2.2.below hb11 rfl)))
 have HT11:=hide ht11
 clear ht11 hb11 HQ10
 go_wp2_with fail
 refine (uh CET _ _ _ _ w11 (uh HQ11).2.1 (uh HT11)).mono ?_
 rintro e w12 ⟨rfl,hb12⟩
 have HQ12:=hide (And.intro ((uh HQ11).1.step hb12) (And.intro ((uh HQ11).2.1.below hb12 rfl) ((uh HQ11).2.2.below hb12 rfl)))
 clear hb12 HQ11 HT11 CET
 go_wp2_with fail
 refine (uh CY w12 (uh HQ12).1.l).mono ?_
 rintro e w13 ⟨ub1,ud1,rfl,hi13,_,hb13⟩
 have HQ13:=hide (And.intro ((uh HQ12).1.step hb13) (And.intro ((uh HQ12).2.1.below hb13 rfl) ((uh HQ12).2.2.below hb13 rfl)))
 have HI13:=hide hi13
 clear hi13 hb13 HQ12
 go_wp2_with fail
 refine (uh CEI _ _ _ _ w13 (uh HQ13).2.2 (uh HI13)).mono ?_
 rintro e w14 ⟨rfl,hb14⟩
 have HQ14:=hide (And.intro ((uh HQ13).1.step hb14) (And.intro ((uh HQ13).2.1.below hb14 rfl) ((uh HQ13).2.2.below hb14 rfl)))
 clear hb14 HQ13 HI13 CEI
 go_wp2_with fail
 refine (uh CM _ _ w14 (uh HQ14).2.1).mono ?_
 rintro e w15 ⟨rfl,hb15,he15⟩
 have HQ15:Hid (Lq w A B o (.slice a0 G c0) (.slice a1 G c1) o.gt w15∧HoldsI w15 (.slice ya2 n2 yc2) L):=hide (by
  obtain ⟨lx,ly,n0,n1,nv⟩:=uh HNX
  obtain ⟨q1,q2,q3⟩:=uh HQ14
  refine ⟨q1.markT q2 hb15 he15 lx n0 n1,?_⟩
  by_cases hT:T=[]
  ·exact q3.below (he15 hT) rfl
  ·by_cases hL:L=[]
   ·obtain ⟨ad,cp,e⟩:=q3.form
    rw [e]
    rw [hL]
    exact Or.inl ⟨ad,cp,rfl,rfl⟩
   ·refine holdsI_but q3 hb15 fun g hg e=>?_
    obtain ⟨c1,h1⟩:=typT q2 hT g e
    obtain ⟨c2,h2⟩:=typI q3 hL g hg
    exact typ_ne h1 h2 (by decide) rfl)
 clear hb15 he15 HQ14 CM
 go_wp2_with fail
 refine (uh CN _ _ w15 (uh HQ15).2).mono ?_
 rintro e w16 ⟨rfl,hb16,he16⟩
 have hq16:=(uh HQ15).1.markI (uh HQ15).2 hb16 he16 (uh HNX).2.1
 obtain ⟨i0,i1,i2,i3,i4⟩:=row5o hq16.ra
 obtain ⟨m0,m1,m2,m3,m4⟩:=row5o hq16.rb
 have HQ16:=hide hq16
 clear hb16 he16 HQ15 CN hq16
 go_wp2_with fail
 refine (uh CEO _ _ _ _ _ (uh HQ16).h1 (uh HQ16).h0).mono ?_
 rintro e w17 ⟨rfl,hb17⟩
 have hq17:=(uh HQ16).step hb17
 clear i0 i1 i2 i3 i4 m0 m1 m2 m3 m4 hb17 HQ16
 obtain ⟨m0,m1,m2,m3,m4⟩:=row5o hq17.rb
 have HQ17:=hide hq17
 clear hq17
 go_wp2_with fail
 refine (uh CK _ _ _ (uh HQ17).h1).mono ?_
 rintro e w18 ⟨rfl,hh18,hb18⟩
 have hq18:=(uh HQ17).markO hb18 hh18 (uh HNX).2.2.2.2
 clear m0 m1 m2 m3 m4 hb18 hh18 HQ17 CK HNX
 obtain ⟨m0,m1,m2,m3,m4⟩:=row5o hq18.rb
 have HQ18:=hide hq18
 clear hq18
 go_wp2_with fail
 refine (uh CH _ _ _ (uh HQ18).h1).mono ?_
 rintro e w19 ⟨rfl,hb19⟩
 have HQ19:=hide ((uh HQ18).step hb19)
 clear m0 m1 m2 m3 m4 hb19 HQ18
 go_wp2_with fail
 refine (uh CT w19 (uh HQ19).l).mono ?_
 rintro e w20 ⟨ua3,uc3,rfl,ht20,_,hb20⟩
 have HQ20:=hide ((uh HQ19).step hb20)
 have HT20:=hide ht20
 clear ht20 hb20 HQ19 CT
 go_wp2_with fail
 refine (uh CY w20 (uh HQ20).l).mono ?_
 rintro e w21 ⟨ub3,ud3,rfl,hi21,_,hb21⟩
 have HQ21:=hide ((uh HQ20).step hb21)
 have HT21:=hide ((uh HT20).below hb21 rfl)
 have HI21:=hide hi21
 clear hi21 hb21 HQ20 HT20 CY
 go_wp2_with fail
 refine (uh CI _ _ _ _ w21 (uh HQ21).l (uh HT21) (uh HI21)).mono ?_
 rintro e w22 ⟨a2,c2,rfl,ho22,hr22,hb22⟩
 have hq23:=((uh HQ21).step hb22).step ((Below.refl _ _).alloc (Nat.le_refl _) (.cells #[.slice a2 G c2,.bool o.dn,.int .i64 o.bad,.int .i64 o.un,.int .i64 o.cd] 28))
 have hr23:=heap_alloc_new w22 (.cells #[.slice a2 G c2,.bool o.dn,.int .i64 o.bad,.int .i64 o.un,.int .i64 o.cd] 28)
 have HH2:=hide (ho22.below ((Below.refl _ _).alloc (Nat.le_refl _) (.cells #[.slice a2 G c2,.bool o.dn,.int .i64 o.bad,.int .i64 o.un,.int .i64 o.cd] 28)) rfl)
 obtain ⟨i0,i1,i2,i3,i4⟩:=row5o hq23.ra
 obtain ⟨m0,m1,m2,m3,m4⟩:=row5o hr23
 have HQ23:=hide hq23
 clear hq23 hr23 ho22 hr22 hb22 HQ21 HT21 HI21 CI
 go_wp2_with fail
 refine (uh CEO _ _ _ _ _ (uh HH2) (uh HQ23).h0).mono ?_
 rintro e w24 ⟨rfl,hb24⟩
 have hq24:=(uh HQ23).step hb24
 clear i0 i1 i2 i3 i4 m0 m1 m2 m3 m4 hb24 HQ23 HH2
 obtain ⟨m0,m1,m2,m3,m4⟩:=row5o hq24.rb
 have HQ24:=hide hq24
 clear hq24
 go_wp2_with fail
 refine (uh CH _ _ _ (uh HQ24).h1).mono ?_
 rintro e w25 ⟨rfl,hb25⟩
 have HQ25:=hide ((uh HQ24).step hb25).l
 clear m0 m1 m2 m3 m4 hb25 HQ24
 go_wp2
 go_ret
 exact ⟨rfl,uh HQ25⟩
end Go.Proofs.YtkcghhkkepndnaaGreatDoor
