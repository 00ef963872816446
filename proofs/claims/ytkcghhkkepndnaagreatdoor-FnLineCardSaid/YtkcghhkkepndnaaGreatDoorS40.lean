/- The program's world of a numbered line is made: the first end is given each text; what lay in memory stands; no condition but those named. -/
import Derived.Test.YtkcghhkkepndnaaGreatDoorS39
import Derived.Test.YtkcghhkkepndnaaGreatDoorShW
namespace Go.Proofs.YtkcghhkkepndnaaGreatDoor
open Go.RowKit
theorem nt_new {W y:World} (hT:Lib.Utf8Tabs 0 1 W) (hb:Below W.heap.size W y) (wi:Int) :
  MN W.heap.size y.heap.size ⟨nl0 wi [],nl0 wi [],0,0⟩ 0 (y.alloc (.cells (slC (lpNew wi) (.slice none 0 0) (.slice none 0 0) dm0 (.slice none 0 0) ++ slC (lpNew wi) (.slice none 0 0) (.slice none 0 0) dm0 (.slice none 0 0) ++ nwC 0 0 0).toArray 63)) (K4 (.slice none 0 0) (.slice none 0 0) (.slice none 0 0) (.slice none 0 0)):=by
 have hn:∀ z:World,z.ownsRow W.heap.size 9 1 (.slice none 0 0) ([]:List ByteArray).length (scells []):=fun z=>World.ownsRow_nil _ _ _ _
 have hr:=heap_alloc_new y (.cells (slC (lpNew wi) (.slice none 0 0) (.slice none 0 0) dm0 (.slice none 0 0) ++ slC (lpNew wi) (.slice none 0 0) (.slice none 0 0) dm0 (.slice none 0 0) ++ nwC 0 0 0).toArray 63)
 have hz:W.heap.size≤(y.alloc (.cells (slC (lpNew wi) (.slice none 0 0) (.slice none 0 0) dm0 (.slice none 0 0) ++ slC (lpNew wi) (.slice none 0 0) (.slice none 0 0) dm0 (.slice none 0 0) ++ nwC 0 0 0).toArray 63)).heap.size:=Nat.le_trans hb.size (by simp)
 have no:∀ g,¬ K2 (.slice none 0 0) (.slice none 0 0) g:=fun g e=>by rcases e with e | e<;>cases e
 refine ⟨_,_,_,_,_,_,⟨⟨?_,hn _,Or.inl ⟨rfl,rfl⟩,hn _,fun g e=>(by cases e),Nat.zero_le _,hz⟩,⟨?_,hn _,Or.inl ⟨rfl,rfl⟩,hn _,fun g e=>(by cases e),Nat.zero_le _,hz⟩,fun g e=>absurd e (no g),fun g e=>(by cases e),fun g e=>(by cases e),⟨W,rfl,hT,hb.trans (((Below.refl _ _).alloc (Nat.le_refl _) _).mono hb.size)⟩,hb.size⟩,rfl⟩
 ·rw [hr];rfl
 ·rw [hr];rfl
theorem follow_put {wi:Int} {L:List ByteArray} {t:ByteArray} (hw:winOk wi=true) (hq:qOk L=true) (h20:L.length<20) (ht:t.size≤200):followN (nl0 wi L) (putLF (nl0 wi L).p (nl0 wi L).Q t)=nl0 wi (L ++ [t])∧Fine (putLF (nl0 wi L).p (nl0 wi L).Q t)∧((putLF (nl0 wi L).p (nl0 wi L).Q t).cd≠0→(putLF (nl0 wi L).p (nl0 wi L).Q t).sn=[]∧(putLF (nl0 wi L).p (nl0 wi L).Q t).gt=[]):=by
 have hl:lpOk (lpNew wi) L=true:=lpNew_ok hw hq
 have e:putLF (nl0 wi L).p (nl0 wi L).Q t=⟨lpNew wi,L ++ [t],[],[],0⟩:=by
  show putLF (lpNew wi) L t=_
  unfold putLF
  rw [if_neg (by omega),if_pos ⟨hl,ht⟩,if_neg (by omega)]
 have hf:=fine_put (nl0 wi L).p (nl0 wi L).Q t
 rw [e] at hf ⊢
 exact ⟨rfl,hf,fun h=>absurd rfl h⟩
theorem qOk_take {T:List ByteArray} (h:qOk T=true) (i:Nat):qOk (T.take i)=true:=by
 unfold qOk at h ⊢
 simp only [Bool.and_eq_true,decide_eq_true_eq,List.all_eq_true] at h ⊢
 exact ⟨by rw [List.length_take];omega,fun t ht=>h.2 t (List.mem_of_mem_take ht)⟩
theorem qOk_get {T:List ByteArray} (h:qOk T=true):T.length≤20∧∀ t ∈ T,t.size≤200:=by
 unfold qOk at h
 simp only [Bool.and_eq_true,decide_eq_true_eq,List.all_eq_true] at h
 exact h
set_option maxHeartbeats 8000000 in
set_option maxRecDepth 100000 in
theorem iNewN {W:World} (hT:Lib.Utf8Tabs 0 1 W) {x:Option Addr} {y:Nat} {T:List ByteArray} (hS:HoldsS W (.slice x T.length y) T) (hq:qOk T=true) {wi:Int} (hw:winOk wi=true) :
  Calls Tryz.prog 26 #[.slice x T.length y,.int .i64 wi] W fun e W'=>∃ B K,e=.returned (.pointer (some ⟨B,0,none⟩))∧MN W.heap.size B ⟨nl0 wi T,nl0 wi [],0,0⟩ 0 W' K∧Below W.heap.size W W':=by
 have C0:=hide fun v=>implLpNew wi v
 have HNW:=hide fun (y:World) (hb:Below W.heap.size W y)=>nt_new hT hb wi
 have hq2:=qOk_get hq
 have HS:=hide hS
 clear hS hT
 generalize hn:T.length=n at *
 go_enter Tryz.func26,Tryz.ntmps26
 go_wp2_with fail
 refine (uh C0 _).mono ?_
 rintro e w1 ⟨rfl,hb1⟩
 have HB1:=hide hb1
 clear hb1
 go_wp2_with (refine wpList_buildTo rfl 61 _ rfl (some 10) rfl (slC (lpNew wi) (.slice none 0 0) (.slice none 0 0) dm0 (.slice none 0 0)).toArray (by kernel_rfl) ?_)
 refine (uh C0 _).mono ?_
 rintro e w2 ⟨rfl,hb2⟩
 have HB2:=hide ((uh HB1).trans (hb2.mono (uh HB1).size))
 clear hb2 HB1 C0
 go_upto_region 2 with (first
  | (refine wpList_buildTo rfl 61 _ rfl (some 13) rfl (slC (lpNew wi) (.slice none 0 0) (.slice none 0 0) dm0 (.slice none 0 0)).toArray (by kernel_rfl) ?_)
  | (refine wpList_buildTo rfl 63 _ rfl (some 14) rfl (slC (lpNew wi) (.slice none 0 0) (.slice none 0 0) dm0 (.slice none 0 0) ++ slC (lpNew wi) (.slice none 0 0) (.slice none 0 0) dm0 (.slice none 0 0) ++ nwC 0 0 0).toArray (by kernel_rfl) ?_)
  | (refine Great.wpList_allocTo rfl (some 15) rfl (.pointer (some ⟨w2.heap.size,0,none⟩)) (.cells (slC (lpNew wi) (.slice none 0 0) (.slice none 0 0) dm0 (.slice none 0 0) ++ slC (lpNew wi) (.slice none 0 0) (.slice none 0 0) dm0 (.slice none 0 0) ++ nwC 0 0 0).toArray 63) (by simp [go_sem]) ?_))
 have H1:Hid (MN W.heap.size w2.heap.size ⟨nl0 wi [],nl0 wi [],0,0⟩ 0 (w2.alloc (.cells (slC (lpNew wi) (.slice none 0 0) (.slice none 0 0) dm0 (.slice none 0 0) ++ (slC (lpNew wi) (.slice none 0 0) (.slice none 0 0) dm0 (.slice none 0 0) ++ nwC 0 0 0)).toArray 63)) (K4 (.slice none 0 0) (.slice none 0 0) (.slice none 0 0) (.slice none 0 0))∧Below W.heap.size W (w2.alloc (.cells (slC (lpNew wi) (.slice none 0 0) (.slice none 0 0) dm0 (.slice none 0 0) ++ (slC (lpNew wi) (.slice none 0 0) (.slice none 0 0) dm0 (.slice none 0 0) ++ nwC 0 0 0)).toArray 63))):=hide (by
  have h1:=uh HNW w2 (uh HB2)
  rw [List.append_assoc] at h1
  exact ⟨h1,(uh HB2).trans (((Below.refl _ _).alloc (Nat.le_refl _) _).mono (uh HB2).size)⟩)
 clear HNW HB2
 generalize w2.alloc (.cells (slC (lpNew wi) (.slice none 0 0) (.slice none 0 0) dm0 (.slice none 0 0) ++ (slC (lpNew wi) (.slice none 0 0) (.slice none 0 0) dm0 (.slice none 0 0) ++ nwC 0 0 0)).toArray 63)=w3 at H1 ⊢
 generalize w2.heap.size=B at H1 ⊢
 generalize (slC (lpNew wi) (.slice none 0 0) (.slice none 0 0) dm0 (.slice none 0 0) ++ (slC (lpNew wi) (.slice none 0 0) (.slice none 0 0) dm0 (.slice none 0 0) ++ nwC 0 0 0))=c1
 generalize slC (lpNew wi) (.slice none 0 0) (.slice none 0 0) dm0 (.slice none 0 0)=c2
 generalize K4 (.slice none 0 0) (.slice none 0 0) (.slice none 0 0) (.slice none 0 0)=K0 at H1
 go_wp2_with fail
 go_loopw [18] (fun p wr=>∃ (i:Nat) (K':Nat→Prop),i≤n∧p=.int .i64 i∧MN W.heap.size B ⟨nl0 wi (T.take i),nl0 wi [],0,0⟩ 0 wr K'∧Below W.heap.size W wr) (fun p _=>n - (intOf p).toNat)
 case atStart=>exact ⟨0,K0,Nat.zero_le _,rfl,(uh H1).1,(uh H1).2⟩
 case round =>
  obtain ⟨i,K',hi,rfl,hM,hb⟩:=hrel
  clear H1
  by_cases hlt:i<n
  ·have d1:(i:Int)<(n:Int):=by omega
   have hiT:i<T.length:=by omega
   obtain ⟨g,o,ex,hgc⟩:∃ g o,x=some ⟨g,o,none⟩∧wr.cell? ⟨g,o+i,none⟩=some (.string T[i]):=by
    rcases uh HS with ⟨ad,cp,e,e2⟩ | ⟨g,o,cp,cur,e,q1,q3⟩
    ·rw [e2] at hn;simp at hn;omega
    ·injection e with e _ _
     refine ⟨g,o,e,?_⟩
     rw [cr ((hb.block g (Array.getElem?_eq_some_iff.1 q1).1).trans q1)]
     exact q3 i hiT
   subst ex
   have hti:=hq2.2 T[i] (List.getElem_mem hiT)
   have HST:Hid (T.take (i+1)=T.take i ++ [T[i]]):=hide (List.take_append_getElem hiT).symm
   have hq9:=qOk_take hq i
   have hl9:(T.take i).length<20:=by rw [List.length_take];omega
   generalize T[i]=t at *
   generalize T.take i=L at *
   obtain ⟨hfp,hfine,hoe⟩:=follow_put hw hq9 hl9 hti
   obtain ⟨qa,la,ga,qb,lb,gb,hN,rfl⟩:=hM
   have hd:=hN.step (Below.refl wr.heap.size wr).drew
   obtain ⟨qad,qc,rfl⟩:=own_form hN.sa.hq
   have rg:wr.drew.rangeAt B 0 (lpC (nl0 wi L).p (.slice qad (nl0 wi L).Q.length qc)).toList:=hd.sa.lp
   have CN:=hide (iPutL (nl0 wi L).p qad qc (nl0 wi L).Q t wr.drew (by show L.length≤1048576;omega) (by omega) (HoldsT.own hd.sa.hq).s)
   have HD:=hide hd
   have HX:=hide (And.intro hfine hoe)
   have HFP:=hide hfp
   generalize putLF (nl0 wi L).p (nl0 wi L).Q t=a at *
   have HBB:=hide hb
   clear hN hd hfine hoe hfp hb hq9 hl9
   go_upto_region 5 with fail
   refine wp_region_held_drew (S:=fun _=>True) (by kernel_rfl) trivial (fun hHeld=>?_)
   refine t2 0 ?_
   refine t2 1 ?_
   refine t2 2 ?_
   refine t2 3 ?_
   refine t2 4 ?_
   refine t2 5 ?_
   refine t2 6 ?_
   refine t2 8 ?_
   refine r1 7 rfl (fun K hK=>?_)
   rw [if_pos (by rfl)]
   refine wp_load_mid 54 (.tmp 28) rfl B 0 rfl (lpC (nl0 wi L).p (.slice qad (nl0 wi L).Q.length qc)).toList _ rg Tryz.underlying54 rfl (by exact infoL6) ?_
   refine ro hK trivial fun _=>?_
   clear hK K
   refine r1 9 rfl (fun K hK=>?_)
   go_simp
   refine (uh CN).mono ?_
   rintro e q ⟨v,vf,vgo,rfl,h1,h2,h3,h4,h5⟩
   have CF:=hide (wFollow (uh HD) (Nat.zero_le _) h1 h2 h3 h4 h5 (uh HX).1 (uh HX).2)
   clear h1 h2 h3 h4 h5 CN
   refine ro hK trivial fun _=>?_
   clear hK K
   refine r1 10 rfl (fun K hK=>?_)
   go_simp
   refine (uh CF).mono ?_
   rintro e W' ⟨rfl,K',hm,hf⟩
   have hbn:Below W.heap.size W W':=(uh HBB).trans (((Below.refl W.heap.size wr).drew).trans (hf.low (fun k e=>by rw [e];exact (uh HD).bB) (fun k hk=>((uh HD).kk k hk).1) (uh HD).sa.bs))
   have HF:=hide (And.intro hm hbn)
   clear hm hf CF hbn
   refine ro hK trivial fun _=>?_
   clear hK K
   refine dn ?_ _
   go_wp2_with fail
   go_roundw
   case rel =>
    refine ⟨i+1,K',by omega,by go_num,?_,(uh HF).2⟩
    have h1:=(uh HF).1
    dsimp only at h1
    rw [uh HFP] at h1
    rw [uh HST]
    exact h1
   case measure=>simp [intOf];omega
  ·have e:i=n:=by omega
   subst e
   have d1:¬ ((i:Int)<(i:Int)):=by omega
   rw [show T.take i=T by rw [← hn];exact List.take_length] at hM
   have HM:=hide (And.intro hM hb)
   clear hM hb
   go_wp2_with fail
   go_ret
   exact ⟨B,rfl,⟨K',(uh HM).1⟩,(uh HM).2⟩
end Go.Proofs.YtkcghhkkepndnaaGreatDoor
