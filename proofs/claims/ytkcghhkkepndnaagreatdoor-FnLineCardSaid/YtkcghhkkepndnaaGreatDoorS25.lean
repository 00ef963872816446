/- The program's LapbHear; what lay in memory stands. Plain mathematics of the Lapb law: an answer that is given is right, its lists are short, what is sent is numbered; a frame comes back from its bytes. PppPack, the program's and the model's, of any number and text; what lay in memory stands. -/
import Derived.Test.YtkcghhkkepndnaaGreatDoorS24
import Derived.Test.YtkcghhkkepndnaaGreatDoorS12
import Derived.Test.YtkcghhkkepndnaaGreatDoorS23
import Derived.Test.YtkcghhkkepndnaaGreatDoorS11
import Derived.Test.YtkcghhkkepndnaaGreatDoorS15
import Derived.Test.YtkcghhkkepndnaaGreatDoorS21
import Derived.Test.YtkcghhkkepndnaaGreatDoorShW
set_option maxRecDepth 100000
namespace Go.Proofs.YtkcghhkkepndnaaGreatDoor
open Go.RowKit
set_option maxHeartbeats 16000000 in
set_option linter.unusedSimpArgs false in
theorem iHearL (p:Lp) (x:Option Addr) (y:Nat) (L:List ByteArray) (f:Nb) (w:World) (hl:L.length≤1048576) (h:HoldsS w (.slice x L.length y) L) :
  Calls Tryz.prog 95 #[.agg (lpC p (.slice x L.length y)),nbV f] w fun e q=>AnsL w (hearLF p L f) e q:=by
 have C1:=hide fun W (hb:Below w.heap.size w W)=>iLpRight p x y L W hl (h.below hb)
 have C0:=hide fun W=>iNbRight f W
 obtain ⟨hN0,hN1,hN2,hbW,hsW⟩:=new3l w (.cells (lpC p (.slice x L.length y)) 54) (.cells #[.int .i64 f.kind,.int .i64 f.ns,.int .i64 f.nr,.string f.text] 96) (.cells #[.int .i64 0,.int .i64 0,.int .i64 0,.int .i64 0,.slice none 0 0,.bool false,.slice none 0 0,.slice none 0 0,.int .i64 0] 79)
 have HS:=hide h
 unfold hearLF
 clear h
 cases hk:lpOk p L
 ·rw [if_neg (by simp)]
  rw [hk] at C1
  clear HS hk C0
  generalize L.length=n at *
  obtain ⟨wi,vs,va,vr,ak⟩:=p
  obtain ⟨kf,nf,rf,t⟩:=f
  unfold lpC at hN0 hN1 hN2 hbW hsW C1 ⊢
  dsimp only [nbV] at *
  have H0:=hide (And.intro hN0 (And.intro hN1 (And.intro hN2 hbW)))
  clear hN0 hN1 hN2 hbW hsW
  go_enter Tryz.func95,Tryz.ntmps95
  go_wp2_with fail
  refine (uh C1 _ (uh H0).2.2.2).mono ?_
  rintro e w1 ⟨rfl,hb1⟩
  have H1:=hide (And.intro ((hb1.block _ (Array.getElem?_eq_some_iff.1 (uh H0).1).1).trans (uh H0).1) (And.intro ((hb1.block _ (Array.getElem?_eq_some_iff.1 (uh H0).2.1).1).trans (uh H0).2.1) (And.intro ((hb1.block _ (Array.getElem?_eq_some_iff.1 (uh H0).2.2.1).1).trans (uh H0).2.2.1) ((uh H0).2.2.2.trans (hb1.mono (uh H0).2.2.2.size)))))
  obtain ⟨b0,b1,b2,b3,b4,b5⟩:=row6l (uh H1).1
  obtain ⟨m0,m1,m2,m3⟩:=row4h (uh H1).2.1
  obtain ⟨r0,r1,r2,r3,r4,r5,r6,r7,r8⟩:=row9l (uh H1).2.2.1
  obtain ⟨f0,f1,f2,f3,f4,f5,f6,f7,f8⟩:=frz9l (uh H1).2.2.1
  clear hb1 H0 C1
  go_wp2
  obtain ⟨_,_,k2,hB1⟩:=uh H1
  refine bodyPost_ret (v:=.agg (loC lpZero (.slice none 0 0) (.slice none 0 0) (.slice none 0 0) 1)) (by simp [results,Tryz.results95,asAddr,loC,lpZero,loadLo (set9_lo k2 _ _ _ _ _ _ _ _ _)]) rfl ?_
  exact ⟨.slice none 0 0,.slice none 0 0,.slice none 0 0,rfl,World.ownsRow_nil _ _ _ _,World.ownsRow_nil _ _ _ _,World.ownsRow_nil _ _ _ _,(fun g hg=>by cases hg),set9_bl hB1 (by omega) _ _ _ _ _ _ _ _ _⟩
 rw [hk] at C1
 cases hf:nbOk f
 ·rw [if_neg (by simp)]
  rw [hf] at C0
  clear HS hk hf
  generalize L.length=n at *
  obtain ⟨wi,vs,va,vr,ak⟩:=p
  obtain ⟨kf,nf,rf,t⟩:=f
  unfold lpC at hN0 hN1 hN2 hbW hsW C1 ⊢
  dsimp only [nbV] at *
  have H0:=hide (And.intro hN0 (And.intro hN1 (And.intro hN2 hbW)))
  clear hN0 hN1 hN2 hbW hsW
  go_enter Tryz.func95,Tryz.ntmps95
  go_wp2_with fail
  refine (uh C1 _ (uh H0).2.2.2).mono ?_
  rintro e w1 ⟨rfl,hb1⟩
  have H1:=hide (And.intro ((hb1.block _ (Array.getElem?_eq_some_iff.1 (uh H0).1).1).trans (uh H0).1) (And.intro ((hb1.block _ (Array.getElem?_eq_some_iff.1 (uh H0).2.1).1).trans (uh H0).2.1) (And.intro ((hb1.block _ (Array.getElem?_eq_some_iff.1 (uh H0).2.2.1).1).trans (uh H0).2.2.1) ((uh H0).2.2.2.trans (hb1.mono (uh H0).2.2.2.size)))))
  obtain ⟨b0,b1,b2,b3,b4,b5⟩:=row6l (uh H1).1
  obtain ⟨m0,m1,m2,m3⟩:=row4h (uh H1).2.1
  clear hb1 H0 C1
  go_wp2_with fail
  refine (uh C0 _).mono ?_
  rintro e w2 ⟨rfl,hb1⟩
  have H2:=hide (And.intro ((hb1.block _ (Array.getElem?_eq_some_iff.1 (uh H1).1).1).trans (uh H1).1) (And.intro ((hb1.block _ (Array.getElem?_eq_some_iff.1 (uh H1).2.1).1).trans (uh H1).2.1) (And.intro ((hb1.block _ (Array.getElem?_eq_some_iff.1 (uh H1).2.2.1).1).trans (uh H1).2.2.1) ((uh H1).2.2.2.trans (hb1.mono (uh H1).2.2.2.size)))))
  clear b0 b1 b2 b3 b4 b5 m0 m1 m2 m3
  obtain ⟨b0,b1,b2,b3,b4,b5⟩:=row6l (uh H2).1
  obtain ⟨m0,m1,m2,m3⟩:=row4h (uh H2).2.1
  obtain ⟨r0,r1,r2,r3,r4,r5,r6,r7,r8⟩:=row9l (uh H2).2.2.1
  obtain ⟨f0,f1,f2,f3,f4,f5,f6,f7,f8⟩:=frz9l (uh H2).2.2.1
  clear hb1 H1 C0
  go_wp2
  obtain ⟨_,_,k2,hB1⟩:=uh H2
  refine bodyPost_ret (v:=.agg (loC lpZero (.slice none 0 0) (.slice none 0 0) (.slice none 0 0) 1)) (by simp [results,Tryz.results95,asAddr,loC,lpZero,loadLo (set9_lo k2 _ _ _ _ _ _ _ _ _)]) rfl ?_
  exact ⟨.slice none 0 0,.slice none 0 0,.slice none 0 0,rfl,World.ownsRow_nil _ _ _ _,World.ownsRow_nil _ _ _ _,World.ownsRow_nil _ _ _ _,(fun g hg=>by cases hg),set9_bl hB1 (by omega) _ _ _ _ _ _ _ _ _⟩
 rw [hf] at C0
 rw [if_pos ⟨rfl,rfl⟩]
 have hr:=lpRt hk
 have hfr:=of_decide_eq_true hf
 have CA:=hide fun v=>iFar f.nr p.va hfr.1 hr.va v
 have CB:=hide fun v=>iFar p.vs p.va hr.vs hr.va v
 obtain ⟨l1,u1⟩:=far_lt f.nr p.va
 obtain ⟨l2,u2⟩:=far_lt p.vs p.va
 by_cases hg:far p.vs p.va<far f.nr p.va
 ·rw [if_pos hg]
  clear HS hk hf hr hfr
  generalize hfa:far f.nr p.va=fa at *
  generalize hfb:far p.vs p.va=fb at *
  clear hfa hfb
  generalize L.length=n at *
  obtain ⟨wi,vs,va,vr,ak⟩:=p
  obtain ⟨kf,nf,rf,t⟩:=f
  unfold lpC at hN0 hN1 hN2 hbW hsW C1 ⊢
  dsimp only [nbV] at *
  have H0:=hide (And.intro hN0 (And.intro hN1 (And.intro hN2 hbW)))
  clear hN0 hN1 hN2 hbW hsW
  go_enter Tryz.func95,Tryz.ntmps95
  go_wp2_with fail
  refine (uh C1 _ (uh H0).2.2.2).mono ?_
  rintro e w1 ⟨rfl,hb1⟩
  have H1:=hide (And.intro ((hb1.block _ (Array.getElem?_eq_some_iff.1 (uh H0).1).1).trans (uh H0).1) (And.intro ((hb1.block _ (Array.getElem?_eq_some_iff.1 (uh H0).2.1).1).trans (uh H0).2.1) (And.intro ((hb1.block _ (Array.getElem?_eq_some_iff.1 (uh H0).2.2.1).1).trans (uh H0).2.2.1) ((uh H0).2.2.2.trans (hb1.mono (uh H0).2.2.2.size)))))
  obtain ⟨b0,b1,b2,b3,b4,b5⟩:=row6l (uh H1).1
  obtain ⟨m0,m1,m2,m3⟩:=row4h (uh H1).2.1
  clear hb1 H0 C1
  go_wp2_with fail
  refine (uh C0 _).mono ?_
  rintro e w2 ⟨rfl,hb1⟩
  have H2:=hide (And.intro ((hb1.block _ (Array.getElem?_eq_some_iff.1 (uh H1).1).1).trans (uh H1).1) (And.intro ((hb1.block _ (Array.getElem?_eq_some_iff.1 (uh H1).2.1).1).trans (uh H1).2.1) (And.intro ((hb1.block _ (Array.getElem?_eq_some_iff.1 (uh H1).2.2.1).1).trans (uh H1).2.2.1) ((uh H1).2.2.2.trans (hb1.mono (uh H1).2.2.2.size)))))
  clear b0 b1 b2 b3 b4 b5 m0 m1 m2 m3
  obtain ⟨b0,b1,b2,b3,b4,b5⟩:=row6l (uh H2).1
  obtain ⟨m0,m1,m2,m3⟩:=row4h (uh H2).2.1
  obtain ⟨r0,r1,r2,r3,r4,r5,r6,r7,r8⟩:=row9l (uh H2).2.2.1
  obtain ⟨f0,f1,f2,f3,f4,f5,f6,f7,f8⟩:=frz9l (uh H2).2.2.1
  clear hb1 H1 C0
  go_wp2_with fail
  go_quiet (first
   | (go_at_call 83;exact Calls.quiet_of_same (uh CA _))
   | (go_at_call 83;exact Calls.quiet_of_same (uh CB _)))
  go_wp2
  obtain ⟨_,_,k2',hB0⟩:=uh H2
  have k2:(w2.drewN nq).heap[w.heap.size+1+1]?=_:=k2'
  have hB1:Below w.heap.size w (w2.drewN nq):=⟨hB0.os,hB0.tape,hB0.output,hB0.size,hB0.block⟩
  refine bodyPost_ret (v:=.agg (loC lpZero (.slice none 0 0) (.slice none 0 0) (.slice none 0 0) 5)) (by simp [results,Tryz.results95,asAddr,loC,lpZero,loadLo (set9_lo k2 _ _ _ _ _ _ _ _ _)]) rfl ?_
  exact ⟨.slice none 0 0,.slice none 0 0,.slice none 0 0,rfl,World.ownsRow_nil _ _ _ _,World.ownsRow_nil _ _ _ _,World.ownsRow_nil _ _ _ _,(fun g hg=>by cases hg),set9_bl hB1 (by omega) _ _ _ _ _ _ _ _ _⟩
 rw [if_neg hg]
 exact iHearM p x y L f w hl (uh HS) hk hf (by omega)
theorem lpOk_of {p:Lp} {L:List ByteArray} (h:LpRt p L):lpOk p L=true:=by
 unfold lpOk qOk winOk numOk
 simp only [Bool.and_eq_true,decide_eq_true_eq,List.all_eq_true]
 exact ⟨h.wi,h.vs,h.va,h.vr,⟨h.l20,h.z⟩,h.fw,h.fl⟩
structure Fine (o:LO):Prop where
 q:o.Q.length≤20
 s:o.sn.length≤7
 g:o.gt.length≤1
 ok:o.cd=0→lpOk o.p o.Q=true
theorem fine_err (k:Int) (hk:k≠0):Fine (loErr k):=⟨Nat.zero_le _,Nat.zero_le _,Nat.zero_le _,fun h=>absurd h hk⟩
theorem fine_put (p:Lp) (L:List ByteArray) (t:ByteArray):Fine (putLF p L t):=by
 unfold putLF
 split
 ·exact fine_err _ (by decide)
 ·split
  ·rename_i h
   split
   ·exact fine_err _ (by decide)
   ·rename_i h20
    have r:=lpRt h.1
    have l:=r.l20
    refine ⟨by simp;omega,Nat.zero_le _,Nat.zero_le _,fun _=>lpOk_of ⟨r.wi,r.vs,r.va,r.vr,by simp;omega,fun x hx=>?_,r.fw,?_⟩⟩
    ·rcases List.mem_append.1 hx with hx | hx
     ·exact r.z x hx
     ·rw [List.mem_singleton.1 hx];exact h.2
    ·have:=r.fl
     rw [List.length_append]
     simp
     omega
  ·exact fine_err _ (by decide)
theorem fine_again (p:Lp) (L:List ByteArray):Fine (againF p L):=by
 unfold againF
 split
 ·rename_i h
  have r:=lpRt h
  have e:far p.va p.va=0:=by unfold far;omega
  exact ⟨r.l20,Nat.zero_le _,Nat.zero_le _,fun _=>lpOk_of ⟨r.wi,r.va,r.va,r.vr,r.l20,r.z,by show far p.va p.va≤p.wi;have:=r.wi;omega,by show far p.va p.va≤(L.length:Int);omega⟩⟩
 ·exact fine_err _ (by decide)
theorem nextM_le {p:Lp} {L:List ByteArray} (r:LpRt p L):nextM p L≤7:=by
 have:=r.wi
 unfold nextM
 omega
theorem fine_next (p:Lp) (L:List ByteArray):Fine (nextF p L):=by
 unfold nextF
 split
 ·rename_i h
  have r:=lpRt h
  have hm:=nextM_le r
  have hk:=sentN_eq (p:=p)
  have h1:=r.fw
  have h2:=r.fl
  have h3:=r.wi
  have h4:=r.vs
  have h5:=r.va
  have hf:far ((p.vs+(nextM p L:Nat)) % 8) p.va=far p.vs p.va+nextM p L:=by
   unfold nextM
   unfold far at *
   omega
  refine ⟨r.l20,by rw [outs_len];exact hm,Nat.zero_le _,fun _=>lpOk_of ⟨r.wi,by dsimp only;omega,r.va,r.vr,r.l20,r.z,?_,?_⟩⟩
  ·dsimp only
   rw [hf]
   unfold nextM
   omega
  ·dsimp only
   rw [hf]
   unfold nextM
   omega
 ·exact fine_err _ (by decide)
theorem fine_hear (p:Lp) (L:List ByteArray) (f:Nb):Fine (hearLF p L f):=by
 unfold hearLF
 split
 ·rename_i h
  split
  ·exact fine_err _ (by decide)
  ·rename_i hfar
   have r:=lpRt h.1
   have hn:=of_decide_eq_true h.2
   have hl:=r.l20
   have h1:=r.fw
   have h2:=r.fl
   have h3:=r.wi
   have h4:=r.vs
   have h5:=r.va
   have h6:=r.vr
   have hd:(L.drop (far f.nr p.va).toNat).length=L.length - (far f.nr p.va).toNat:=List.length_drop
   have hz:∀ t ∈ L.drop (far f.nr p.va).toNat,t.size≤200:=fun t ht=>r.z t (List.mem_of_mem_drop ht)
   have hq:(L.drop (far f.nr p.va).toNat).length≤20:=by omega
   have f0:far f.nr f.nr=0:=by unfold far;omega
   have f1:far p.vs f.nr=far p.vs p.va - far f.nr p.va:=by unfold far at *;omega
   have f2:0≤far f.nr p.va:=by unfold far;omega
   have f3:0≤far p.vs f.nr:=by unfold far;omega
   have hr:∀ (vr:Int) (ak:Bool),0≤vr∧vr≤7→lpOk ⟨p.wi,p.vs,f.nr,vr,ak⟩ (L.drop (far f.nr p.va).toNat)=true:=fun vr ak hv =>
    lpOk_of ⟨h3,h4,hn.1,hv,hq,hz,by show far p.vs f.nr≤p.wi;omega,by show far p.vs f.nr≤((L.drop (far f.nr p.va).toNat).length:Int);omega⟩
   unfold hearG
   split
   ·exact ⟨hq,Nat.zero_le _,Nat.zero_le _,fun _=>lpOk_of ⟨h3,hn.1,hn.1,h6,hq,hz,by show far f.nr f.nr≤p.wi;omega,by show far f.nr f.nr≤((L.drop (far f.nr p.va).toNat).length:Int);omega⟩⟩
   ·split
    ·unfold takeP
     dsimp only
     split
     ·exact ⟨hq,by simp,by simp,fun _=>hr _ _ (by omega)⟩
     ·split
      ·exact ⟨hq,by simp,by simp,fun _=>hr _ _ h6⟩
      ·exact ⟨hq,by simp,by simp,fun _=>hr _ _ h6⟩
    ·exact ⟨hq,Nat.zero_le _,Nat.zero_le _,fun _=>hr _ _ h6⟩
 ·exact fine_err _ (by decide)
theorem read_told {f:Nb} (h:nbOk f=true):nbRead (nbTold f)=f:=by
 obtain ⟨a,ha,hnr,hk⟩:=nb_three h
 have e:(nbTold f).data.toList=nbByte f :: f.text.data.toList:=by rw [told_yes h];simp [txt]
 have et:txt f.text.data.toList=f.text:=by apply ByteArray.ext;simp [txt]
 have es:nbSay (nbByte f) f.text=f:=by
  obtain ⟨kd,ns,nr,t⟩:=f
  dsimp only at *
  unfold nbSay
  rcases hk with ⟨b,hb,rfl,rfl,_,hc⟩ | ⟨rfl,rfl,rfl,hc⟩ | ⟨rfl,rfl,rfl,hc⟩
  ·rw [if_neg (by omega),if_neg (by omega),if_pos (by omega)]
   rw [show ((nbByte ⟨1,(b:Int),nr,t⟩).toNat % 32 / 2:Nat)=b by omega,show ((nbByte ⟨1,(b:Int),nr,t⟩).toNat / 32:Nat)=a by omega,hnr]
  ·rw [if_pos (by omega),show ((nbByte ⟨2,0,nr,⟨#[]⟩⟩).toNat / 32:Nat)=a by omega,hnr]
  ·rw [if_neg (by omega),if_pos (by omega),show ((nbByte ⟨3,0,nr,⟨#[]⟩⟩).toNat / 32:Nat)=a by omega,hnr]
 unfold nbRead
 rw [e]
 dsimp only
 rw [et,es,if_pos h]
end Go.Proofs.YtkcghhkkepndnaaGreatDoor
set_option maxRecDepth 100000
namespace Go.Proofs.YtkcghhkkepndnaaGreatDoor
open Go.RowKit
def packV (x:Int) (t:ByteArray) (a p:Bool):ByteArray:=txt (Pp.pack x t.data.toList a p)
theorem len_data (t:ByteArray):t.data.toList.length=t.size:=by rw [Array.length_toList];rfl
theorem packV_no {x:Int} {t:ByteArray} {a p:Bool} (h:¬ (t.size≤8000∧Pp.ok x=true)):packV x t a p=⟨#[]⟩:=by
 unfold packV Pp.pack
 rw [len_data,if_neg h]
 rfl
theorem txt_append (l m:List UInt8):txt (l ++ m)=txt l ++ txt m:=by
 apply ByteArray.ext
 simp [txt]
theorem packV_yes {k:Nat} {t:ByteArray} {a p:Bool} (h:t.size≤8000) (ho:Pp.ok (k:Int)=true) (hl:(Pp.head k a p).length+t.size≤8000):packV k t a p=txt (Pp.head k a p) ++ t:=by
 unfold packV Pp.pack
 rw [len_data,if_pos ⟨h,ho⟩,Int.toNat_natCast,if_pos hl,txt_append]
 rfl
theorem packV_long {k:Nat} {t:ByteArray} {a p:Bool} (h:t.size≤8000) (ho:Pp.ok (k:Int)=true) (hl:¬ ((Pp.head k a p).length+t.size≤8000)):packV k t a p=⟨#[]⟩:=by
 unfold packV Pp.pack
 rw [len_data,if_pos ⟨h,ho⟩,Int.toNat_natCast,if_neg hl]
 rfl
theorem str_vals (t:ByteArray):Lib.strCells t=vals t.data.toList:=by
 simp [Lib.strCells,vals,nums]
theorem str_append {w:World} {ops:Array Oper} {rest:List Oper} {o:Oper} {a:Act} {Q:Exit→Act→World→Prop} (hgd:o.guard=none) (s x:Operand)
  (ho:o.op=.call { callee:=.builtin .append,args:=#[s,x],argTypes:=#[22,9] })
  (base:Nat) (v:Value) (L:List UInt8) (hs:a.eval s=v) (hown:w.ownsRow base 5 1 v L.length (vals L)) (t:ByteArray) (hx:a.eval x=.string t) (hlen:L.length+t.size≤1000000) (hbase:base≤w.heap.size)
  (h:∀ v' w',w'.ownsRow base 5 1 v' (L.length+t.size) (vals (L ++ t.data.toList))→Below base w w'→wpList Tryz.prog ops Q rest (a.put o.dst v') w'):wpList Tryz.prog ops Q (o :: rest) a w:=by
 obtain ⟨ui,hi1,hi2,hi3,hi4⟩:=u8info
 refine Lib.wpList_append_own_string w hgd s x 22 9 ho base 5 ui Tryz.underlying22 Tryz.underlying9 hi1 hi2 hi3 hi4 v L.length (vals L) hs hown t hx (by unfold maxLen;omega) (by omega) hbase ?_
 intro v' w' h1 h2 _
 refine h v' w' ?_ ((Below.refl _ _).grown h2 hbase (fun q hq=>(World.ownsRow.lt hown q hq).1))
 rw [vals_append,← str_vals]
 exact h1
set_option maxHeartbeats 1000000 in
theorem implPackAll (x:Int) (t:ByteArray) (a p:Bool) (w:World) (ht:t.size≤maxLen) :
  Calls Tryz.prog 79 #[.int .i64 x,.string t,.bool a,.bool p] w fun e w'=>e=.returned (.string (packV x t a p))∧Below w.heap.size w w':=by
 unfold maxLen at ht
 have c1:=implProto x w
 by_cases h8:t.size≤8000
 ·have d0:¬ ((8000:Int)<(t.size:Int)):=by omega
  cases hok:Pp.ok x
  ·rw [packV_no (fun h=>by rw [hok] at h;cases h.2)]
   rw [hok] at c1
   go_enter Tryz.func79,Tryz.ntmps79
   go_wp2_with (first
    | (go_at_call 106;refine c1.mono ?_;rintro e w1 ⟨rfl,rfl⟩))
   go_ret
   exact ⟨rfl,Below.refl _ _⟩
  ·rw [hok] at c1
   obtain ⟨k,rfl,hk,_,_⟩:=Pp.ok_get hok
   have C2:=hide fun w=>pairOf k hk w
   have C3:=hide fun w=>implHead k a p w hk
   have hl4:=(Pp.head_len k a p).2
   by_cases hl:(Pp.head k a p).length+t.size≤8000
   case' pos=>rw [packV_yes h8 hok hl]
   case' neg=>rw [packV_long h8 hok hl]
   all_goals
    generalize Pp.head k a p=L at *
    first
     | (have dl:¬ ((8000:Int)<(L.length:Int)+(t.size:Int)):=by omega)
     | (have dl:(8000:Int)<(L.length:Int)+(t.size:Int):=by omega)
    go_enter Tryz.func79,Tryz.ntmps79
    go_wp2_with (first
     | (go_at_call 106;refine c1.mono ?_;rintro e w1 ⟨rfl,hw⟩;replace hw:=hw.symm;subst hw)
     | (go_at_call 108;refine (uh C2 _).mono ?_;rintro e w2 ⟨rfl,hw2⟩;have hb2:Below w.heap.size w w2:=by { rw [hw2];exact (Below.refl _ _).alloc (Nat.le_refl _) _ };clear hw2)
     | (go_at_call 107;refine (uh C3 _).mono ?_;rintro e w3 ⟨v3,rfl,ho3,hb3⟩;have HO3:=hide ho3;clear ho3)
     | (at_builtin;refine str_append rfl _ _ rfl w2.heap.size v3 L rfl (uh HO3) t rfl (by omega) hb3.size ?_;rintro v4 w4 ho4 hb4;obtain ⟨ad,cp,rfl⟩:=own_form ho4;have hcv:=own_conv ho4;clear ho4 HO3))
    go_ret
    refine ⟨?_,(hb2.trans (hb3.mono hb2.size)).trans (hb4.mono hb2.size)⟩
    first
     | rfl
     | (rw [txt_append];rfl)
 ·rw [packV_no (fun h=>h8 h.1)]
  have d0:(8000:Int)<(t.size:Int):=by omega
  go_enter Tryz.func79,Tryz.ntmps79
  go_wp2
  go_ret
  exact ⟨rfl,Below.refl _ _⟩
end Go.Proofs.YtkcghhkkepndnaaGreatDoor
