/- LapbNext, the program's; what lay in memory stands. PppUnpack, the model's: of any text what is read; what lay in memory stands. Texts and numbers that were handed in, opened; no condition. -/
import Derived.Test.YtkcghhkkepndnaaGreatDoorS10
import Derived.Test.YtkcghhkkepndnaaGreatDoorS07
import Derived.Test.YtkcghhkkepndnaaGreatDoorS00
import Derived.Deep.DeepCutAuto
import Derived.Test.YtkcghhkkepndnaaGreatDoorS03
import Derived.Test.YtkcghhkkepndnaaGreatDoorS06
import Derived.ProofKit
import Derived.Lay
import Derived.MakeChecks
import Derived.Carry
import Derived.SliceStrings
import Derived.ChangeSlices
import Derived.Test.YtkcghhkkepndnaaGreatDoorShW
namespace Go.Proofs.YtkcghhkkepndnaaGreatDoor
open Go.RowKit
def nextM (p:Lp) (L:List ByteArray):Nat:=min (p.wi.toNat - sentN p) (L.length - sentN p)
def nextF (p:Lp) (L:List ByteArray):LO:=if lpOk p L=true then ⟨⟨p.wi,(p.vs+(nextM p L:Nat)) % 8,p.va,p.vr,p.ak⟩,L,outs p.vs p.vr (L.drop (sentN p)) (nextM p L),[],0⟩ else loErr 1
theorem fill_of {W1:World} {B M:Nat} {p:Lp} {L:List ByteArray} {vq:Value} {q:World} (hL:Lw W1 B M p (L.take (sentN p)) (L.drop (sentN p)) [] [] vq (.slice none 0 0) (.slice none 0 0) q) (hr:LpRt p L) :
  Calls Tryz.prog 88 #[.pointer (some ⟨B,0,none⟩)] q fun e q'=>e=.returned (.tuple #[])∧∃ vq' vf',Lw W1 B M ⟨p.wi,(p.vs+(nextM p L:Nat)) % 8,p.va,p.vr,p.ak⟩ (L.take (sentN p) ++ (L.drop (sentN p)).take (nextM p L)) ((L.drop (sentN p)).drop (nextM p L)) (outs p.vs p.vr (L.drop (sentN p)) (nextM p L)) [] vq' vf' (.slice none 0 0) q':=by
 have hk:=sentN_eq (p:=p)
 have h1:=hr.fw
 have h2:=hr.fl
 have h3:=hr.va
 have h4:=hr.vs
 have hl:(L.take (sentN p)).length=sentN p:=by rw [List.length_take];omega
 refine iFill hL hr.va hr.wi (by rw [hl];omega) (by rw [hl];unfold far at hk;omega) (by rw [List.length_drop];have:=hr.l20;omega) (fun t ht=>by have:=hr.z t (List.mem_of_mem_drop ht);omega) (nextM p L) (by rw [hl,List.length_drop];rfl)
theorem out_of {W1:World} {B M:Nat} {p:Lp} {L:List ByteArray} {vq' vf':Value} {q:World} (hL:Lw W1 B M ⟨p.wi,(p.vs+(nextM p L:Nat)) % 8,p.va,p.vr,p.ak⟩ (L.take (sentN p) ++ (L.drop (sentN p)).take (nextM p L)) ((L.drop (sentN p)).drop (nextM p L)) (outs p.vs p.vr (L.drop (sentN p)) (nextM p L)) [] vq' vf' (.slice none 0 0) q) (hr:LpRt p L) :
  Calls Tryz.prog 61 #[.pointer (some ⟨B,0,none⟩)] q fun e q'=>AnsL W1 ⟨⟨p.wi,(p.vs+(nextM p L:Nat)) % 8,p.va,p.vr,p.ak⟩,L,outs p.vs p.vr (L.drop (sentN p)) (nextM p L),[],0⟩ e q':=by
 have hk:=sentN_eq (p:=p)
 have h1:=hr.fw
 have h2:=hr.wi
 have hm:nextM p L≤p.wi.toNat - sentN p:=Nat.min_le_left _ _
 have e:(L.take (sentN p) ++ (L.drop (sentN p)).take (nextM p L)) ++ (L.drop (sentN p)).drop (nextM p L)=L:=by rw [List.append_assoc,List.take_append_drop,List.take_append_drop]
 have:=iOutL hL hr.va (by rw [List.length_append,List.length_take,List.length_take];omega) (by rw [List.length_drop,List.length_drop];have:=hr.l20;omega)
 rw [e] at this
 exact this
set_option maxHeartbeats 8000000 in
theorem iNextL (p:Lp) (x:Option Addr) (y:Nat) (L:List ByteArray) (w:World) (hl:L.length≤1048576) (h:HoldsS w (.slice x L.length y) L) :
  Calls Tryz.prog 62 #[.agg (lpC p (.slice x L.length y))] w fun e q=>AnsL w (nextF p L) e q:=by
 have C1:=hide fun W (hb:Below w.heap.size w W)=>iLpRight p x y L W hl (h.below hb)
 obtain ⟨hN0,hN1,hbW,hsW⟩:=new2l w (.cells (lpC p (.slice x L.length y)) 54) (.cells #[.int .i64 0,.int .i64 0,.int .i64 0,.int .i64 0,.slice none 0 0,.bool false,.slice none 0 0,.slice none 0 0,.int .i64 0] 79)
 have HS:=hide h
 unfold nextF
 clear h
 cases hk:lpOk p L
 ·rw [if_neg (by decide)]
  rw [hk] at C1
  obtain ⟨wi,vs,va,vr,ak⟩:=p
  unfold lpC at hN0 hN1 hbW hsW C1 ⊢
  dsimp only at *
  have H0:=hide (And.intro hN1 hbW)
  clear hN0 hN1 hbW hsW HS hk
  generalize L.length=n at *
  go_enter Tryz.func62,Tryz.ntmps62
  go_wp2_with fail
  refine (uh C1 _ (uh H0).2).mono ?_
  rintro e w1 ⟨rfl,hb1⟩
  have k0:=(hb1.block (w.heap.size+1) (Array.getElem?_eq_some_iff.1 (uh H0).1).1).trans (uh H0).1
  have hB1:=(uh H0).2.trans (hb1.mono (uh H0).2.size)
  obtain ⟨r0,r1,r2,r3,r4,r5,r6,r7,r8⟩:=row9l k0
  obtain ⟨f0,f1,f2,f3,f4,f5,f6,f7,f8⟩:=frz9l k0
  have HX:=hide (And.intro k0 hB1)
  clear k0 hB1 hb1 H0 C1
  go_wp2
  obtain ⟨k0,hB1⟩:=uh HX
  refine bodyPost_ret (v:=.agg #[.int .i64 0,.int .i64 0,.int .i64 0,.int .i64 0,.slice none 0 0,.bool false,.slice none 0 0,.slice none 0 0,.int .i64 1]) (by simp [results,Tryz.results62,asAddr,loadLo (set9_lo k0 (.int .i64 0) (.int .i64 0) (.int .i64 0) (.int .i64 0) (.slice none 0 0) (.bool false) (.slice none 0 0) (.slice none 0 0) (.int .i64 1))]) rfl ?_
  exact ⟨.slice none 0 0,.slice none 0 0,.slice none 0 0,rfl,World.ownsRow_nil _ _ _ _,World.ownsRow_nil _ _ _ _,World.ownsRow_nil _ _ _ _,(fun g hg=>by cases hg),set9_bl hB1 (by omega) _ _ _ _ _ _ _ _ _⟩
 ·rw [if_pos rfl]
  rw [hk] at C1
  have hr:=lpRt hk
  have hS7:sentN p≤7:=by have:=sentN_eq (p:=p);have:=(far_lt p.vs p.va).2;omega
  have C2:=hide fun W (hb:Below w.heap.size w W)=>iWorkOn p x y L W hr ((uh HS).below hb)
  have HR:=hide hr
  have CF:=hide fun W1 B M vq q hL=>fill_of (W1:=W1) (B:=B) (M:=M) (vq:=vq) (q:=q) hL hr
  have CO0:=hide fun W1 B M vq' vf' q hL=>out_of (W1:=W1) (B:=B) (M:=M) (vq':=vq') (vf':=vf') (q:=q) hL hr
  generalize outs p.vs p.vr (L.drop (sentN p)) (nextM p L)=F at *
  generalize nextM p L=m at *
  obtain ⟨wi,vs,va,vr,ak⟩:=p
  unfold lpC at hN0 hN1 hbW hsW C1 C2 ⊢
  dsimp only at *
  obtain ⟨vz,hvz⟩:∃ vz,(vs+(m:Int)) % 8=vz:=⟨_,rfl⟩
  rw [hvz] at CF CO0 ⊢
  clear hvz
  obtain ⟨nf,hnf⟩:∃ nf,F.length=nf:=⟨_,rfl⟩
  have H0:=hide (And.intro hN0 (And.intro hN1 (And.intro hbW hsW)))
  clear hN0 hN1 hbW hsW HS hk hr
  generalize hn:L.length=n at *
  go_enter Tryz.func62,Tryz.ntmps62
  go_wp2_with fail
  refine (uh C1 _ (uh H0).2.2.1).mono ?_
  rintro e w1 ⟨rfl,hb1⟩
  have k0:=(hb1.block w.heap.size (Array.getElem?_eq_some_iff.1 (uh H0).1).1).trans (uh H0).1
  have kR1:=(hb1.block (w.heap.size+1) (Array.getElem?_eq_some_iff.1 (uh H0).2.1).1).trans (uh H0).2.1
  have hbW:=(uh H0).2.2.1.trans (hb1.mono (uh H0).2.2.1.size)
  have hsW:w.heap.size+2≤w1.heap.size:=by have:=hb1.size;rw [(uh H0).2.2.2] at this;exact this
  obtain ⟨a0,a1,a2,a3,a4,a5⟩:=row6l k0
  have H1:=hide (And.intro kR1 (And.intro hbW hsW))
  clear k0 kR1 hbW hsW hb1 H0 C1
  go_wp2_with fail
  refine (uh C2 _ (uh H1).2.1).mono ?_
  rintro e w2 ⟨rfl,vq,hL2⟩
  have C3:=hide (uh CF _ _ _ _ _ hL2)
  clear C2 a0 a1 a2 a3 a4 a5
  go_wp2_with fail
  refine (uh C3).mono ?_
  rintro e w3 ⟨rfl,vq',vf',hL3⟩
  have CO:=hide (uh CO0 _ _ _ _ _ _ hL3)
  clear C3 hL3
  go_wp2_with fail
  refine (uh CO).mono ?_
  rintro e q5 ⟨v,vf,vg,rfl,o1,o2,o3,hap,lo5⟩
  obtain ⟨va1,vc1,rfl⟩:=own_form o1
  dsimp only at o2
  rw [hnf] at o2
  obtain ⟨va2,vc2,rfl⟩:=own_form o2
  obtain ⟨va3,vc3,rfl⟩:=own_form o3
  have kR:=(lo5.block (w.heap.size+1) (by have:=(uh H1).2.2;omega)).trans (uh H1).1
  obtain ⟨r0,r1,r2,r3,r4,r5,r6,r7,r8⟩:=row9l kR
  obtain ⟨f0,f1,f2,f3,f4,f5,f6,f7,f8⟩:=frz9l kR
  have HX:=hide (And.intro o1 (And.intro o2 (And.intro o3 (And.intro hap (And.intro lo5 kR)))))
  clear o1 o2 o3 hap lo5 kR CO
  dsimp only [loC]
  go_wp2_with fail
  obtain ⟨o1,o2,o3,hap,lo5,kR⟩:=uh HX
  obtain ⟨_,hbW,hsW⟩:=uh H1
  refine bodyPost_ret (v:=.agg (loC ⟨wi,vz,va,vr,ak⟩ (.slice va1 L.length vc1) (.slice va2 nf vc2) (.slice va3 0 vc3) 0)) (by simp [results,Tryz.results62,asAddr,loC,hn,loadLo (set9_lo kR _ _ _ _ _ _ _ _ _)]) rfl ?_
  exact AnsL.put (o:=⟨⟨wi,vz,va,vr,ak⟩,L,F,[],0⟩) o1 (by rw [hnf];exact o2) o3 hap lo5 (by omega) (by omega) hbW _ _ _ _ _ _ _ _ _
def outV (o:Pp.Out):Value:=.agg #[.int .i64 o.proto,.string (txt o.text),.int .i64 o.code]
theorem len_dat (t:ByteArray):t.data.toList.length=t.size:=by rw [Array.length_toList];rfl
theorem rest_ways (t:ByteArray) (P:Prop) (h1:t.size<2→Pp.rest t.data.toList=t.data.toList→P)
  (h2:2≤t.size→t.data.toList.take 2≠[0xff,3]→Pp.rest t.data.toList=t.data.toList→P) (h3:2≤t.size→t.data.toList.take 2=[0xff,3]→Pp.rest t.data.toList=t.data.toList.drop 2→P):P:=by
 have hl:=len_dat t
 generalize t.data.toList=l at *
 rcases l with _ | ⟨c,_ | ⟨d,r⟩⟩
 ·exact h1 (by simp at hl;omega) rfl
 ·exact h1 (by simp at hl;omega) rfl
 ·have hs:2≤t.size:=by simp at hl;omega
  have hr:Pp.rest (c :: d :: r)=(if c=0xff∧d=3 then r else c :: d :: r):=rfl
  by_cases e:c=0xff∧d=3
  ·rw [if_pos e] at hr
   exact h3 hs (by simp [e]) hr
  ·rw [if_neg e] at hr
   exact h2 hs (by simpa using e) hr
theorem get_cons0 {U:ByteArray} (h:0<U.size):U.data.toList=U[0] :: U.data.toList.drop 1:=by
 have hl:=len_dat U
 exact List.drop_eq_getElem_cons (i:=0) (l:=U.data.toList) (by omega)
theorem get_cons1 {U:ByteArray} (h:1<U.size):U.data.toList=U[0] :: U[1] :: U.data.toList.drop 2:=by
 have hl:=len_dat U
 conv=>lhs;rw [get_cons0 (by omega)]
 congr 1
 exact List.drop_eq_getElem_cons (i:=1) (by omega)
theorem read_none {U:ByteArray} (h:U.size<1):Pp.read U.data.toList=⟨0,[],4⟩:=by
 have hl:=len_dat U
 rw [List.eq_nil_of_length_eq_zero (l:=U.data.toList) (by omega)]
 rfl
theorem read_odd {U:ByteArray} (h:0<U.size) (ho:U[0].toNat % 2=1):Pp.read U.data.toList=⟨U[0].toNat,U.data.toList.drop 1,0⟩:=by
 conv=>lhs;rw [get_cons0 h]
 have:=Pp.read_one (k:=U[0].toNat) U[0].toNat_lt ho (U.data.toList.drop 1)
 rwa [show UInt8.ofNat U[0].toNat=U[0] by simp] at this
theorem read_even1 {U:ByteArray} (h:0<U.size) (h1:U.size<2) (ho:U[0].toNat % 2=0):Pp.read U.data.toList=⟨0,[],4⟩:=by
 have hl:=len_dat U
 rw [get_cons0 h,List.drop_eq_nil_of_le (by omega)]
 simp only [Pp.read]
 rw [if_neg (by omega)]
theorem read_even2 {U:ByteArray} (h:1<U.size) (ho:U[0].toNat % 2=0) :
  Pp.read U.data.toList=(if Pp.ok ((256*U[0].toNat+U[1].toNat:Nat):Int)=true then ⟨(256*U[0].toNat+U[1].toNat:Nat),U.data.toList.drop 2,0⟩ else ⟨0,[],3⟩):=by
 have h1:=U[0].toNat_lt
 have h2:=U[1].toNat_lt
 conv=>lhs;rw [get_cons1 h]
 simp only [Pp.read]
 rw [if_neg (by omega)]
 by_cases c:U[1].toNat % 2=1
 ·rw [if_pos c,if_pos (Pp.ok_nat (by omega) (by omega) (by omega))]
 ·rw [if_neg c,if_neg]
  intro e
  obtain ⟨k,hk,_,h4,_⟩:=Pp.ok_get e
  omega
theorem txt_drop (U:ByteArray) (n:Nat):U.extract n U.size=txt (U.data.toList.drop n):=by
 have hl:=len_dat U
 apply ByteArray.ext
 apply Array.ext'
 simp only [txt,ByteArray.data_extract,Array.toList_extract,List.extract_eq_take_drop]
 rw [List.take_of_length_le (by rw [List.length_drop];omega)]
set_option maxHeartbeats 2000000 in
theorem specUnp_at (t:ByteArray) (w:World) (h8:t.size≤8000) :
  Calls Tryz.prog 76 #[.string t] w fun e w'=>e=.returned (outV (Pp.unpack t.data.toList))∧Below w.heap.size w w':=by
 have d0:¬ ((8000:Int)<(t.size:Int)):=by omega
 have hun:Pp.unpack t.data.toList=Pp.read (Pp.rest t.data.toList):=by unfold Pp.unpack;rw [len_dat,if_pos h8]
 have hrl:=Pp.rest_len t.data.toList
 rw [len_dat] at hrl
 obtain ⟨U,hU⟩:∃ U:ByteArray,U=txt (Pp.rest t.data.toList):=⟨_,rfl⟩
 have hUl:U.data.toList=Pp.rest t.data.toList:=by rw [hU];rfl
 have hUs:U.size≤8000:=by rw [← len_dat,hUl];omega
 rw [hun,← hUl]
 have HU:=hide hU
 clear hU hUl hrl hun
 go_enter Tryz.func76,Tryz.ntmps76
 go_upto_region 3 with fail
 go_cut [16] (fun b wx=>b=.bool (decide (t.data.toList.take 2=[0xff,3]))∧wx=w.alloc (.cells #[.int .i64 0,.string ⟨#[]⟩,.int .i64 0] 124))
 case first =>
  by_cases h2:2≤t.size
  ·have d1:decide ((2:Int)≤(t.size:Int))=true:=decide_eq_true (by omega)
   have d2:(2:Int)≤(t.size:Int):=by omega
   have hx:(t.extract 0 2).toList=t.data.toList.take 2:=by rw [ByteArray.toList_eq];simp [ByteArray.data_extract]
   by_cases e:t.data.toList.take 2=[0xff,3]
   ·have d3:((t.extract 0 2).toList == [255,3])=true:=by rw [hx,e];rfl
    have HE:=hide (decide_eq_true e)
    clear hx e
    go_wp2_with fail
    go_meet
    exact ⟨by rw [uh HE],rfl⟩
   ·have d3:((t.extract 0 2).toList == [255,3])=false:=by rw [hx];exact beq_eq_false_iff_ne.2 e
    have HE:=hide (decide_eq_false e)
    clear hx e
    go_wp2_with fail
    go_meet
    exact ⟨by rw [uh HE],rfl⟩
  ·have d1:decide ((2:Int)≤(t.size:Int))=false:=decide_eq_false (by omega)
   have e:¬ (t.data.toList.take 2=[0xff,3]):=fun e=>by
    have:=congrArg List.length e
    rw [List.length_take,len_dat] at this
    simp at this
    omega
   have HE:=hide (decide_eq_false e)
   clear e
   go_wp2_with fail
   go_meet
   exact ⟨by rw [uh HE],rfl⟩
 case rest =>
  obtain ⟨hu16,rfl⟩:=hcut
  subst hu16
  go_upto_if 16 with fail
  go_cut [0] (fun v wx=>v=.string U∧wx=w.alloc (.cells #[.int .i64 0,.string ⟨#[]⟩,.int .i64 0] 124))
  case first =>
   by_cases e:t.data.toList.take 2=[0xff,3]
   ·have h2:2≤t.size:=by
     have:=congrArg List.length e
     rw [List.length_take,len_dat] at this
     simp at this
     omega
    have d2:(2:Int)≤(t.size:Int):=by omega
    have HX:Hid (t.extract 2 t.size=U):=by
     refine hide ?_
     rw [uh HU]
     refine rest_ways t _ (fun a _=>by omega) (fun _ a _=>absurd e a) (fun _ _ r=>?_)
     rw [r]
     exact txt_drop t 2
    rw [decide_eq_true e]
    clear e
    go_wp2_with fail
    go_meet
    exact ⟨by rw [uh HX],rfl⟩
   ·have HX:Hid (t=U):=by
     refine hide ?_
     rw [uh HU]
     refine rest_ways t _ (fun _ r=>?_) (fun _ _ r=>?_) (fun _ a _=>absurd a e)
     ·rw [r];rfl
     ·rw [r];rfl
    rw [decide_eq_false e]
    clear e
    go_wp2_with fail
    go_meet
    exact ⟨by rw [uh HX],rfl⟩
  case rest =>
   obtain ⟨hu0,hwc⟩:=hcut
   subst hu0 hwc
   clear HU
   have C1:=hide fun x v=>specProto x v
   have hb0:Below w.heap.size w (w.alloc (.cells #[.int .i64 0,.string ⟨#[]⟩,.int .i64 0] 124)):=(Below.refl _ _).alloc (Nat.le_refl _) _
   by_cases h0:U.size<1
   ·have d1:decide ((U.size:Int)<1)=true:=decide_eq_true (by omega)
    have HR:=hide (read_none h0)
    go_wp2
    refine bodyPost_ret (v:=outV ⟨0,[],4⟩) (by simp [results,Tryz.results76,go_sem,outV,txt]) rfl ⟨by rw [uh HR],?_⟩
    exact (Below.refl _ _).alloc (Nat.le_refl _) _
   ·have g0:0<U.size:=by omega
    have d1:decide ((U.size:Int)<1)=false:=decide_eq_false (by omega)
    have d1':¬ ((U.size:Int)<1):=by omega
    rcases Nat.mod_two_eq_zero_or_one U[0].toNat with ho | ho
    ·by_cases h1:1<U.size
     ·have HR:=hide (read_even2 h1 ho)
      have hlt:=U[0].toNat_lt
      have hlt1:=U[1].toNat_lt
      have HX:=hide (txt_drop U 2)
      obtain ⟨c,hc⟩:∃ c,U[0]'g0=c:=⟨_,rfl⟩
      obtain ⟨d,hd⟩:∃ c,U[1]'h1=c:=⟨_,rfl⟩
      rw [hc,hd] at HR
      rw [hc] at ho hlt
      rw [hd] at hlt1
      have d2:decide ((U.size:Int)<2)=false:=decide_eq_false (by omega)
      have d2':(1:Int)<(U.size:Int):=by omega
      have d3:(c.toNat:Int) % 2=0:=by omega
      have d5:wrap64 (c.toNat:Int)=(c.toNat:Int):=by unfold wrap64;omega
      have d6:wrap64 (d.toNat:Int)=(d.toNat:Int):=by unfold wrap64;omega
      have d7:wrap64 (256*(c.toNat:Int))=256*(c.toNat:Int):=by unfold wrap64;omega
      have d8:wrap64 (256*(c.toNat:Int)+(d.toNat:Int))=256*(c.toNat:Int)+(d.toNat:Int):=by unfold wrap64;omega
      have c1:=specProto (256*(c.toNat:Int)+(d.toNat:Int)) (w.alloc (.cells #[.int .i64 0,.string ⟨#[]⟩,.int .i64 0] 124))
      rw [show ((256*c.toNat+d.toNat:Nat):Int)=256*(c.toNat:Int)+(d.toNat:Int) by omega] at HR
      clear ho C1
      cases hok:Pp.ok (256*(c.toNat:Int)+(d.toNat:Int))
      ·rw [hok] at c1 HR
       clear hok
       go_wp2_with (first
        | (go_at_call 105;refine c1.mono ?_;rintro e w1 ⟨rfl,rfl⟩))
       refine bodyPost_ret (v:=outV ⟨0,[],3⟩) ?_ rfl ⟨by rw [uh HR];rfl,(Below.refl _ _).alloc (Nat.le_refl _) _⟩
       simp [results,Tryz.results76,go_sem,outV,txt]
      ·rw [hok] at c1 HR
       clear hok
       go_wp2_with (first
        | (go_at_call 105;refine c1.mono ?_;rintro e w1 ⟨rfl,rfl⟩))
       refine bodyPost_ret (v:=outV ⟨256*(c.toNat:Int)+(d.toNat:Int),U.data.toList.drop 2,0⟩) ?_ rfl ⟨by rw [uh HR];rfl,(Below.refl _ _).alloc (Nat.le_refl _) _⟩
       simp [results,Tryz.results76,go_sem,outV,uh HX]
     ·have HR:=hide (read_even1 g0 (by omega) ho)
      have d2:decide ((U.size:Int)<2)=true:=decide_eq_true (by omega)
      have d3:(U[0].toNat:Int) % 2=0:=by omega
      clear ho
      go_wp2
      refine bodyPost_ret (v:=outV ⟨0,[],4⟩) (by simp [results,Tryz.results76,go_sem,outV,txt]) rfl ⟨by rw [uh HR],?_⟩
      exact (Below.refl _ _).alloc (Nat.le_refl _) _
    ·have HR:=hide (read_odd g0 ho)
     have hlt:=U[0].toNat_lt
     have HOK:Hid (Pp.ok (U[0].toNat:Int)=true):=hide (Pp.ok_nat (by omega) ho (by omega))
     have HX:=hide (txt_drop U 1)
     obtain ⟨c,hc⟩:∃ c,U[0]'g0=c:=⟨_,rfl⟩
     rw [hc] at HR HOK ho hlt
     have d3:¬ ((c.toNat:Int) % 2=0):=by omega
     have d4:((c.toNat:Int) % 2 == 0)=false:=beq_eq_false_iff_ne.2 d3
     have d5:wrap64 (c.toNat:Int)=(c.toNat:Int):=by unfold wrap64;omega
     have c1:=specProto (c.toNat:Int) (w.alloc (.cells #[.int .i64 0,.string ⟨#[]⟩,.int .i64 0] 124))
     rw [uh HOK] at c1
     clear ho C1
     go_wp2_with (first
      | (go_at_call 105;refine c1.mono ?_;rintro e w1 ⟨rfl,rfl⟩))
     refine bodyPost_ret (v:=outV ⟨(c.toNat:Int),U.data.toList.drop 1,0⟩) ?_ rfl ⟨by rw [uh HR],(Below.refl _ _).alloc (Nat.le_refl _) _⟩
     simp [results,Tryz.results76,go_sem,outV,uh HX]
set_option maxHeartbeats 400000 in
theorem specUnpAll (t:ByteArray) (w:World) (ht:t.size≤maxLen) :
  Calls Tryz.prog 76 #[.string t] w fun e w'=>e=.returned (outV (Pp.unpack t.data.toList))∧Below w.heap.size w w':=by
 by_cases h8:t.size≤8000
 ·exact specUnp_at t w h8
 ·unfold maxLen at ht
  have d0:(8000:Int)<(t.size:Int):=by omega
  rw [show Pp.unpack t.data.toList=⟨0,[],2⟩ by unfold Pp.unpack;rw [len_dat,if_neg h8]]
  go_enter Tryz.func76,Tryz.ntmps76
  go_wp2
  refine bodyPost_ret (v:=outV ⟨0,[],2⟩) ?_ rfl ⟨rfl,(Below.refl _ _).alloc (Nat.le_refl _) _⟩
  simp [results,Tryz.results76,go_sem,outV,txt]
end Go.Proofs.YtkcghhkkepndnaaGreatDoor
namespace Go.Proofs.YtkcghhkkepndnaaGreatDoor
open Go.ChangeShapes Go.WideShapes Go.ChangeAt Go.RowKit
theorem laidOutN:laidOutB Tryz.prog=true:=by kernel_rfl
theorem cellsSN:Tryz.prog.cellsOf 9=1:=by kernel_rfl
theorem cellsIN:Tryz.prog.cellsOf 2=1:=by kernel_rfl
theorem adr_noneN {W:World} {a:Addr} {v:Value} (h:W.cell? (a.add 0)=some v):∃ b o,a=⟨b,o,none⟩∧∀ k,a.add k=⟨b,o+k,none⟩:=by
 obtain ⟨b,o,sp⟩:=a
 have hsp:sp=none:=by
  cases sp with
  | none=>rfl
  | some x =>
   unfold World.cell? Addr.add at h
   split at h<;>simp at h
 subst hsp
 exact ⟨b,o,rfl,fun k=>by unfold Addr.add;split<;>simp_all⟩
theorem open_numsN {H:Type} {enc:TypeId × Value→H} {W:World} {v:Value} {d:DataW H} {ps:List MemPlace}
  (h:DataW.Trod enc Tryz.prog W 0 (fun _=>true) true 24 v d ps) (hv:∃ a l c,v=.slice a l c):∃ L:List Int,ArgI W v L∧L.length≤maxLen∧∀ e ∈ L,e≤9223372036854775807:=by
 obtain ⟨fuel,hf⟩:=h
 obtain ⟨a,l,c,rfl⟩:=hv
 rcases open_ints Tryz.underlying24 Tryz.underlying2 cellsIN hf with ⟨hcs,_⟩ | ⟨a9,len,cap,zs,hcs,_,hl,hm,hsl,_,hcell,hwf⟩
 ·simp [Value.cells] at hcs
  obtain ⟨rfl,rfl,rfl⟩:=hcs
  exact ⟨[],⟨⟨_,_,rfl⟩,fun i hi=>absurd hi (by simp)⟩,Nat.zero_le _,fun e he=>(by cases he)⟩
 ·simp [Value.cells] at hcs
  obtain ⟨rfl,rfl,rfl⟩:=hcs
  simp only [if_true] at hsl
  have hlen:(zs.take l).length=l:=by rw [List.length_take];omega
  refine ⟨zs.take l,⟨⟨_,c,by rw [hlen]⟩,fun i hi=>?_⟩,by rw [hlen];omega,fun e he=>?_⟩
  ·have hi':i<l:=by rw [hlen] at hi;exact hi
   have hqi:=hcell i (by omega)
   obtain ⟨b,o,rfl,hadd⟩:=adr_noneN (hcell 0 (by omega))
   rw [hadd] at hqi
   have hg:(zs.take l)[i]=zs.getD i 0:=by rw [List.getElem_take,List.getD,List.getElem?_eq_getElem (by omega)];rfl
   rw [hg]
   exact ⟨b,o,c,by rw [hlen],World.block_lt_of_cell? W _ hqi,hqi⟩
  ·have hw:=hwf e (List.mem_of_mem_take he)
   simp only [Lit.wf,IntKind.min,IntKind.max,IntKind.signed,IntKind.bits,Bool.and_eq_true,decide_eq_true_eq,if_true] at hw
   omega
theorem open_textsN {H:Type} {enc:TypeId × Value→H} {W:World} {v:Value} {d:DataW H} {ps:List MemPlace}
  (h:DataW.Trod enc Tryz.prog W 0 (fun _=>true) true 23 v d ps) (hv:∃ a l c,v=.slice a l c):∃ L:List ByteArray,ArgT W v L∧L.length≤maxLen:=by
 obtain ⟨fuel,hf⟩:=h
 obtain ⟨a,l,c,rfl⟩:=hv
 rcases open_strings Tryz.underlying23 Tryz.underlying9 cellsSN hf with ⟨hcs,_⟩ | ⟨a9,len,cap,ss,hcs,_,hl,hm,hsl,_,hcell,hsz⟩
 ·simp [Value.cells] at hcs
  obtain ⟨rfl,rfl,rfl⟩:=hcs
  exact ⟨[],⟨⟨_,_,rfl⟩,fun i hi=>absurd hi (by simp)⟩,Nat.zero_le _⟩
 ·simp [Value.cells] at hcs
  obtain ⟨rfl,rfl,rfl⟩:=hcs
  simp only [if_true] at hsl
  have hlen:(ss.take l).length=l:=by rw [List.length_take];omega
  refine ⟨ss.take l,⟨⟨_,c,by rw [hlen]⟩,fun i hi=>?_⟩,by rw [hlen];omega⟩
  have hi':i<l:=by rw [hlen] at hi;exact hi
  have hqi:=hcell i (by omega)
  obtain ⟨b,o,rfl,hadd⟩:=adr_noneN (hcell 0 (by omega))
  rw [hadd] at hqi
  have hg:(ss.take l)[i]=ss.getD i ByteArray.empty:=by rw [List.getElem_take,List.getD,List.getElem?_eq_getElem (by omega)];rfl
  rw [hg]
  refine ⟨b,o,c,by rw [hlen],World.block_lt_of_cell? W _ hqi,hqi,?_⟩
  have hm2:ss.getD i ByteArray.empty ∈ ss:=by
   rw [List.getD,List.getElem?_eq_getElem (by omega)]
   exact List.getElem_mem _
  exact hsz _ hm2
end Go.Proofs.YtkcghhkkepndnaaGreatDoor
