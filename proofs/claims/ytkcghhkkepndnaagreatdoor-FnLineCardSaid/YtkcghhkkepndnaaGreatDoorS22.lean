/- PppUnpack, the model's: of any text what is read; what lay in memory stands. The program's iterator over a line: it takes so many sent frames off its front, and hands each on; no condition but those named. -/
import Derived.Test.YtkcghhkkepndnaaGreatDoorS15
import Derived.Test.YtkcghhkkepndnaaGreatDoorS01
import Derived.Deep.DeepCutAuto
import Derived.Test.YtkcghhkkepndnaaGreatDoorS17
import Derived.Shelf.Abstract
import Derived.Shelf.RegionOpen
import Derived.WalkKit
import Derived.OwnWalkIn
import Derived.TacticsInMore
import Derived.LoopNIn
import Derived.LoopIn
import Derived.Test.YtkcghhkkepndnaaGreatDoorShW
namespace Go.Proofs.YtkcghhkkepndnaaGreatDoor
open Go.RowKit
def outV (o:Pp.Out):Value:=.agg #[.int .i64 o.proto,.string (txt o.text),.int .i64 o.code]
theorem len_dat (t:ByteArray):t.data.toList.length=t.size:=by rw [Array.length_toList];rfl
theorem rest_ways (t:ByteArray) (P:Prop) (h1:t.size<2→Pp.rest t.data.toList=t.data.toList→P)
  (h2:2≤t.size→t.data.toList.take 2≠[0xff,3]→Pp.rest t.data.toList=t.data.toList→P) (h3:2≤t.size→t.data.toList.take 2=[0xff,3]→Pp.rest t.data.toList=t.data.toList.drop 2→P):P:=by
 have hl:=len_dat t
 generalize t.data.toList=l at *
 rcases l with _ | ⟨c,_ | ⟨d,r⟩⟩
 ·exact h1 (by simp at hl;omega) rfl
 ·exact h1 (by simp at hl;omega) rfl
 ·have hs:2≤t.size:=by simp at hl;omega
  have hr:Pp.rest (c :: d :: r)=(if c=0xff∧d=3 then r else c :: d :: r):=rfl
  by_cases e:c=0xff∧d=3
  ·rw [if_pos e] at hr
   exact h3 hs (by simp [e]) hr
  ·rw [if_neg e] at hr
   exact h2 hs (by simpa using e) hr
theorem get_cons0 {U:ByteArray} (h:0<U.size):U.data.toList=U[0] :: U.data.toList.drop 1:=by
 have hl:=len_dat U
 exact List.drop_eq_getElem_cons (i:=0) (l:=U.data.toList) (by omega)
theorem get_cons1 {U:ByteArray} (h:1<U.size):U.data.toList=U[0] :: U[1] :: U.data.toList.drop 2:=by
 have hl:=len_dat U
 conv=>lhs;rw [get_cons0 (by omega)]
 congr 1
 exact List.drop_eq_getElem_cons (i:=1) (by omega)
theorem read_none {U:ByteArray} (h:U.size<1):Pp.read U.data.toList=⟨0,[],4⟩:=by
 have hl:=len_dat U
 rw [List.eq_nil_of_length_eq_zero (l:=U.data.toList) (by omega)]
 rfl
theorem read_odd {U:ByteArray} (h:0<U.size) (ho:U[0].toNat % 2=1):Pp.read U.data.toList=⟨U[0].toNat,U.data.toList.drop 1,0⟩:=by
 conv=>lhs;rw [get_cons0 h]
 have:=Pp.read_one (k:=U[0].toNat) U[0].toNat_lt ho (U.data.toList.drop 1)
 rwa [show UInt8.ofNat U[0].toNat=U[0] by simp] at this
theorem read_even1 {U:ByteArray} (h:0<U.size) (h1:U.size<2) (ho:U[0].toNat % 2=0):Pp.read U.data.toList=⟨0,[],4⟩:=by
 have hl:=len_dat U
 rw [get_cons0 h,List.drop_eq_nil_of_le (by omega)]
 simp only [Pp.read]
 rw [if_neg (by omega)]
theorem read_even2 {U:ByteArray} (h:1<U.size) (ho:U[0].toNat % 2=0) :
  Pp.read U.data.toList=(if Pp.ok ((256*U[0].toNat+U[1].toNat:Nat):Int)=true then ⟨(256*U[0].toNat+U[1].toNat:Nat),U.data.toList.drop 2,0⟩ else ⟨0,[],3⟩):=by
 have h1:=U[0].toNat_lt
 have h2:=U[1].toNat_lt
 conv=>lhs;rw [get_cons1 h]
 simp only [Pp.read]
 rw [if_neg (by omega)]
 by_cases c:U[1].toNat % 2=1
 ·rw [if_pos c,if_pos (Pp.ok_nat (by omega) (by omega) (by omega))]
 ·rw [if_neg c,if_neg]
  intro e
  obtain ⟨k,hk,_,h4,_⟩:=Pp.ok_get e
  omega
theorem txt_drop (U:ByteArray) (n:Nat):U.extract n U.size=txt (U.data.toList.drop n):=by
 have hl:=len_dat U
 apply ByteArray.ext
 apply Array.ext'
 simp only [txt,ByteArray.data_extract,Array.toList_extract,List.extract_eq_take_drop]
 rw [List.take_of_length_le (by rw [List.length_drop];omega)]
set_option maxHeartbeats 2000000 in
theorem specUnp_at (t:ByteArray) (w:World) (h8:t.size≤8000) :
  Calls Tryz.prog 76 #[.string t] w fun e w'=>e=.returned (outV (Pp.unpack t.data.toList))∧Below w.heap.size w w':=by
 have d0:¬ ((8000:Int)<(t.size:Int)):=by omega
 have hun:Pp.unpack t.data.toList=Pp.read (Pp.rest t.data.toList):=by unfold Pp.unpack;rw [len_dat,if_pos h8]
 have hrl:=Pp.rest_len t.data.toList
 rw [len_dat] at hrl
 obtain ⟨U,hU⟩:∃ U:ByteArray,U=txt (Pp.rest t.data.toList):=⟨_,rfl⟩
 have hUl:U.data.toList=Pp.rest t.data.toList:=by rw [hU];rfl
 have hUs:U.size≤8000:=by rw [← len_dat,hUl];omega
 rw [hun,← hUl]
 have HU:=hide hU
 clear hU hUl hrl hun
 go_enter Tryz.func76,Tryz.ntmps76
 go_upto_region 3 with fail
 go_cut [16] (fun b wx=>b=.bool (decide (t.data.toList.take 2=[0xff,3]))∧wx=w.alloc (.cells #[.int .i64 0,.string ⟨#[]⟩,.int .i64 0] 124))
 case first =>
  by_cases h2:2≤t.size
  ·have d1:decide ((2:Int)≤(t.size:Int))=true:=decide_eq_true (by omega)
   have d2:(2:Int)≤(t.size:Int):=by omega
   have hx:(t.extract 0 2).toList=t.data.toList.take 2:=by rw [ByteArray.toList_eq];simp [ByteArray.data_extract]
   by_cases e:t.data.toList.take 2=[0xff,3]
   ·have d3:((t.extract 0 2).toList == [255,3])=true:=by rw [hx,e];rfl
    have HE:=hide (decide_eq_true e)
    clear hx e
    go_wp2_with fail
    go_meet
    exact ⟨by rw [uh HE],rfl⟩
   ·have d3:((t.extract 0 2).toList == [255,3])=false:=by rw [hx];exact beq_eq_false_iff_ne.2 e
    have HE:=hide (decide_eq_false e)
    clear hx e
    go_wp2_with fail
    go_meet
    exact ⟨by rw [uh HE],rfl⟩
  ·have d1:decide ((2:Int)≤(t.size:Int))=false:=decide_eq_false (by omega)
   have e:¬ (t.data.toList.take 2=[0xff,3]):=fun e=>by
    have:=congrArg List.length e
    rw [List.length_take,len_dat] at this
    simp at this
    omega
   have HE:=hide (decide_eq_false e)
   clear e
   go_wp2_with fail
   go_meet
   exact ⟨by rw [uh HE],rfl⟩
 case rest =>
  obtain ⟨hu16,rfl⟩:=hcut
  subst hu16
  go_upto_if 16 with fail
  go_cut [0] (fun v wx=>v=.string U∧wx=w.alloc (.cells #[.int .i64 0,.string ⟨#[]⟩,.int .i64 0] 124))
  case first =>
   by_cases e:t.data.toList.take 2=[0xff,3]
   ·have h2:2≤t.size:=by
     have:=congrArg List.length e
     rw [List.length_take,len_dat] at this
     simp at this
     omega
    have d2:(2:Int)≤(t.size:Int):=by omega
    have HX:Hid (t.extract 2 t.size=U):=by
     refine hide ?_
     rw [uh HU]
     refine rest_ways t _ (fun a _=>by omega) (fun _ a _=>absurd e a) (fun _ _ r=>?_)
     rw [r]
     exact txt_drop t 2
    rw [decide_eq_true e]
    clear e
    go_wp2_with fail
    go_meet
    exact ⟨by rw [uh HX],rfl⟩
   ·have HX:Hid (t=U):=by
     refine hide ?_
     rw [uh HU]
     refine rest_ways t _ (fun _ r=>?_) (fun _ _ r=>?_) (fun _ a _=>absurd a e)
     ·rw [r];rfl
     ·rw [r];rfl
    rw [decide_eq_false e]
    clear e
    go_wp2_with fail
    go_meet
    exact ⟨by rw [uh HX],rfl⟩
  case rest =>
   obtain ⟨hu0,hwc⟩:=hcut
   subst hu0 hwc
   clear HU
   have C1:=hide fun x v=>specProto x v
   have hb0:Below w.heap.size w (w.alloc (.cells #[.int .i64 0,.string ⟨#[]⟩,.int .i64 0] 124)):=(Below.refl _ _).alloc (Nat.le_refl _) _
   by_cases h0:U.size<1
   ·have d1:decide ((U.size:Int)<1)=true:=decide_eq_true (by omega)
    have HR:=hide (read_none h0)
    go_wp2
    refine bodyPost_ret (v:=outV ⟨0,[],4⟩) (by simp [results,Tryz.results76,go_sem,outV,txt]) rfl ⟨by rw [uh HR],?_⟩
    exact (Below.refl _ _).alloc (Nat.le_refl _) _
   ·have g0:0<U.size:=by omega
    have d1:decide ((U.size:Int)<1)=false:=decide_eq_false (by omega)
    have d1':¬ ((U.size:Int)<1):=by omega
    rcases Nat.mod_two_eq_zero_or_one U[0].toNat with ho | ho
    ·by_cases h1:1<U.size
     ·have HR:=hide (read_even2 h1 ho)
      have hlt:=U[0].toNat_lt
      have hlt1:=U[1].toNat_lt
      have HX:=hide (txt_drop U 2)
      obtain ⟨c,hc⟩:∃ c,U[0]'g0=c:=⟨_,rfl⟩
      obtain ⟨d,hd⟩:∃ c,U[1]'h1=c:=⟨_,rfl⟩
      rw [hc,hd] at HR
      rw [hc] at ho hlt
      rw [hd] at hlt1
      have d2:decide ((U.size:Int)<2)=false:=decide_eq_false (by omega)
      have d2':(1:Int)<(U.size:Int):=by omega
      have d3:(c.toNat:Int) % 2=0:=by omega
      have d5:wrap64 (c.toNat:Int)=(c.toNat:Int):=by unfold wrap64;omega
      have d6:wrap64 (d.toNat:Int)=(d.toNat:Int):=by unfold wrap64;omega
      have d7:wrap64 (256*(c.toNat:Int))=256*(c.toNat:Int):=by unfold wrap64;omega
      have d8:wrap64 (256*(c.toNat:Int)+(d.toNat:Int))=256*(c.toNat:Int)+(d.toNat:Int):=by unfold wrap64;omega
      have c1:=specProto (256*(c.toNat:Int)+(d.toNat:Int)) (w.alloc (.cells #[.int .i64 0,.string ⟨#[]⟩,.int .i64 0] 124))
      rw [show ((256*c.toNat+d.toNat:Nat):Int)=256*(c.toNat:Int)+(d.toNat:Int) by omega] at HR
      clear ho C1
      cases hok:Pp.ok (256*(c.toNat:Int)+(d.toNat:Int))
      ·rw [hok] at c1 HR
       clear hok
       go_wp2_with (first
        | (go_at_call 105;refine c1.mono ?_;rintro e w1 ⟨rfl,rfl⟩))
       refine bodyPost_ret (v:=outV ⟨0,[],3⟩) ?_ rfl ⟨by rw [uh HR];rfl,(Below.refl _ _).alloc (Nat.le_refl _) _⟩
       simp [results,Tryz.results76,go_sem,outV,txt]
      ·rw [hok] at c1 HR
       clear hok
       go_wp2_with (first
        | (go_at_call 105;refine c1.mono ?_;rintro e w1 ⟨rfl,rfl⟩))
       refine bodyPost_ret (v:=outV ⟨256*(c.toNat:Int)+(d.toNat:Int),U.data.toList.drop 2,0⟩) ?_ rfl ⟨by rw [uh HR];rfl,(Below.refl _ _).alloc (Nat.le_refl _) _⟩
       simp [results,Tryz.results76,go_sem,outV,uh HX]
     ·have HR:=hide (read_even1 g0 (by omega) ho)
      have d2:decide ((U.size:Int)<2)=true:=decide_eq_true (by omega)
      have d3:(U[0].toNat:Int) % 2=0:=by omega
      clear ho
      go_wp2
      refine bodyPost_ret (v:=outV ⟨0,[],4⟩) (by simp [results,Tryz.results76,go_sem,outV,txt]) rfl ⟨by rw [uh HR],?_⟩
      exact (Below.refl _ _).alloc (Nat.le_refl _) _
    ·have HR:=hide (read_odd g0 ho)
     have hlt:=U[0].toNat_lt
     have HOK:Hid (Pp.ok (U[0].toNat:Int)=true):=hide (Pp.ok_nat (by omega) ho (by omega))
     have HX:=hide (txt_drop U 1)
     obtain ⟨c,hc⟩:∃ c,U[0]'g0=c:=⟨_,rfl⟩
     rw [hc] at HR HOK ho hlt
     have d3:¬ ((c.toNat:Int) % 2=0):=by omega
     have d4:((c.toNat:Int) % 2 == 0)=false:=beq_eq_false_iff_ne.2 d3
     have d5:wrap64 (c.toNat:Int)=(c.toNat:Int):=by unfold wrap64;omega
     have c1:=specProto (c.toNat:Int) (w.alloc (.cells #[.int .i64 0,.string ⟨#[]⟩,.int .i64 0] 124))
     rw [uh HOK] at c1
     clear ho C1
     go_wp2_with (first
      | (go_at_call 105;refine c1.mono ?_;rintro e w1 ⟨rfl,rfl⟩))
     refine bodyPost_ret (v:=outV ⟨(c.toNat:Int),U.data.toList.drop 1,0⟩) ?_ rfl ⟨by rw [uh HR],(Below.refl _ _).alloc (Nat.le_refl _) _⟩
     simp [results,Tryz.results76,go_sem,outV,uh HX]
set_option maxHeartbeats 400000 in
theorem specUnpAll (t:ByteArray) (w:World) (ht:t.size≤maxLen) :
  Calls Tryz.prog 76 #[.string t] w fun e w'=>e=.returned (outV (Pp.unpack t.data.toList))∧Below w.heap.size w w':=by
 by_cases h8:t.size≤8000
 ·exact specUnp_at t w h8
 ·unfold maxLen at ht
  have d0:(8000:Int)<(t.size:Int):=by omega
  rw [show Pp.unpack t.data.toList=⟨0,[],2⟩ by unfold Pp.unpack;rw [len_dat,if_neg h8]]
  go_enter Tryz.func76,Tryz.ntmps76
  go_wp2
  refine bodyPost_ret (v:=outV ⟨0,[],2⟩) ?_ rfl ⟨rfl,(Below.refl _ _).alloc (Nat.le_refl _) _⟩
  simp [results,Tryz.results76,go_sem,outV,txt]
end Go.Proofs.YtkcghhkkepndnaaGreatDoor
namespace Go.Proofs.YtkcghhkkepndnaaGreatDoor
open Go.RowKit Go.Shelf
attribute [local go_sem] Oper.semAt_some
theorem cell1L {W:World} {C:Nat} {x:Value} {T:TypeId} (h:W.heap[C]?=some (.cells #[x] T)):W.cell? ⟨C,0,none⟩=some x:=by rw [cr h];rfl
set_option maxHeartbeats 8000000 in
set_option maxRecDepth 100000 in
theorem iCome1 {base:Nat} {T:TypeId} {n l B k C1 C2 m0 cnt:Nat} {W:World} (hn:1≤n) (I:Nat→World→Prop)
  (hI:∀ i y,I i y→y.heap[C1]?=some (.cells #[.int .i64 (cnt:Int)] 3)∧y.heap[C2]?=some (.cells #[.pointer (some ⟨B,k,none⟩)] 108)∧∃ X Z v L,X.length=k∧Wr base T y B X Z v L∧L.length+i=m0 ∧
   ∀ p r z v',L=p :: r→Wr base T z B X Z v' r→Fr B v v' y z→YieldAt Fence.wide (n - 1) Tryz.prog l #[.agg #[.string p.text,.string p.bytes]] z fun e z'=>e=.returned (.bool true)∧I (i+1) z')
  (hdr:∀ i y,I i y→I i y.drew) (h0:I 0 W) :
  CallsIn Fence.wide n Tryz.prog 89 #[.func (.yield l) #[] #[],.pointer (some ⟨C1,0,none⟩),.pointer (some ⟨C2,0,none⟩)] W fun e W'=>(∃ v,e=.returned v)∧I (min cnt m0) W':=by
 obtain ⟨b1,b2,X,Z,v,L,hX,hW,hm,_⟩:=hI 0 W h0
 have c1:=cell1L b1
 have c2:=cell1L b2
 have c3:=cell_blk hW.row
 rw [hX] at c3
 obtain ⟨ad,cp,hv⟩:=hW.hk.form
 subst hv
 have hm0:m0=L.length:=by omega
 have hL40:=hW.le
 subst hm0
 generalize hLn:L.length=q at *
 generalize hmm:min cnt q=m at *
 have hmin:(if q<cnt then (q:Int) else (cnt:Int))=(m:Int):=by
  split<;>omega
 clear hW b1 b2 hm
 refine callsIn_of_wp Tryz.func89 rfl trivial ?_ rfl
 simp only [Tryz.ntmps89,List.size_toArray,List.length_cons,List.length_nil,Nat.reduceAdd,Nat.reduceSub,Array.replicate_succ,Array.replicate_zero,List.push_toArray,List.append_toArray,List.nil_append,List.cons_append]
 gi_wp2
 refine wpIn_wide.2 ?_
 refine wp_region_held_drew (S:=fun z=>z.cell? ⟨C1,0,none⟩=some (.int .i64 (cnt:Int))∧z.cell? ⟨C2,0,none⟩=some (.pointer (some ⟨B,k,none⟩))∧z.cell? ⟨B,k,none⟩=some (.slice ad q cp)) (by kernel_rfl) ⟨c1,c2,c3⟩ (fun hHeld=>?_)
 refine t2 0 ?_
 refine t2 1 ?_
 refine t2 2 ?_
 refine t2 3 ?_
 refine t2 4 ?_
 refine t2 5 ?_
 refine t2 6 ?_
 refine t2 7 ?_
 refine dn ?_ _
 have h0d:I 0 W.drew:=hdr 0 W h0
 clear h0 c1 c2 c3
 generalize W.drew=y at h0d hHeld ⊢
 clear hHeld
 have hmq:m≤q:=by omega
 clear hmin
 gi_wp2
 gi_loopw [12] (fun p wr=>∃ i:Nat,i≤m∧p=.int .i64 i∧I i wr) (fun p _=>m - (intOf p).toNat)
 case atStart=>exact ⟨0,Nat.zero_le _,rfl,h0d⟩
 case round =>
  obtain ⟨i,hi,rfl,hF⟩:=hrel
  clear h0d
  by_cases hlt:i<m
  ·have d1:(i:Int)<(m:Int):=by omega
   obtain ⟨b1,b2,X1,Z1,v1,L1,hX1,hW1,hm1,hY1⟩:=hI i wr hF
   match L1,hW1,hm1,hY1 with
   | [],_,hm1,_=>simp at hm1;omega
   | p :: r,hW1,hm1,hY1 =>
    obtain ⟨g,o,cp1,cur,hv1,q1,q2,q3⟩:=hW1.hk.fst
    have c2:=cell1L b2
    have c3:=cell_blk hW1.row
    rw [hX1] at c3
    have x0:wr.cell? ⟨g,o,none⟩=some (.string p.text):=by rw [cr q1];exact q2
    have x1:wr.cell? ⟨g,o+1,none⟩=some (.string p.bytes):=by rw [cr q1];exact q3
    have hgl:g<wr.heap.size:=(Array.getElem?_eq_some_iff.1 q1).1
    clear q1 q2 q3
    have HW1:=hide hW1
    have HF:=hide hF
    have C2l:C2<wr.heap.size:=(Array.getElem?_eq_some_iff.1 b2).1
    have hb1:Below wr.heap.size wr (wr.alloc (.cells #[.string p.text,.string p.bytes] 82)):=(Below.refl _ _).alloc (Nat.le_refl _) _
    have hN:=heap_alloc_new wr (.cells #[.string p.text,.string p.bytes] 82)
    have hBl:=hW1.lt
    have hol:∀ g,v1.ownBlock=some g→g<wr.heap.size:=fun g hg=>(hW1.ownB g hg).2.2.1
    have CL:Hid (Calls Tryz.prog 42 #[.pointer (some ⟨B,k,none⟩)] (wr.alloc (.cells #[.string p.text,.string p.bytes] 82)) fun e z=>e=.returned (.tuple #[])∧z.cell? ⟨wr.heap.size,0,none⟩=some (.string p.text)∧z.cell? ⟨wr.heap.size,1,none⟩=some (.string p.bytes)∧YieldAt Fence.wide (n - 1) Tryz.prog l #[.agg #[.string p.text,.string p.bytes]] z fun e z'=>e=.returned (.bool true)∧I (i+1) z'):=hide (by
     rw [← hX1]
     refine (iLose (hW1.below hb1)).mono ?_
     rintro e z ⟨rfl,v2,hWz,hfz⟩
     have hNz:z.heap[wr.heap.size]?=some (.cells #[.string p.text,.string p.bytes] 82):=(hfz.same _ (Array.getElem?_eq_some_iff.1 hN).1 (by omega) (fun e=>by have:=hol _ e;omega)).trans hN
     exact ⟨rfl,by rw [cr hNz];rfl,by rw [cr hNz];rfl,hY1 p r z v2 rfl hWz ((Fr.of_below hb1).trans hfz)⟩)
    have cc2:(wr.alloc (.cells #[.string p.text,.string p.bytes] 82)).cell? ⟨C2,0,none⟩=some (.pointer (some ⟨B,k,none⟩)):=(hb1.cell (p:=⟨C2,0,none⟩) C2l).trans c2
    subst hv1
    clear hW1 hF hb1 hN hBl hol HW1 HF b1 b2 hI hY1 hdr
    obtain ⟨pt,pb⟩:=p
    dsimp only at x0 x1 CL cc2
    have h1n:1≤n - 1∨n - 1=0:=by omega
    gi_wp2_with (refine ⟨trivial,?_⟩;gi_at_call 42;refine (callsIn_wide.2 (uh CL)).mono ?_;clear CL;rintro e z ⟨rfl,y0,y1,fn,tmps,assign,body,hy,hR⟩)
    refine hR.mono ?_
    rintro e z' ⟨rfl,hI'⟩
    gi_wp2
    go_roundw
    case rel=>exact ⟨i+1,by omega,by go_num,hI'⟩
    case measure=>simp [intOf];omega
  ·have e:i=m:=by omega
   subst e
   have d1:¬ ((i:Int)<(i:Int)):=by omega
   gi_wp2
   go_end0
   exact ⟨⟨_,rfl⟩,hF⟩
end Go.Proofs.YtkcghhkkepndnaaGreatDoor
