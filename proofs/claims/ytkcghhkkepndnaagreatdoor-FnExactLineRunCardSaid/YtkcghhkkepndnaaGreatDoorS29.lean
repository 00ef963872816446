/- Deframe, the program's and the model's, of any Deframer and text: one answer; what lay in memory stands; the program's under the library's two tables as they are laid. The program's iterator over a line: it takes so many sent frames off its front, and hands each on; no condition but those named. -/
import Derived.Test.YtkcghhkkepndnaaGreatDoorS28
import Derived.Test.YtkcghhkkepndnaaGreatDoorS18
import Derived.Test.YtkcghhkkepndnaaGreatDoorS17
import Derived.Test.YtkcghhkkepndnaaGreatDoorS13
import Derived.Test.YtkcghhkkepndnaaGreatDoorS01
import Derived.Shelf.Abstract
import Derived.Shelf.RegionOpen
import Derived.WalkKit
import Derived.OwnWalkIn
import Derived.TacticsInMore
import Derived.LoopNIn
import Derived.LoopIn
import Derived.Test.YtkcghhkkepndnaaGreatDoorShW
namespace Go.Proofs.YtkcghhkkepndnaaGreatDoor
open Go.RowKit
structure Ans where
 wide:Bool
 x:Int
 inn:Bool
 esc:Bool
 long:Bool
 text:ByteArray
 F:List Hd.Fd
 code:Int
def ansV (A:Ans) (v:Value):Value:=.agg #[.bool A.wide,.int .i64 A.x,.bool A.inn,.bool A.esc,.bool A.long,.string A.text,v,.int .i64 A.code]
def ansOf (wide:Bool) (x:Int) (inn esc long:Bool) (u t:ByteArray):Ans :=
 if t.size≤8000 then
  if rightV x inn esc long u=true then
   ⟨wide,x,(Hd.run x.toNat ⟨inn,esc,long,u.data.toList⟩ t.data.toList).inn,(Hd.run x.toNat ⟨inn,esc,long,u.data.toList⟩ t.data.toList).esc,(Hd.run x.toNat ⟨inn,esc,long,u.data.toList⟩ t.data.toList).long,txt (Hd.run x.toNat ⟨inn,esc,long,u.data.toList⟩ t.data.toList).held,(Hd.finds (gd wide) x.toNat ⟨inn,esc,long,u.data.toList⟩ t.data.toList).take 400,0⟩
  else ⟨false,0,false,false,false,⟨#[]⟩,[],1⟩
 else ⟨false,0,false,false,false,⟨#[]⟩,[],2⟩
theorem right_get {x:Int} {inn esc long:Bool} {u:ByteArray} (h:rightV x inn esc long u=true):(∃ a:Nat,x=a∧a<4294967296)∧u.size≤304:=by
 unfold rightV at h
 rw [Bool.and_eq_true,Bool.and_eq_true] at h
 exact ⟨accOk_get h.1,of_decide_eq_true h.2.1⟩
theorem ans_of_own {w w':World} {v:Value} {F:List Hd.Fd} (h:w'.ownsRow w.heap.size 113 2 v F.length (fcells F)):HoldsF w' v F∧∀ g,v.ownBlock=some g→w.heap.size≤g :=
 ⟨HoldsF.own h,fun g hg=>(World.ownsRow.lt h g hg).1⟩
set_option maxHeartbeats 1000000 in
theorem implDefr_long (wide:Bool) (x:Int) (inn esc long:Bool) (u t:ByteArray) (w:World) (ht:t.size≤maxLen) (h8:¬ t.size≤8000) :
  Calls Tryz.prog 93 #[.agg #[.bool wide,.int .i64 x,.bool inn,.bool esc,.bool long,.string u],.string t] w fun e w'=>e=.returned (ansV ⟨false,0,false,false,false,⟨#[]⟩,[],2⟩ (.slice none 0 0))∧Below w.heap.size w w':=by
 unfold maxLen at ht
 have d0:(8000:Int)<(t.size:Int):=by omega
 go_enter Tryz.func93,Tryz.ntmps93
 go_wp2
 refine bodyPost_ret (v:=ansV ⟨false,0,false,false,false,⟨#[]⟩,[],2⟩ (.slice none 0 0)) (by simp [results,Tryz.results93,go_sem,ansV]) rfl ⟨rfl,?_⟩
 exact ((Below.refl _ _).alloc (Nat.le_refl _) _).alloc (by simp) _
set_option maxHeartbeats 1000000 in
theorem implDefr_wrong (wide:Bool) (x:Int) (inn esc long:Bool) (u t:ByteArray) (w:World) (hu:u.size≤maxLen) (h8:t.size≤8000) (hr:rightV x inn esc long u=false) :
  Calls Tryz.prog 93 #[.agg #[.bool wide,.int .i64 x,.bool inn,.bool esc,.bool long,.string u],.string t] w fun e w'=>e=.returned (ansV ⟨false,0,false,false,false,⟨#[]⟩,[],1⟩ (.slice none 0 0))∧Below w.heap.size w w':=by
 have d0:¬ ((8000:Int)<(t.size:Int)):=by omega
 have C1:=hide fun v=>implRight wide x inn esc long u v hu
 rw [hr] at C1
 go_enter Tryz.func93,Tryz.ntmps93
 go_wp2_with fail
 refine (uh C1 _).mono ?_
 rintro e w1 ⟨rfl,hb1⟩
 have hsz0:((w.alloc (.cells #[.bool wide,.int .i64 x,.bool inn,.bool esc,.bool long,.string u] 59)).alloc (.cells #[.bool false,.int .i64 0,.bool false,.bool false,.bool false,.string ⟨#[]⟩,.slice none 0 0,.int .i64 0] 121)).heap.size=w.heap.size+2:=by simp
 have hO1:w1.heap[w.heap.size+1]?=some (.cells #[.bool false,.int .i64 0,.bool false,.bool false,.bool false,.string ⟨#[]⟩,.slice none 0 0,.int .i64 0] 121):=by
  rw [hb1.block (w.heap.size+1) (by rw [hsz0];omega)]
  have h:=heap_alloc_last (w.alloc (.cells #[.bool wide,.int .i64 x,.bool inn,.bool esc,.bool long,.string u] 59)) (.cells #[.bool false,.int .i64 0,.bool false,.bool false,.bool false,.string ⟨#[]⟩,.slice none 0 0,.int .i64 0] 121)
  rw [show (w.alloc (.cells #[.bool wide,.int .i64 x,.bool inn,.bool esc,.bool long,.string u] 59)).heap.size=w.heap.size+1 by simp] at h
  exact h
 have hB1:Below w.heap.size w w1:=(((Below.refl _ _).alloc (Nat.le_refl _) _).alloc (by simp) _).trans (hb1.mono (by rw [hsz0];omega))
 obtain ⟨o0,o1,o2,o3,o4,o5,o6,o7,q0,q1,q2,q3,q4,q5,q6,q7⟩:=row8s hO1
 have HL:=hide (put8_load hO1)
 have HBB:=hide (put8_below (B:=w.heap.size+1) hB1 (show w.heap.size≤w.heap.size+1 by omega))
 clear hO1 hB1 hb1 hsz0
 go_wp2
 refine bodyPost_ret (v:=ansV ⟨false,0,false,false,false,⟨#[]⟩,[],1⟩ (.slice none 0 0)) ?_ rfl ⟨rfl,?_⟩
 ·have hld:=uh HL (.bool false) (.int .i64 0) (.bool false) (.bool false) (.bool false) (.string ⟨#[]⟩) (.slice none 0 0) (.int .i64 1)
  rw [results_cell rfl]
  simp [asAddr,Result.andThen,hld,ansV]
 ·exact uh HBB _ _ _ _ _ _ _ _
set_option maxHeartbeats 1000000 in
theorem specDefr_long (wide:Bool) (x:Int) (inn esc long:Bool) (u t:ByteArray) (w:World) (ht:t.size≤maxLen) (h8:¬ t.size≤8000) :
  Calls Tryz.prog 75 #[.agg #[.bool wide,.int .i64 x,.bool inn,.bool esc,.bool long,.string u],.string t] w fun e w'=>e=.returned (ansV ⟨false,0,false,false,false,⟨#[]⟩,[],2⟩ (.slice none 0 0))∧Below w.heap.size w w':=by
 unfold maxLen at ht
 have d0:(8000:Int)<(t.size:Int):=by omega
 go_enter Tryz.func75,Tryz.ntmps75
 go_wp2
 refine bodyPost_ret (v:=ansV ⟨false,0,false,false,false,⟨#[]⟩,[],2⟩ (.slice none 0 0)) (by simp [results,Tryz.results75,go_sem,ansV]) rfl ⟨rfl,?_⟩
 exact ((Below.refl _ _).alloc (Nat.le_refl _) _).alloc (by simp) _
set_option maxHeartbeats 1000000 in
theorem specDefr_wrong (wide:Bool) (x:Int) (inn esc long:Bool) (u t:ByteArray) (w:World) (hu:u.size≤maxLen) (h8:t.size≤8000) (hr:rightV x inn esc long u=false) :
  Calls Tryz.prog 75 #[.agg #[.bool wide,.int .i64 x,.bool inn,.bool esc,.bool long,.string u],.string t] w fun e w'=>e=.returned (ansV ⟨false,0,false,false,false,⟨#[]⟩,[],1⟩ (.slice none 0 0))∧Below w.heap.size w w':=by
 have d0:¬ ((8000:Int)<(t.size:Int)):=by omega
 have C1:=hide fun v=>specRight wide x inn esc long u v hu
 rw [hr] at C1
 go_enter Tryz.func75,Tryz.ntmps75
 go_wp2_with fail
 refine (uh C1 _).mono ?_
 rintro e w1 ⟨rfl,hb1⟩
 have hsz0:((w.alloc (.cells #[.bool wide,.int .i64 x,.bool inn,.bool esc,.bool long,.string u] 59)).alloc (.cells #[.bool false,.int .i64 0,.bool false,.bool false,.bool false,.string ⟨#[]⟩,.slice none 0 0,.int .i64 0] 121)).heap.size=w.heap.size+2:=by simp
 have hO1:w1.heap[w.heap.size+1]?=some (.cells #[.bool false,.int .i64 0,.bool false,.bool false,.bool false,.string ⟨#[]⟩,.slice none 0 0,.int .i64 0] 121):=by
  rw [hb1.block (w.heap.size+1) (by rw [hsz0];omega)]
  have h:=heap_alloc_last (w.alloc (.cells #[.bool wide,.int .i64 x,.bool inn,.bool esc,.bool long,.string u] 59)) (.cells #[.bool false,.int .i64 0,.bool false,.bool false,.bool false,.string ⟨#[]⟩,.slice none 0 0,.int .i64 0] 121)
  rw [show (w.alloc (.cells #[.bool wide,.int .i64 x,.bool inn,.bool esc,.bool long,.string u] 59)).heap.size=w.heap.size+1 by simp] at h
  exact h
 have hB1:Below w.heap.size w w1:=(((Below.refl _ _).alloc (Nat.le_refl _) _).alloc (by simp) _).trans (hb1.mono (by rw [hsz0];omega))
 obtain ⟨o0,o1,o2,o3,o4,o5,o6,o7,q0,q1,q2,q3,q4,q5,q6,q7⟩:=row8s hO1
 have HL:=hide (put8_load hO1)
 have HBB:=hide (put8_below (B:=w.heap.size+1) hB1 (show w.heap.size≤w.heap.size+1 by omega))
 clear hO1 hB1 hb1 hsz0
 go_wp2
 refine bodyPost_ret (v:=ansV ⟨false,0,false,false,false,⟨#[]⟩,[],1⟩ (.slice none 0 0)) ?_ rfl ⟨rfl,?_⟩
 ·have hld:=uh HL (.bool false) (.int .i64 0) (.bool false) (.bool false) (.bool false) (.string ⟨#[]⟩) (.slice none 0 0) (.int .i64 1)
  rw [results_cell rfl]
  simp [asAddr,Result.andThen,hld,ansV]
 ·exact uh HBB _ _ _ _ _ _ _ _
theorem holds_nil (w:World) (ad:Option Addr) (cp:Nat):HoldsF w (.slice ad 0 cp) []:=Or.inl ⟨_,_,rfl,rfl⟩
theorem implDefrAll (wide:Bool) (x:Int) (inn esc long:Bool) (u t:ByteArray) (w:World) (hu:u.size≤maxLen) (ht:t.size≤maxLen) (hT:Lib.Utf8Tabs 0 1 w) :
  Calls Tryz.prog 93 #[.agg #[.bool wide,.int .i64 x,.bool inn,.bool esc,.bool long,.string u],.string t] w fun e w'=>∃ v,e=.returned (ansV (ansOf wide x inn esc long u t) v)∧(HoldsF w' v (ansOf wide x inn esc long u t).F∧∀ g,v.ownBlock=some g→w.heap.size≤g)∧Below w.heap.size w w':=by
 by_cases h8:t.size≤8000
 ·cases hr:rightV x inn esc long u
  ·rw [show ansOf wide x inn esc long u t=_ from (if_pos h8).trans (if_neg (by rw [hr];decide))]
   exact (implDefr_wrong wide x inn esc long u t w hu h8 hr).mono fun e w' ⟨p1,p2⟩=>⟨_,p1,⟨holds_nil _ _ _,fun g hg=>by cases hg⟩,p2⟩
  ·obtain ⟨⟨a,rfl,ha⟩,hu4⟩:=right_get hr
   rw [show ansOf wide a inn esc long u t=_ from (if_pos h8).trans (if_pos hr),Int.toNat_natCast]
   exact (implDeframe_at wide a inn esc long u t w ha h8 hu4 hr hT).mono fun e w' ⟨v,p1,p2,p3⟩=>⟨v,p1,ans_of_own p2,p3⟩
 ·rw [show ansOf wide x inn esc long u t=_ from if_neg h8]
  exact (implDefr_long wide x inn esc long u t w ht h8).mono fun e w' ⟨p1,p2⟩=>⟨_,p1,⟨holds_nil _ _ _,fun g hg=>by cases hg⟩,p2⟩
theorem specDefrAll (wide:Bool) (x:Int) (inn esc long:Bool) (u t:ByteArray) (w:World) (hu:u.size≤maxLen) (ht:t.size≤maxLen) :
  Calls Tryz.prog 75 #[.agg #[.bool wide,.int .i64 x,.bool inn,.bool esc,.bool long,.string u],.string t] w fun e w'=>∃ v,e=.returned (ansV (ansOf wide x inn esc long u t) v)∧(HoldsF w' v (ansOf wide x inn esc long u t).F∧∀ g,v.ownBlock=some g→w.heap.size≤g)∧Below w.heap.size w w':=by
 by_cases h8:t.size≤8000
 ·cases hr:rightV x inn esc long u
  ·rw [show ansOf wide x inn esc long u t=_ from (if_pos h8).trans (if_neg (by rw [hr];decide))]
   exact (specDefr_wrong wide x inn esc long u t w hu h8 hr).mono fun e w' ⟨p1,p2⟩=>⟨_,p1,⟨holds_nil _ _ _,fun g hg=>by cases hg⟩,p2⟩
  ·obtain ⟨⟨a,rfl,ha⟩,hu4⟩:=right_get hr
   rw [show ansOf wide a inn esc long u t=_ from (if_pos h8).trans (if_pos hr),Int.toNat_natCast]
   exact (specDeframe_at wide a inn esc long u t w ha h8 hu4 hr).mono fun e w' ⟨v,p1,p2,p3⟩=>⟨v,p1,ans_of_own p2,p3⟩
 ·rw [show ansOf wide x inn esc long u t=_ from if_neg h8]
  exact (specDefr_long wide x inn esc long u t w ht h8).mono fun e w' ⟨p1,p2⟩=>⟨_,p1,⟨holds_nil _ _ _,fun g hg=>by cases hg⟩,p2⟩
end Go.Proofs.YtkcghhkkepndnaaGreatDoor
namespace Go.Proofs.YtkcghhkkepndnaaGreatDoor
open Go.RowKit Go.Shelf
attribute [local go_sem] Oper.semAt_some
theorem cell1L {W:World} {C:Nat} {x:Value} {T:TypeId} (h:W.heap[C]?=some (.cells #[x] T)):W.cell? ⟨C,0,none⟩=some x:=by rw [cr h];rfl
set_option maxHeartbeats 8000000 in
set_option maxRecDepth 100000 in
theorem iCome1 {base:Nat} {T:TypeId} {n l B k C1 C2 m0 cnt:Nat} {W:World} (hn:1≤n) (I:Nat→World→Prop)
  (hI:∀ i y,I i y→y.heap[C1]?=some (.cells #[.int .i64 (cnt:Int)] 3)∧y.heap[C2]?=some (.cells #[.pointer (some ⟨B,k,none⟩)] 108)∧∃ X Z v L,X.length=k∧Wr base T y B X Z v L∧L.length+i=m0 ∧
   ∀ p r z v',L=p :: r→Wr base T z B X Z v' r→Fr B v v' y z→YieldAt Fence.wide (n - 1) Tryz.prog l #[.agg #[.string p.text,.string p.bytes]] z fun e z'=>e=.returned (.bool true)∧I (i+1) z')
  (hdr:∀ i y,I i y→I i y.drew) (h0:I 0 W) :
  CallsIn Fence.wide n Tryz.prog 89 #[.func (.yield l) #[] #[],.pointer (some ⟨C1,0,none⟩),.pointer (some ⟨C2,0,none⟩)] W fun e W'=>(∃ v,e=.returned v)∧I (min cnt m0) W':=by
 obtain ⟨b1,b2,X,Z,v,L,hX,hW,hm,_⟩:=hI 0 W h0
 have c1:=cell1L b1
 have c2:=cell1L b2
 have c3:=cell_blk hW.row
 rw [hX] at c3
 obtain ⟨ad,cp,hv⟩:=hW.hk.form
 subst hv
 have hm0:m0=L.length:=by omega
 have hL40:=hW.le
 subst hm0
 generalize hLn:L.length=q at *
 generalize hmm:min cnt q=m at *
 have hmin:(if q<cnt then (q:Int) else (cnt:Int))=(m:Int):=by
  split<;>omega
 clear hW b1 b2 hm
 refine callsIn_of_wp Tryz.func89 rfl trivial ?_ rfl
 simp only [Tryz.ntmps89,List.size_toArray,List.length_cons,List.length_nil,Nat.reduceAdd,Nat.reduceSub,Array.replicate_succ,Array.replicate_zero,List.push_toArray,List.append_toArray,List.nil_append,List.cons_append]
 gi_wp2
 refine wpIn_wide.2 ?_
 refine wp_region_held_drew (S:=fun z=>z.cell? ⟨C1,0,none⟩=some (.int .i64 (cnt:Int))∧z.cell? ⟨C2,0,none⟩=some (.pointer (some ⟨B,k,none⟩))∧z.cell? ⟨B,k,none⟩=some (.slice ad q cp)) (by kernel_rfl) ⟨c1,c2,c3⟩ (fun hHeld=>?_)
 refine t2 0 ?_
 refine t2 1 ?_
 refine t2 2 ?_
 refine t2 3 ?_
 refine t2 4 ?_
 refine t2 5 ?_
 refine t2 6 ?_
 refine t2 7 ?_
 refine dn ?_ _
 have h0d:I 0 W.drew:=hdr 0 W h0
 clear h0 c1 c2 c3
 generalize W.drew=y at h0d hHeld ⊢
 clear hHeld
 have hmq:m≤q:=by omega
 clear hmin
 gi_wp2
 gi_loopw [12] (fun p wr=>∃ i:Nat,i≤m∧p=.int .i64 i∧I i wr) (fun p _=>m - (intOf p).toNat)
 case atStart=>exact ⟨0,Nat.zero_le _,rfl,h0d⟩
 case round =>
  obtain ⟨i,hi,rfl,hF⟩:=hrel
  clear h0d
  by_cases hlt:i<m
  ·have d1:(i:Int)<(m:Int):=by omega
   obtain ⟨b1,b2,X1,Z1,v1,L1,hX1,hW1,hm1,hY1⟩:=hI i wr hF
   match L1,hW1,hm1,hY1 with
   | [],_,hm1,_=>simp at hm1;omega
   | p :: r,hW1,hm1,hY1 =>
    obtain ⟨g,o,cp1,cur,hv1,q1,q2,q3⟩:=hW1.hk.fst
    have c2:=cell1L b2
    have c3:=cell_blk hW1.row
    rw [hX1] at c3
    have x0:wr.cell? ⟨g,o,none⟩=some (.string p.text):=by rw [cr q1];exact q2
    have x1:wr.cell? ⟨g,o+1,none⟩=some (.string p.bytes):=by rw [cr q1];exact q3
    have hgl:g<wr.heap.size:=(Array.getElem?_eq_some_iff.1 q1).1
    clear q1 q2 q3
    have HW1:=hide hW1
    have HF:=hide hF
    have C2l:C2<wr.heap.size:=(Array.getElem?_eq_some_iff.1 b2).1
    have hb1:Below wr.heap.size wr (wr.alloc (.cells #[.string p.text,.string p.bytes] 82)):=(Below.refl _ _).alloc (Nat.le_refl _) _
    have hN:=heap_alloc_new wr (.cells #[.string p.text,.string p.bytes] 82)
    have hBl:=hW1.lt
    have hol:∀ g,v1.ownBlock=some g→g<wr.heap.size:=fun g hg=>(hW1.ownB g hg).2.2.1
    have CL:Hid (Calls Tryz.prog 42 #[.pointer (some ⟨B,k,none⟩)] (wr.alloc (.cells #[.string p.text,.string p.bytes] 82)) fun e z=>e=.returned (.tuple #[])∧z.cell? ⟨wr.heap.size,0,none⟩=some (.string p.text)∧z.cell? ⟨wr.heap.size,1,none⟩=some (.string p.bytes)∧YieldAt Fence.wide (n - 1) Tryz.prog l #[.agg #[.string p.text,.string p.bytes]] z fun e z'=>e=.returned (.bool true)∧I (i+1) z'):=hide (by
     rw [← hX1]
     refine (iLose (hW1.below hb1)).mono ?_
     rintro e z ⟨rfl,v2,hWz,hfz⟩
     have hNz:z.heap[wr.heap.size]?=some (.cells #[.string p.text,.string p.bytes] 82):=(hfz.same _ (Array.getElem?_eq_some_iff.1 hN).1 (by omega) (fun e=>by have:=hol _ e;omega)).trans hN
     exact ⟨rfl,by rw [cr hNz];rfl,by rw [cr hNz];rfl,hY1 p r z v2 rfl hWz ((Fr.of_below hb1).trans hfz)⟩)
    have cc2:(wr.alloc (.cells #[.string p.text,.string p.bytes] 82)).cell? ⟨C2,0,none⟩=some (.pointer (some ⟨B,k,none⟩)):=(hb1.cell (p:=⟨C2,0,none⟩) C2l).trans c2
    subst hv1
    clear hW1 hF hb1 hN hBl hol HW1 HF b1 b2 hI hY1 hdr
    obtain ⟨pt,pb⟩:=p
    dsimp only at x0 x1 CL cc2
    have h1n:1≤n - 1∨n - 1=0:=by omega
    gi_wp2_with (refine ⟨trivial,?_⟩;gi_at_call 42;refine (callsIn_wide.2 (uh CL)).mono ?_;clear CL;rintro e z ⟨rfl,y0,y1,fn,tmps,assign,body,hy,hR⟩)
    refine hR.mono ?_
    rintro e z' ⟨rfl,hI'⟩
    gi_wp2
    go_roundw
    case rel=>exact ⟨i+1,by omega,by go_num,hI'⟩
    case measure=>simp [intOf];omega
  ·have e:i=m:=by omega
   subst e
   have d1:¬ ((i:Int)<(i:Int)):=by omega
   gi_wp2
   go_end0
   exact ⟨⟨_,rfl⟩,hF⟩
end Go.Proofs.YtkcghhkkepndnaaGreatDoor
