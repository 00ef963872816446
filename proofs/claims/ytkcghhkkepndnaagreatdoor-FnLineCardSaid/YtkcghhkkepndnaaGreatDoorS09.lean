/- Good, the model's, of a text of at most 8000 bytes; what lay in memory stands. LapbRight, the model's: is an end of a numbered line right; what lay in memory stands. A new drawer over bytes that were handed in: it lies in new memory, and what lay there stands. -/
import Derived.Test.YtkcghhkkepndnaaGreatDoorS02
import Derived.Test.YtkcghhkkepndnaaGreatDoorS05
import Derived.Deep.WholeRow
import Derived.Test.YtkcghhkkepndnaaGreatDoorShW
namespace Go.Proofs.YtkcghhkkepndnaaGreatDoor
open Go.RowKit
set_option maxHeartbeats 400000 in
theorem many (b:Bool) (w:World):Calls Tryz.prog 127 #[.bool b] w fun e w'=>e=.returned (.int .i64 (if b then 4 else 2))∧w'=w:=by
 cases b
 all_goals
  go_enter Tryz.func127,Tryz.ntmps127
  go_wp2
  go_ret
  exact ⟨rfl,rfl⟩
theorem many' (b:Bool) (w:World):Calls Tryz.prog 127 #[.bool b] w fun e w'=>e=.returned (.int .i64 (tailN b:Nat))∧w'=w:=by
 have:=many b w
 cases b
 ·exact this
 ·exact this
set_option maxHeartbeats 1000000 in
theorem specGood_at (t:ByteArray) (b:Bool) (w:World) (k:Nat) (hk:t.size=k+tailN b) (h8:t.size≤8000) :
  Calls Tryz.prog 128 #[.string t,.bool b] w fun e w'=>e=.returned (.bool ((tailV (t.extract 0 k) b).toList == (t.extract k t.size).toList))∧Below w.heap.size w w':=by
 have hkl:k≤t.size:=by omega
 have HC:Hid (∀ w,Calls Tryz.prog 101 #[.string (t.extract 0 k),.bool b] w fun e w'=>e=.returned (.string (tailV (t.extract 0 k) b))∧Below w.heap.size w w'):=by
  refine hide fun w=>?_
  rw [show tailV (t.extract 0 k) b=tailB (t.extract 0 k).data.toList b from if_pos (by rw [extract_size t k hkl];omega)]
  exact specTail (t.extract 0 k) b w (by rw [extract_size t k hkl];unfold maxLen;omega)
 have hs:=many' b
 have hc4:=tailN_le b
 generalize tailN b=c at *
 have hkk:(t.size:Int) - (c:Int)=(k:Int):=by omega
 have hki:(k:Int)≤(t.size:Int):=by omega
 have hk0:decide ((0:Int)≤(k:Int))=true:=decide_eq_true (by omega)
 have HS:=hide hs
 clear hs hk
 generalize tailV (t.extract 0 k) b=V at *
 go_enter Tryz.func128,Tryz.ntmps128
 go_wp2_with fail
 refine (uh HS _).mono ?_
 rintro e w1 ⟨rfl,rfl⟩
 go_wp2_with fail
 go_region_held (fun _=>True) (trivial) (first
  | (go_at_call 101;refine (uh HC _).mono ?_;rintro e w2 ⟨rfl,hb2⟩))
 go_wp2
 go_ret
 exact ⟨rfl,(Below.refl _ _).drew.trans hb2⟩

set_option maxHeartbeats 400000 in
theorem specGood_no (t:ByteArray) (b:Bool) (w:World) (h:t.size<tailN b) :
  Calls Tryz.prog 128 #[.string t,.bool b] w fun e w'=>e=.returned (.bool false)∧Below w.heap.size w w':=by
 have hs:=many' b
 have hc4:=tailN_le b
 generalize tailN b=c at *
 have HS:=hide hs
 clear hs
 obtain ⟨z,hz⟩:∃ z:Int,(t.size:Int) - (c:Int)=z:=⟨_,rfl⟩
 have hd:decide ((0:Int)≤z)=false:=decide_eq_false (by omega)
 have hz1:-4≤z:=by omega
 have hz2:z<0:=by omega
 clear h
 go_enter Tryz.func128,Tryz.ntmps128
 go_wp2_with fail
 refine (uh HS _).mono ?_
 rintro e w1 ⟨rfl,rfl⟩
 go_wp2_with fail
 go_quiet (fail)
 go_wp2
 go_ret
 exact ⟨rfl,rfl,rfl,rfl,Nat.le_refl _,fun _ _=>rfl⟩

set_option maxHeartbeats 400000 in
theorem sFar (n a:Int) (hn:0≤n∧n≤7) (ha:0≤a∧a≤7) (w:World):Calls Tryz.prog 71 #[.int .i64 a,.int .i64 n] w fun e w'=>e=.returned (.int .i64 (far n a))∧w'=w:=by
 unfold far
 go_enter Tryz.func71,Tryz.ntmps71
 go_wp2
 go_ret
 exact ⟨ret_int (by omega),rfl⟩
set_option maxHeartbeats 4000000 in
theorem sLpRight (p:Lp) (x:Option Addr) (y:Nat) (L:List ByteArray) (w:World) (hl:L.length≤1048576) (h:HoldsS w (.slice x L.length y) L) :
  Calls Tryz.prog 69 #[.agg (lpC p (.slice x L.length y))] w fun e w'=>e=.returned (.bool (lpOk p L))∧Below w.heap.size w w':=by
 have C1:=hide fun v=>sWin p.wi v
 have C2:=hide fun v=>sNumber p.vs v
 have C3:=hide fun v=>sNumber p.va v
 have C4:=hide fun v=>sNumber p.vr v
 have hA:=hide ((Below.refl w.heap.size w).alloc (Nat.le_refl _) (.cells (lpC p (.slice x L.length y)) 54))
 have hN:=hide (heap_alloc_new w (.cells (lpC p (.slice x L.length y)) 54))
 have HA:=hide h
 obtain ⟨R,hR⟩:∃ R,lpOk p L=R:=⟨_,rfl⟩
 rw [hR]
 unfold lpOk qOk at hR
 have n2:(decide (0≤p.vs) && decide (p.vs≤7))=numOk p.vs:=rfl
 have n3:(decide (0≤p.va) && decide (p.va≤7))=numOk p.va:=rfl
 have n4:(decide (0≤p.vr) && decide (p.vr≤7))=numOk p.vr:=rfl
 rw [n2] at C2
 rw [n3] at C3
 rw [n4] at C4
 obtain ⟨wi,vs,va,vr,ak⟩:=p
 unfold lpC at hA hN ⊢
 dsimp only at *
 clear h n2 n3 n4
 generalize hn:L.length=n at *
 cases b1:winOk wi
 ·rw [b1] at hR
  simp only [Bool.false_and] at hR
  subst hR
  rw [b1] at C1
  go_enter Tryz.func69,Tryz.ntmps69
  go_wp2_with fail
  refine (uh C1 _).mono ?_
  rintro e w2 ⟨rfl,hw⟩
  replace hw:=hw.symm
  subst hw
  go_wp2
  go_ret
  exact ⟨rfl,uh hA⟩
 cases b2:numOk vs
 ·rw [b1,b2] at hR
  simp only [Bool.true_and,Bool.false_and] at hR
  subst hR
  rw [b1] at C1
  rw [b2] at C2
  go_enter Tryz.func69,Tryz.ntmps69
  go_wp2_with fail
  refine (uh C1 _).mono ?_
  rintro e w2 ⟨rfl,hw⟩
  replace hw:=hw.symm
  subst hw
  go_wp2_with fail
  refine (uh C2 _).mono ?_
  rintro e w2 ⟨rfl,hw⟩
  replace hw:=hw.symm
  subst hw
  go_wp2
  go_ret
  exact ⟨rfl,uh hA⟩
 cases b3:numOk va
 ·rw [b1,b2,b3] at hR
  simp only [Bool.true_and,Bool.false_and] at hR
  subst hR
  rw [b1] at C1
  rw [b2] at C2
  rw [b3] at C3
  go_enter Tryz.func69,Tryz.ntmps69
  go_wp2_with fail
  refine (uh C1 _).mono ?_
  rintro e w2 ⟨rfl,hw⟩
  replace hw:=hw.symm
  subst hw
  go_wp2_with fail
  refine (uh C2 _).mono ?_
  rintro e w2 ⟨rfl,hw⟩
  replace hw:=hw.symm
  subst hw
  go_wp2_with fail
  refine (uh C3 _).mono ?_
  rintro e w2 ⟨rfl,hw⟩
  replace hw:=hw.symm
  subst hw
  go_wp2
  go_ret
  exact ⟨rfl,uh hA⟩
 cases b4:numOk vr
 ·rw [b1,b2,b3,b4] at hR
  simp only [Bool.true_and,Bool.false_and] at hR
  subst hR
  rw [b1] at C1
  rw [b2] at C2
  rw [b3] at C3
  rw [b4] at C4
  go_enter Tryz.func69,Tryz.ntmps69
  go_wp2_with fail
  refine (uh C1 _).mono ?_
  rintro e w2 ⟨rfl,hw⟩
  replace hw:=hw.symm
  subst hw
  go_wp2_with fail
  refine (uh C2 _).mono ?_
  rintro e w2 ⟨rfl,hw⟩
  replace hw:=hw.symm
  subst hw
  go_wp2_with fail
  refine (uh C3 _).mono ?_
  rintro e w2 ⟨rfl,hw⟩
  replace hw:=hw.symm
  subst hw
  go_wp2_with fail
  refine (uh C4 _).mono ?_
  rintro e w2 ⟨rfl,hw⟩
  replace hw:=hw.symm
  subst hw
  go_wp2
  go_ret
  exact ⟨rfl,uh hA⟩
 rw [b1,b2,b3,b4] at hR
 simp only [Bool.true_and] at hR
 rw [b1] at C1
 rw [b2] at C2
 rw [b3] at C3
 rw [b4] at C4
 by_cases h20:¬ n≤20
 ·rw [show decide (n≤20)=false from decide_eq_false h20,Bool.false_and,Bool.false_and] at hR
  subst hR
  have d1:(20:Int)<(n:Int):=by omega
  go_enter Tryz.func69,Tryz.ntmps69
  go_wp2_with fail
  refine (uh C1 _).mono ?_
  rintro e w2 ⟨rfl,hw⟩
  replace hw:=hw.symm
  subst hw
  go_wp2_with fail
  refine (uh C2 _).mono ?_
  rintro e w2 ⟨rfl,hw⟩
  replace hw:=hw.symm
  subst hw
  go_wp2_with fail
  refine (uh C3 _).mono ?_
  rintro e w2 ⟨rfl,hw⟩
  replace hw:=hw.symm
  subst hw
  go_wp2_with fail
  refine (uh C4 _).mono ?_
  rintro e w2 ⟨rfl,hw⟩
  replace hw:=hw.symm
  subst hw
  go_wp2
  go_ret
  exact ⟨rfl,uh hA⟩
 replace h20:n≤20:=by omega
 rw [show decide (n≤20)=true from decide_eq_true h20,Bool.true_and] at hR
 have d1:¬ ((20:Int)<(n:Int)):=by omega
 have CF:=hide fun v=>sFar vs va (numOk_iff b2) (numOk_iff b3) v
 obtain ⟨f0,f8⟩:=far_lt vs va
 have w1:=winOk_iff b1
 generalize far vs va=f at *
 go_enter Tryz.func69,Tryz.ntmps69
 go_wp2_with fail
 refine (uh C1 _).mono ?_
 rintro e w2 ⟨rfl,hw⟩
 replace hw:=hw.symm
 subst hw
 go_wp2_with fail
 refine (uh C2 _).mono ?_
 rintro e w2 ⟨rfl,hw⟩
 replace hw:=hw.symm
 subst hw
 go_wp2_with fail
 refine (uh C3 _).mono ?_
 rintro e w2 ⟨rfl,hw⟩
 replace hw:=hw.symm
 subst hw
 go_wp2_with fail
 refine (uh C4 _).mono ?_
 rintro e w2 ⟨rfl,hw⟩
 replace hw:=hw.symm
 subst hw
 go_wp2_with fail
 refine gen_world (fun q=>q.heap[w.heap.size]?=some (.cells #[.int .i64 wi,.int .i64 vs,.int .i64 va,.int .i64 vr,.slice x n y,.bool ak] 54)∧Below w.heap.size w q) ⟨uh hN,uh hA⟩ ?_
 rintro q ⟨hq1,hq2⟩
 obtain ⟨a0,a1,a2,a3,a4,a5⟩:=row6l hq1
 have HH:=(uh HA).below (show Below w.heap.size w q from hq2)
 replace HA:=hide HH
 have HB:=hide hq2
 obtain ⟨Ra,hRa⟩:∃ Ra,(L.all fun t=>decide (t.size≤200))=Ra:=⟨_,rfl⟩
 rw [hRa] at hR
 have HR:=hide hRa
 clear hq1 hq2 HH hRa hA hN C1 C2 C3 C4
 go_loopw [3] (fun y wr=>∃ (i:Nat),i≤n∧y=.int .i64 i∧wr=q∧((L.take i).all fun t=>decide (t.size≤200))=true) (fun y _=>n - (intOf y).toNat)
 case atStart=>exact ⟨0,Nat.zero_le _,rfl,rfl,rfl⟩
 case round =>
  obtain ⟨i,hi,rfl,rfl,ha⟩:=hrel
  by_cases hlt:i<n
  ·have d2:(i:Int)<(n:Int):=by omega
   have d0:(0:Int)≤(i:Int):=by omega
   obtain ⟨g,o,cp,e1,hg,k1⟩:=(uh HA).get i (by omega)
   cases e1
   by_cases h2:(L[i]'(by omega)).size≤200
   ·have hT:=all_take (L:=L) (i:=i) (by omega)
    rw [ha,decide_eq_true h2,Bool.true_and] at hT
    have HT:=hide hT
    have d3:¬ ((200:Int)<((L[i]'(by omega)).size:Int)):=by omega
    generalize L[i]'(by omega)=t at *
    clear ha hT
    go_wp2
    go_roundw
    case rel=>exact ⟨i+1,by omega,by go_num,trivial,uh HT⟩
    case measure=>simp [intOf];omega
   ·have hT:=all_not (L:=L) (i:=i) (by omega) h2
    have hRa:=(uh HR).symm.trans hT
    subst hRa
    rw [Bool.false_and] at hR
    subst hR
    have d3:(200:Int)<((L[i]'(by omega)).size:Int):=by omega
    generalize L[i]'(by omega)=t at *
    clear ha hT
    go_wp2
    go_ret
    exact ⟨rfl,uh HB⟩
  ·have e:i=n:=by omega
   subst e
   rw [List.take_of_length_le (by omega)] at ha
   have hRa:=(uh HR).symm.trans ha
   subst hRa
   rw [Bool.true_and] at hR
   have d1:¬ ((i:Int)<(i:Int)):=by omega
   clear ha
   by_cases hf:f≤wi
   ·have d2:decide (f≤wi)=true:=decide_eq_true hf
    rw [d2,Bool.true_and] at hR
    subst hR
    go_wp2_with fail
    refine (uh CF _).mono ?_
    rintro e w2 ⟨rfl,hw⟩
    replace hw:=hw.symm
    subst hw
    go_wp2
    go_ret
    exact ⟨rfl,uh HB⟩
   ·have d2:decide (f≤wi)=false:=decide_eq_false hf
    rw [d2,Bool.false_and] at hR
    subst hR
    go_wp2_with fail
    refine (uh CF _).mono ?_
    rintro e w2 ⟨rfl,hw⟩
    replace hw:=hw.symm
    subst hw
    go_wp2
    go_ret
    exact ⟨rfl,uh HB⟩

theorem mul64 (Y:Int):∃ m:Nat,m<18446744073709551616∧IntKind.u64.wrap Y=(m:Int):=by
 rw [IntKind.wrap_u64]
 obtain ⟨m,hm⟩:=Int.eq_ofNat_of_zero_le (Int.emod_nonneg Y (show (18446744073709551616:Int)≠0 by decide))
 exact ⟨m,by have:=Int.emod_lt_of_pos Y (show (0:Int)<18446744073709551616 by decide);omega,hm⟩
theorem Dat.mono {w:World} {B B':Nat} {sl:Value} {n:Nat} (h:Dat w B sl n) (hb:B≤B'):Dat w B' sl n :=
 ⟨h.1,fun i hi=>by
  obtain ⟨b,o,cap,x,h1,h2,h3,h4⟩:=h.2 i hi
  exact ⟨b,o,cap,x,h1,by omega,h3,h4⟩⟩

set_option maxHeartbeats 1000000 in
theorem src_new (w:World) (sl:Value) (n:Nat) (hn:n≤maxLen) (hD:Dat w w.heap.size sl n) :
  Calls Tryz.prog 19 #[sl] w fun e w'=>e=.returned (.pointer (some ⟨w.heap.size,0,none⟩))∧Src w' w.heap.size sl n∧Below w.heap.size w w':=by
 obtain ⟨sa,scap,rfl⟩:=hD.1
 unfold maxLen at hn
 go_enter Tryz.func19,Tryz.ntmps19
 go_wp2_with fail
 go_loopw [4] (fun i wr=>∃ (j m:Nat),j≤n∧j≤64∧i=.int .i64 j∧m<18446744073709551616∧wr.heap[w.heap.size]?=some (.cells #[.slice sa n scap,.int .i64 0,.int .u64 m,.int .i64 0] 48)∧Below w.heap.size w wr) (fun i _=>64 - (intOf i).toNat)
 case atStart=>exact ⟨0,88172645463325252,by omega,by omega,rfl,by decide,heap_alloc_last w _,(Below.refl _ _).alloc (Nat.le_refl _) _⟩
 case round =>
  obtain ⟨j,m,hj1,hj2,rfl,hm,hB,hb1⟩:=hrel
  obtain ⟨c0,c1,c2,c3,f0,f1,f2,f3⟩:=row4 hB
  have HB:=hide hB
  clear hB
  by_cases hlt:j<n∧j<64
  ·obtain ⟨hlt1,hlt2⟩:=hlt
   obtain ⟨b,o,cap,x,hsl,hbb,hx,hx2⟩:=(hD.below hb1).2 j hlt1
   obtain ⟨rfl,rfl⟩:sa=some ⟨b,o,none⟩∧cap=scap:=by
    simp only [Value.slice.injEq,true_and] at hsl
    exact ⟨hsl.1,hsl.2.symm⟩
   have d1:decide ((j:Int)<(n:Int))=true:=decide_eq_true (by omega)
   have d2:decide ((j:Int)<64)=true:=decide_eq_true (by omega)
   have hne:b≠w.heap.size:=by omega
   clear hsl
   have HD:=hide hD
   clear hD
   go_wp2_with fail
   go_region
   go_wp2
   obtain ⟨m2,hm2,e2⟩:=mul64 (bits .xor .u64 (m:Int) (x:Int)*1099511628211)
   go_roundw
   case rel =>
    refine ⟨j+1,m2,by omega,by omega,by go_num,hm2,?_,?_⟩
    ·rw [← e2];exact set2 (w:=wr) (uh HB) _
    ·exact (hb1.setCell (p:=⟨w.heap.size,2,none⟩) (Nat.le_refl _) _).drew
   case measure=>simp [intOf];omega
  ·by_cases hlt1:j<n
   ·have d1:decide ((j:Int)<(n:Int))=true:=decide_eq_true (by omega)
    have d2:decide ((j:Int)<64)=false:=decide_eq_false (by omega)
    by_cases h12:12<n / 20
    ·have h12':(12:Int)<(n:Int) / 20:=by omega
     go_wp2
     go_ret
     exact ⟨rfl,⟨0,m,12,Nat.zero_le _,hm,by omega,set3 (w:=wr.setCell ⟨w.heap.size,3,none⟩ _) (set3 (w:=wr) (uh HB) _) _⟩,(hb1.setCell (p:=⟨w.heap.size,3,none⟩) (Nat.le_refl _) _).setCell (p:=⟨w.heap.size,3,none⟩) (Nat.le_refl _) _⟩
    ·have h12':¬ ((12:Int)<(n:Int) / 20):=by omega
     go_wp2
     go_ret
     exact ⟨rfl,⟨0,m,n / 20,Nat.zero_le _,hm,by omega,set3 (w:=wr) (uh HB) _⟩,hb1.setCell (p:=⟨w.heap.size,3,none⟩) (Nat.le_refl _) _⟩
   ·have d1:decide ((j:Int)<(n:Int))=false:=decide_eq_false (by omega)
    have h12':¬ ((12:Int)<(n:Int) / 20):=by omega
    go_wp2
    go_ret
    exact ⟨rfl,⟨0,m,n / 20,Nat.zero_le _,hm,by omega,set3 (w:=wr) (uh HB) _⟩,hb1.setCell (p:=⟨w.heap.size,3,none⟩) (Nat.le_refl _) _⟩
end Go.Proofs.YtkcghhkkepndnaaGreatDoor
