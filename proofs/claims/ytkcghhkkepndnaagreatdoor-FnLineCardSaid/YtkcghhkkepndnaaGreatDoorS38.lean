/- The program's world of a numbered line runs through a script, and settles; what lay in memory stands but for the two ends and their rows; no condition but those named. -/
import Derived.Test.YtkcghhkkepndnaaGreatDoorS37
import Derived.Test.YtkcghhkkepndnaaGreatDoorS15
import Derived.Laws.Tables
import Derived.Laws.CopyOwn
import Derived.Test.YtkcghhkkepndnaaGreatDoorShW
namespace Go.Proofs.YtkcghhkkepndnaaGreatDoor
open Go.RowKit
theorem evN_neg (m:Nw) {e:Int} (h:e<0):evN m e=m:=if_pos h
theorem evN_at (m:Nw) (k r:Nat) (h:k % 8=r):evN m (k:Int)=(if r=0 then sendNextN m else if r=1 then cmB m else if r=2 then ⟨lnN m.a m.a.ln.tail,m.b,m.bad,m.un⟩ else if r=3 then ⟨lnN m.a (dbl m.a.ln),m.b,m.bad,m.un⟩ else if r=4 then spoilN m ((k / 8:Nat):Int) else if r=5 then cmA m else if r=6 then ⟨m.a,lnN m.b m.b.ln.tail,m.bad,m.un⟩ else sendAgainN m):=by
 have e0:¬ ((k:Int)<0):=by omega
 have e1:(k:Int) % 8=(r:Int):=by omega
 have e2:(k:Int) / 8=((k / 8:Nat):Int):=by omega
 unfold evN
 rw [if_neg e0,e1,e2]
 have h8:r<8:=by omega
 have hcases:r=0∨r=1∨r=2∨r=3∨r=4∨r=5∨r=6∨r=7:=by omega
 clear e1 e2 h h8
 rcases hcases with rfl | rfl | rfl | rfl | rfl | rfl | rfl | rfl<;>rfl
theorem MN.same {base:Nat} {W W':World} {B:Nat} {m:Nw} {n:Int} {K K':Nat→Prop} (h:MN base B m n W K) (f:Fz (fun k=>k=B) K K' W W') (g:Nat) (cur:Array Value) (T:TypeId) (t1:T≠63) (t2:T≠9) (t3:T≠82) (hg:W.heap[g]?=some (.cells cur T)):W'.heap[g]?=some (.cells cur T) :=
 h.keepT (l:=W.heap.size) f.two g cur T t1 t2 t3 (by have:=(Array.getElem?_eq_some_iff.1 hg).1;omega) hg
set_option maxHeartbeats 16000000 in
set_option maxRecDepth 100000 in
theorem iRunN {base:Nat} {W:World} {B:Nat} {m:Nw} {n0:Int} {K:Nat→Prop} (h:MN base B m n0 W K) {na nb c:Nat} (ok:NwOk na nb c m) (hna:na≤1000) (hnb:nb≤1000) (hcc:c≤1000) {x:Option Addr} {y:Nat} {L:List Int} (hL:HoldsI W (.slice x L.length y) L) (hl:L.length≤400) (hR:∀ e ∈ L,e≤9223372036854775807) :
  Calls Tryz.prog 27 #[.pointer (some ⟨B,0,none⟩),.slice x L.length y] W fun e W'=>e=.returned (.tuple #[])∧∃ n1 K',MN base B (L.foldl evN m) n1 W' K'∧Fz (fun k=>k=B) K K' W W':=by
 obtain ⟨fs,hfs⟩:∃ fs:Array Value,#[.func (.func 40) #[.pointer (some ⟨B,0,none⟩)] #[],.func (.func 41) #[.pointer (some ⟨B,0,none⟩)] #[],.func (.func 42) #[.pointer (some ⟨B,6,none⟩)] #[],.func (.func 43) #[.pointer (some ⟨B,6,none⟩)] #[],.func (.func 44) #[.pointer (some ⟨B,0,none⟩)] #[],.func (.func 45) #[.pointer (some ⟨B,0,none⟩)] #[],.func (.func 42) #[.pointer (some ⟨B,20,none⟩)] #[],.func (.func 46) #[.pointer (some ⟨B,0,none⟩)] #[]]=fs:=⟨_,rfl⟩
 have hone:fs.all (·.oneCell')=true:=by rw [← hfs];kernel_rfl
 have hsz:fs.size=8:=by rw [← hfs];rfl
 obtain ⟨y0,hy0⟩:∃ y0,W.drew.alloc (.cells #[Value.nilFunc,Value.nilFunc,Value.nilFunc,Value.nilFunc,Value.nilFunc,Value.nilFunc,Value.nilFunc,Value.nilFunc] 83)=y0:=⟨_,rfl⟩
 have hr0:y0.heap[W.heap.size]?=some (.cells #[Value.nilFunc,Value.nilFunc,Value.nilFunc,Value.nilFunc,Value.nilFunc,Value.nilFunc,Value.nilFunc,Value.nilFunc] 83 (0,0)):=by rw [← hy0];exact heap_alloc_new W.drew _
 have hbW:Below W.heap.size W (y0.setRow W.heap.size fs):=by
  rw [← hy0]
  exact below_setRow (((Below.refl W.heap.size W).drew).alloc (Nat.le_refl _) _) (Nat.le_refl _) fs
 have hA0:(y0.setRow W.heap.size fs).heap[W.heap.size]?=some (.cells fs 83):=setRow_heap y0 W.heap.size _ fs _ _ hr0
 have H0:Hid (MN base B m n0 (y0.setRow W.heap.size fs) K∧HoldsI (y0.setRow W.heap.size fs) (.slice x L.length y) L∧Below W.heap.size W (y0.setRow W.heap.size fs)∧(y0.setRow W.heap.size fs).heap[W.heap.size]?=some (.cells fs 83)):=hide ⟨h.step hbW,hL.below hbW rfl,hbW,hA0⟩
 have HFS:=hide hfs
 clear h hL hbW hA0 hfs
 generalize hn:L.length=n at *
 go_enter Tryz.func27,Tryz.ntmps27
 go_upto_region 0 with fail
 refine wp_region_held_drew (S:=fun _=>True) (by kernel_rfl) trivial (fun hHeld=>?_)
 refine t2 0 ?_
 refine t2 1 ?_
 refine t2 2 ?_
 refine t2 3 ?_
 refine t2 4 ?_
 refine t2 5 ?_
 refine t2 6 ?_
 refine t2 7 ?_
 refine t2 8 ?_
 refine t2 9 ?_
 refine t2 10 ?_
 refine t2 11 ?_
 refine t2 12 ?_
 refine t2 13 ?_
 refine t2 14 ?_
 refine t2 15 ?_
 refine t2 16 ?_
 refine t2 17 ?_
 refine t2 18 ?_
 refine t2 19 ?_
 refine t2 20 ?_
 refine t2 21 ?_
 refine t2 22 ?_
 refine t2 23 ?_
 refine t2 24 ?_
 refine t2 25 ?_
 refine r1 26 rfl (fun K hK=>?_)
 go_simp
 refine ro hK trivial fun _=>?_
 clear hK K
 refine r1 27 rfl (fun K hK=>?_)
 rw [if_pos (by rfl),uh HFS]
 refine wp_store_row 83 (.tmp 4) (.tmp 32) rfl W.heap.size fs rfl rfl 83 _ hr0 (by rw [hsz];kernel_rfl) (by rw [hsz];rfl) hone ?_
 refine ro hK trivial fun _=>?_
 clear hK K
 refine dn ?_ _
 generalize y0.setRow W.heap.size fs=W1 at H0 ⊢
 rw [← uh HFS] at H0
 clear HFS hr0 hy0 hone hsz
 generalize hA9:W.heap.size=A at H0 ⊢
 go_wp2_with fail
 go_loopw [35] (fun p wr=>∃ (i:Nat) (n1:Int) (K':Nat→Prop),i≤n∧p=.int .i64 i∧MN base B ((L.take i).foldl evN m) n1 wr K'∧Fz (fun k=>k=B) K K' W1 wr) (fun p _=>n - (intOf p).toNat)
 case atStart=>exact ⟨0,n0,K,Nat.zero_le _,rfl,(uh H0).1,Fz.refl _ _ _⟩
 case round =>
  obtain ⟨i,n1,K',hi,rfl,hM,hf⟩:=hrel
  by_cases hlt:i<n
  ·have d1:(i:Int)<(n:Int):=by omega
   have hiL:i<L.length:=by omega
   have HST:Hid ((L.take (i+1)).foldl evN m=evN ((L.take i).foldl evN m) L[i]):=hide (by
    rw [← List.take_append_getElem hiL,List.foldl_append]
    rfl)
   have hRi:=hR L[i] (List.getElem_mem hiL)
   have hok9:=foldN_ok (L.take i) ok
   rw [List.length_take,show min i L.length=i by omega] at hok9
   have hA:=(uh H0).1.same hf A _ _ (by decide) (by decide) (by decide) (uh H0).2.2.2
   obtain ⟨g,ex,hgc⟩:∃ g,x=some ⟨g,0,none⟩∧wr.cell? ⟨g,i,none⟩=some (.int .i64 L[i]):=by
    rcases (uh H0).2.1 with ⟨ad,cp,e,e2⟩ | ⟨g,cp,cur,e,q1,_,q3⟩
    ·rw [e2] at hn;simp at hn;omega
    ·injection e with e _ _
     refine ⟨g,e,?_⟩
     rw [cr ((uh H0).1.same hf g _ _ (by decide) (by decide) (by decide) q1),q3 i (by omega)]
     exact icells_get _ _ _ (List.getElem?_eq_getElem hiL)
   subst ex
   generalize L[i]=e at *
   generalize (L.take i).foldl evN m=mi at *
   have HFW:=hide hf
   clear hf
   by_cases he:e<0
   ·have dn9:¬ (0≤e):=by omega
    have HMi:=hide hM
    have HEV:=hide (evN_neg mi he)
    clear hM hA hok9
    go_wp2_with fail
    go_roundw
    case rel=>exact ⟨i+1,n1,K',by omega,by go_num,by rw [uh HST,uh HEV];exact uh HMi,uh HFW⟩
    case measure=>simp [intOf];omega
   ·obtain ⟨k,rfl⟩:∃ k:Nat,e=(k:Int):=⟨e.toNat,by omega⟩
    have de:(0:Int)≤(k:Int):=by omega
    have cB:=hM.cnt.1
    have fB:=hM.frz 28
    go_upto_region 6 with fail
    have hk63:k≤9223372036854775807:=by omega
    have H5:Hid (MN base B mi ((k / 8:Nat):Int) (wr.setCell ⟨B,28,none⟩ (.int .i64 ((k:Int) / 8))) K'∧Fz (fun k=>k=B) K' K' wr (wr.setCell ⟨B,28,none⟩ (.int .i64 ((k:Int) / 8)))):=hide (hM.setN ((k:Int) / 8))
    have hA5:(wr.setCell ⟨B,28,none⟩ (.int .i64 ((k:Int) / 8))).heap[A]?=_:=hM.same (uh H5).2 A _ _ (by decide) (by decide) (by decide) hA
    clear hM hA cB fB hgc
    generalize wr.setCell ⟨B,28,none⟩ (.int .i64 ((k:Int) / 8))=w5 at H5 hA5 ⊢
    have hG9:mi.a.gt.length≤1000000:=by have:=hok9.a.g;omega
    have hQ9:mi.a.Q.length≤1048576:=by have:=(lpRt hok9.a.p).l20;omega
    have ha9:na+206*i≤990000:=by omega
    have hb9:nb+206*i≤990000:=by omega
    have hc9:c+206*i≤100000000:=by omega
    have hr8:k % 8<8:=Nat.mod_lt _ (by decide)
    have HEV:=hide (fun r (hr:k % 8=r)=>evN_at mi k r hr)
    obtain ⟨r,hr⟩:∃ r,k % 8=r:=⟨_,rfl⟩
    rw [hr] at hr8
    have hcases:r=0∨r=1∨r=2∨r=3∨r=4∨r=5∨r=6∨r=7:=by omega
    rcases hcases with rfl | rfl | rfl | rfl | rfl | rfl | rfl | rfl
    ·have cx:w5.cell? ⟨A,0,none⟩=some (.func (.func 40) #[.pointer (some ⟨B,0,none⟩)] #[]):=by rw [cr hA5];rfl
     have CE:=hide (iSendNext (uh H5).1 hG9 hQ9)
     have HE:Hid (evN mi (k:Int)=_):=hide (uh HEV 0 hr)
     have hm8:(k:Int).tmod 8=0:=by rw [Int.tmod_eq_emod_of_nonneg (by omega)];omega
     clear hA5 hok9 HEV hr
     go_wp2_with fail
     refine (uh CE).mono ?_
     rintro e W' ⟨rfl,K2,hm2,hf2⟩
     have HF2:=hide (And.intro hm2 hf2)
     clear hm2 hf2 CE
     go_wp2_with fail
     go_roundw
     case rel=>exact ⟨i+1,_,K2,by omega,by go_num,by rw [uh HST,uh HE];exact (uh HF2).1,(uh HFW).trans ((uh H5).2.trans (uh HF2).2)⟩
     case measure=>simp [intOf];omega
    ·have cx:w5.cell? ⟨A,1,none⟩=some (.func (.func 41) #[.pointer (some ⟨B,0,none⟩)] #[]):=by rw [cr hA5];rfl
     have CE:=hide (iComeB (uh H5).1 hok9 hb9 hc9)
     have HE:Hid (evN mi (k:Int)=_):=hide (uh HEV 1 hr)
     have hm8:(k:Int).tmod 8=1:=by rw [Int.tmod_eq_emod_of_nonneg (by omega)];omega
     clear hA5 hok9 HEV hr
     go_wp2_with fail
     refine (uh CE).mono ?_
     rintro e W' ⟨rfl,K2,hm2,hf2⟩
     have HF2:=hide (And.intro hm2 hf2)
     clear hm2 hf2 CE
     go_wp2_with fail
     go_roundw
     case rel=>exact ⟨i+1,_,K2,by omega,by go_num,by rw [uh HST,uh HE];exact (uh HF2).1,(uh HFW).trans ((uh H5).2.trans (uh HF2).2)⟩
     case measure=>simp [intOf];omega
    ·have cx:w5.cell? ⟨A,2,none⟩=some (.func (.func 42) #[.pointer (some ⟨B,6,none⟩)] #[]):=by rw [cr hA5];rfl
     have CE:=hide (iLoseA (uh H5).1)
     have HE:Hid (evN mi (k:Int)=_):=hide (uh HEV 2 hr)
     have hm8:(k:Int).tmod 8=2:=by rw [Int.tmod_eq_emod_of_nonneg (by omega)];omega
     clear hA5 hok9 HEV hr
     go_wp2_with fail
     refine (uh CE).mono ?_
     rintro e W' ⟨rfl,K2,hm2,hf2⟩
     have HF2:=hide (And.intro hm2 hf2)
     clear hm2 hf2 CE
     go_wp2_with fail
     go_roundw
     case rel=>exact ⟨i+1,_,K2,by omega,by go_num,by rw [uh HST,uh HE];exact (uh HF2).1,(uh HFW).trans ((uh H5).2.trans (uh HF2).2)⟩
     case measure=>simp [intOf];omega
    ·have cx:w5.cell? ⟨A,3,none⟩=some (.func (.func 43) #[.pointer (some ⟨B,6,none⟩)] #[]):=by rw [cr hA5];rfl
     have CE:=hide (iDblA (uh H5).1)
     have HE:Hid (evN mi (k:Int)=_):=hide (uh HEV 3 hr)
     have hm8:(k:Int).tmod 8=3:=by rw [Int.tmod_eq_emod_of_nonneg (by omega)];omega
     clear hA5 hok9 HEV hr
     go_wp2_with fail
     refine (uh CE).mono ?_
     rintro e W' ⟨rfl,K2,hm2,hf2⟩
     have HF2:=hide (And.intro hm2 hf2)
     clear hm2 hf2 CE
     go_wp2_with fail
     go_roundw
     case rel=>exact ⟨i+1,_,K2,by omega,by go_num,by rw [uh HST,uh HE];exact (uh HF2).1,(uh HFW).trans ((uh H5).2.trans (uh HF2).2)⟩
     case measure=>simp [intOf];omega
    ·have cx:w5.cell? ⟨A,4,none⟩=some (.func (.func 44) #[.pointer (some ⟨B,0,none⟩)] #[]):=by rw [cr hA5];rfl
     have CE:=hide (iSpoil (uh H5).1 (by omega) hok9)
     have HE:Hid (evN mi (k:Int)=_):=hide (uh HEV 4 hr)
     have hm8:(k:Int).tmod 8=4:=by rw [Int.tmod_eq_emod_of_nonneg (by omega)];omega
     clear hA5 hok9 HEV hr
     go_wp2_with fail
     refine (uh CE).mono ?_
     rintro e W' ⟨rfl,K2,hm2,hf2⟩
     have HF2:=hide (And.intro hm2 hf2)
     clear hm2 hf2 CE
     go_wp2_with fail
     go_roundw
     case rel=>exact ⟨i+1,_,K2,by omega,by go_num,by rw [uh HST,uh HE];exact (uh HF2).1,(uh HFW).trans ((uh H5).2.trans (uh HF2).2)⟩
     case measure=>simp [intOf];omega
    ·have cx:w5.cell? ⟨A,5,none⟩=some (.func (.func 45) #[.pointer (some ⟨B,0,none⟩)] #[]):=by rw [cr hA5];rfl
     have CE:=hide (iComeA (uh H5).1 hok9 ha9 hc9)
     have HE:Hid (evN mi (k:Int)=_):=hide (uh HEV 5 hr)
     have hm8:(k:Int).tmod 8=5:=by rw [Int.tmod_eq_emod_of_nonneg (by omega)];omega
     clear hA5 hok9 HEV hr
     go_wp2_with fail
     refine (uh CE).mono ?_
     rintro e W' ⟨rfl,K2,hm2,hf2⟩
     have HF2:=hide (And.intro hm2 hf2)
     clear hm2 hf2 CE
     go_wp2_with fail
     go_roundw
     case rel=>exact ⟨i+1,_,K2,by omega,by go_num,by rw [uh HST,uh HE];exact (uh HF2).1,(uh HFW).trans ((uh H5).2.trans (uh HF2).2)⟩
     case measure=>simp [intOf];omega
    ·have cx:w5.cell? ⟨A,6,none⟩=some (.func (.func 42) #[.pointer (some ⟨B,20,none⟩)] #[]):=by rw [cr hA5];rfl
     have CE:=hide (iLoseB (uh H5).1)
     have HE:Hid (evN mi (k:Int)=_):=hide (uh HEV 6 hr)
     have hm8:(k:Int).tmod 8=6:=by rw [Int.tmod_eq_emod_of_nonneg (by omega)];omega
     clear hA5 hok9 HEV hr
     go_wp2_with fail
     refine (uh CE).mono ?_
     rintro e W' ⟨rfl,K2,hm2,hf2⟩
     have HF2:=hide (And.intro hm2 hf2)
     clear hm2 hf2 CE
     go_wp2_with fail
     go_roundw
     case rel=>exact ⟨i+1,_,K2,by omega,by go_num,by rw [uh HST,uh HE];exact (uh HF2).1,(uh HFW).trans ((uh H5).2.trans (uh HF2).2)⟩
     case measure=>simp [intOf];omega
    ·have cx:w5.cell? ⟨A,7,none⟩=some (.func (.func 46) #[.pointer (some ⟨B,0,none⟩)] #[]):=by rw [cr hA5];rfl
     have CE:=hide (iSendAgain (uh H5).1 hG9 hQ9)
     have HE:Hid (evN mi (k:Int)=_):=hide (uh HEV 7 hr)
     have hm8:(k:Int).tmod 8=7:=by rw [Int.tmod_eq_emod_of_nonneg (by omega)];omega
     clear hA5 hok9 HEV hr
     go_wp2_with fail
     refine (uh CE).mono ?_
     rintro e W' ⟨rfl,K2,hm2,hf2⟩
     have HF2:=hide (And.intro hm2 hf2)
     clear hm2 hf2 CE
     go_wp2_with fail
     go_roundw
     case rel=>exact ⟨i+1,_,K2,by omega,by go_num,by rw [uh HST,uh HE];exact (uh HF2).1,(uh HFW).trans ((uh H5).2.trans (uh HF2).2)⟩
     case measure=>simp [intOf];omega
  ·have e:i=n:=by omega
   subst e
   have d1:¬ ((i:Int)<(i:Int)):=by omega
   rw [show L.take i=L by rw [← hn];exact List.take_length] at hM
   have HM:=hide (And.intro hM hf)
   clear hM hf
   go_wp2_with fail
   refine bodyPost_end (results_none rfl _ _ _) rfl ?_
   rw [← hA9] at H0
   exact ⟨rfl,n1,K',(uh HM).1,(Fz.of_below (uh H0).2.2.1).trans (uh HM).2⟩
end Go.Proofs.YtkcghhkkepndnaaGreatDoor
