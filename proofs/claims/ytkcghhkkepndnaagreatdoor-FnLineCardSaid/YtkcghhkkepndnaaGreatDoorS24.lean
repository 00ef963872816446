/- The program's LapbHear, where it takes what came; what lay in memory stands. -/
import Derived.Test.YtkcghhkkepndnaaGreatDoorS14
import Derived.Test.YtkcghhkkepndnaaGreatDoorS19
import Derived.Test.YtkcghhkkepndnaaGreatDoorS05
import Derived.Test.YtkcghhkkepndnaaGreatDoorShW
set_option maxRecDepth 100000
namespace Go.Proofs.YtkcghhkkepndnaaGreatDoor
open Go.RowKit
def hearG (p:Lp) (L:List ByteArray) (f:Nb):LO :=
 if f.kind=3 then ⟨⟨p.wi,f.nr,f.nr,p.vr,p.ak⟩,L,[],[],0⟩ else if f.kind=1 then ⟨(takeP ⟨p.wi,p.vs,f.nr,p.vr,p.ak⟩ f).1,L,[(takeP ⟨p.wi,p.vs,f.nr,p.vr,p.ak⟩ f).2.2],(takeP ⟨p.wi,p.vs,f.nr,p.vr,p.ak⟩ f).2.1,0⟩ else ⟨⟨p.wi,p.vs,f.nr,p.vr,p.ak⟩,L,[],[],0⟩
def hearLF (p:Lp) (L:List ByteArray) (f:Nb):LO:=if lpOk p L=true∧nbOk f=true then (if far p.vs p.va<far f.nr p.va then loErr 5 else hearG p (L.drop (far f.nr p.va).toNat) f) else loErr 1
theorem row4h {w:World} {B:Nat} {x0 x1 x2 x3:Value} {T:TypeId} (h:w.heap[B]?=some (.cells #[x0,x1,x2,x3] T)) :
  w.cell? ⟨B,0,none⟩=some x0∧w.cell? ⟨B,1,none⟩=some x1∧w.cell? ⟨B,2,none⟩=some x2∧w.cell? ⟨B,3,none⟩=some x3 :=
 ⟨by rw [cell_of_row _ _ 0 _ _ (0,0) h];rfl,by rw [cell_of_row _ _ 1 _ _ (0,0) h];rfl,by rw [cell_of_row _ _ 2 _ _ (0,0) h];rfl,by rw [cell_of_row _ _ 3 _ _ (0,0) h];rfl⟩
theorem take_drop_app (L:List ByteArray) (k j:Nat) (h:j≤k) (hk:k≤L.length):(L.take k).drop j ++ L.drop k=L.drop j:=by
 have e:L.drop j=(L.take k ++ L.drop k).drop j:=by rw [List.take_append_drop]
 rw [e,List.drop_append_of_le_length (by rw [List.length_take];omega)]
set_option maxHeartbeats 16000000 in
set_option linter.unusedSimpArgs false in
theorem iHearM (p:Lp) (x:Option Addr) (y:Nat) (L:List ByteArray) (f:Nb) (w:World) (hl:L.length≤1048576) (h:HoldsS w (.slice x L.length y) L) (hk:lpOk p L=true) (hf:nbOk f=true) (hg:far f.nr p.va≤far p.vs p.va) :
  Calls Tryz.prog 95 #[.agg (lpC p (.slice x L.length y)),nbV f] w fun e q=>AnsL w (hearG p (L.drop (far f.nr p.va).toNat) f) e q:=by
 have C1:=hide fun W (hb:Below w.heap.size w W)=>iLpRight p x y L W hl (h.below hb)
 have C0:=hide fun W=>iNbRight f W
 rw [hk] at C1
 rw [hf] at C0
 obtain ⟨hN0,hN1,hN2,hbW,hsW⟩:=new3l w (.cells (lpC p (.slice x L.length y)) 54) (.cells #[.int .i64 f.kind,.int .i64 f.ns,.int .i64 f.nr,.string f.text] 96) (.cells #[.int .i64 0,.int .i64 0,.int .i64 0,.int .i64 0,.slice none 0 0,.bool false,.slice none 0 0,.slice none 0 0,.int .i64 0] 79)
 have hr:=lpRt hk
 have hfr:=of_decide_eq_true hf
 have CA:=hide fun v=>iFar f.nr p.va hfr.1 hr.va v
 have CB:=hide fun v=>iFar p.vs p.va hr.vs hr.va v
 obtain ⟨l1,u1⟩:=far_lt f.nr p.va
 obtain ⟨l2,u2⟩:=far_lt p.vs p.va
 have hsn:=sentN_eq (p:=p)
 have hfl:=hr.fl
 obtain ⟨k,ek⟩:∃ k,sentN p=k:=⟨_,rfl⟩
 obtain ⟨j,ej⟩:∃ j,(far f.nr p.va).toNat=j:=⟨_,rfl⟩
 have hj:(j:Int)=far f.nr p.va:=by omega
 rw [ek] at hsn
 rw [ej]
 have hjk:j≤k:=by omega
 have hk7:k≤7:=by omega
 have hkl:k≤L.length:=by omega
 have C2:=hide fun W (hb:Below w.heap.size w W)=>iWorkOn p x y L W hr (h.below hb)
 rw [ek] at C2
 have l20:=hr.l20
 have tda:=take_drop_app L k j hjk hkl
 have hva:=hr.va
 have hvr:=hr.vr
 have hlS:((L.take k).drop j).length≤7:=by rw [List.length_drop,List.length_take];omega
 have hlS2:(L.take k).length=k:=by rw [List.length_take];omega
 have hlQ:(L.drop k).length≤100:=by rw [List.length_drop];omega
 have hlD:(L.drop j).length≤100:=by rw [List.length_drop];omega
 obtain ⟨RR,hRR⟩:∃ RR,hearG p (L.drop j) f=RR:=⟨_,rfl⟩
 rw [hRR]
 have HG:=hide hRR
 clear h hk hr hRR
 generalize hfa:far f.nr p.va=fa at *
 generalize hfb:far p.vs p.va=fb at *
 have d9:¬ (fb<fa):=by omega
 generalize hn:L.length=n at *
 have HS:=hide hsW
 obtain ⟨wi,vs,va,vr,ak⟩:=p
 obtain ⟨kf,nf,rf,t⟩:=f
 unfold lpC at hN0 hN1 hN2 hbW hsW C1 C2 ⊢
 dsimp only [nbV] at *
 have H0:=hide (And.intro hN0 (And.intro hN1 (And.intro hN2 hbW)))
 clear hN0 hN1 hN2 hbW hsW
 go_enter Tryz.func95,Tryz.ntmps95
 go_wp2_with fail
 refine (uh C1 _ (uh H0).2.2.2).mono ?_
 rintro e w1 ⟨rfl,hb1⟩
 have H1:=hide (And.intro ((hb1.block _ (Array.getElem?_eq_some_iff.1 (uh H0).1).1).trans (uh H0).1) (And.intro ((hb1.block _ (Array.getElem?_eq_some_iff.1 (uh H0).2.1).1).trans (uh H0).2.1) (And.intro ((hb1.block _ (Array.getElem?_eq_some_iff.1 (uh H0).2.2.1).1).trans (uh H0).2.2.1) ((uh H0).2.2.2.trans (hb1.mono (uh H0).2.2.2.size)))))
 obtain ⟨b0,b1,b2,b3,b4,b5⟩:=row6l (uh H1).1
 obtain ⟨m0,m1,m2,m3⟩:=row4h (uh H1).2.1
 clear hb1 H0 C1
 go_wp2_with fail
 refine (uh C0 _).mono ?_
 rintro e w2 ⟨rfl,hb1⟩
 have H2:=hide (And.intro ((hb1.block _ (Array.getElem?_eq_some_iff.1 (uh H1).1).1).trans (uh H1).1) (And.intro ((hb1.block _ (Array.getElem?_eq_some_iff.1 (uh H1).2.1).1).trans (uh H1).2.1) (And.intro ((hb1.block _ (Array.getElem?_eq_some_iff.1 (uh H1).2.2.1).1).trans (uh H1).2.2.1) ((uh H1).2.2.2.trans (hb1.mono (uh H1).2.2.2.size)))))
 clear b0 b1 b2 b3 b4 b5 m0 m1 m2 m3
 obtain ⟨b0,b1,b2,b3,b4,b5⟩:=row6l (uh H2).1
 obtain ⟨m0,m1,m2,m3⟩:=row4h (uh H2).2.1
 clear hb1 H1 C0
 go_wp2_with fail
 go_quiet (first
  | (go_at_call 83;exact Calls.quiet_of_same (uh CA _))
  | (go_at_call 83;exact Calls.quiet_of_same (uh CB _)))
 go_upto_region 5 with fail
 refine gen_world (fun q=>q.heap[w.heap.size]?=some (.cells #[.int .i64 wi,.int .i64 vs,.int .i64 va,.int .i64 vr,.slice x n y,.bool ak] 54)∧q.heap[w.heap.size+1]?=some (.cells #[.int .i64 kf,.int .i64 nf,.int .i64 rf,.string t] 96)∧q.heap[w.heap.size+1+1]?=some (.cells #[.int .i64 0,.int .i64 0,.int .i64 0,.int .i64 0,.slice none 0 0,.bool false,.slice none 0 0,.slice none 0 0,.int .i64 0] 79)∧Below w.heap.size w q) ?_ ?_
 ·obtain ⟨i0,i1,i2,hB0⟩:=uh H2
  exact ⟨i0,i1,i2,⟨hB0.os,hB0.tape,hB0.output,hB0.size,hB0.block⟩⟩
 clear H2 b0 b1 b2 b3 b4 b5 m0 m1 m2 m3 CA CB
 rintro q hq
 have hsq:w.heap.size+1+1<q.heap.size:=(Array.getElem?_eq_some_iff.1 hq.2.2.1).1
 obtain ⟨b0,b1,b2,b3,b4,b5⟩:=row6l hq.1
 have HX:=hide (And.intro hq hsq)
 clear hq
 go_wp2_with fail
 refine (uh C2 _ (uh HX).1.2.2.2).mono ?_
 rintro e q2 ⟨rfl,vq,hL2⟩
 have C3:=hide (iDrop hL2 hva rf hfr.1 j (by rw [hfa];exact hj) (by rw [hlS2];exact hjk))
 have k1:=(hL2.lo.block (w.heap.size+1) (by omega)).trans (uh HX).1.2.1
 obtain ⟨m0,m1,m2,m3⟩:=row4h k1
 generalize hB:q.heap.size+1+1=B at *
 generalize hM:q.heap.size+1=M at *
 clear C2 b0 b1 b2 b3 b4 b5 hL2 k1
 go_wp2_with fail
 refine (uh C3).mono ?_
 rintro e q3 ⟨rfl,hL3⟩
 have k3:=(hL3.lo.block (w.heap.size+1) (by omega)).trans (uh HX).1.2.1
 clear m0 m1 m2 m3 C3
 obtain ⟨m0,m1,m2,m3⟩:=row4h k3
 clear k3
 try dsimp only at hL3
 have hz:t.size≤200:=by omega
 by_cases h3:kf=3
 ·have hRR:=uh HG
  unfold hearG at hRR
  rw [if_pos h3] at hRR
  dsimp only at hRR
  subst h3
  have CG:=hide (iGoBack hL3 hfr.1 hlS hlQ)
  go_wp2_with fail
  refine (uh CG).mono ?_
  rintro e q4 ⟨rfl,vq4,hL4⟩
  rw [tda] at hL4
  have CO:=hide (iOutL hL4 hfr.1 (by simp) hlD)
  rw [List.nil_append] at CO
  clear CG hL3 hL4 m0 m1 m2 m3
  subst hRR
  go_wp2_with fail
  refine (uh CO).mono ?_
  rintro e q5 ⟨v,vf,vg,rfl,o1,o2,o3,hap,lo5⟩
  obtain ⟨va1,vc1,rfl⟩:=own_form o1
  obtain ⟨va2,vc2,rfl⟩:=own_form o2
  obtain ⟨va3,vc3,rfl⟩:=own_form o3
  have kR:=(lo5.block (w.heap.size+1+1) (by have:=(uh HX).2;omega)).trans (uh HX).1.2.2.1
  obtain ⟨r0,r1,r2,r3,r4,r5,r6,r7,r8⟩:=row9l kR
  obtain ⟨f0,f1,f2,f3,f4,f5,f6,f7,f8⟩:=frz9l kR
  have HY:=hide (And.intro o1 (And.intro o2 (And.intro o3 (And.intro hap (And.intro lo5 kR)))))
  clear o1 o2 o3 hap lo5 kR CO
  dsimp only [loC]
  generalize hl1:(L.drop j).length=nt at *
  go_wp2_with fail
  obtain ⟨o1,o2,o3,hap,lo5,kR⟩:=uh HY
  refine bodyPost_ret (v:=.agg (loC (⟨⟨wi,rf,rf,vr,ak⟩,L.drop j,[],[],0⟩:LO).p (.slice va1 nt vc1) (.slice va2 (⟨⟨wi,rf,rf,vr,ak⟩,L.drop j,[],[],0⟩:LO).sn.length vc2) (.slice va3 (⟨⟨wi,rf,rf,vr,ak⟩,L.drop j,[],[],0⟩:LO).gt.length vc3) 0)) (by simp [results,Tryz.results95,asAddr,loC,loadLo (set9_lo kR _ _ _ _ _ _ _ _ _)]) rfl ?_
  exact AnsL.put (o:=⟨⟨wi,rf,rf,vr,ak⟩,L.drop j,[],[],0⟩) (by rw [hl1];exact o1) o2 o3 hap lo5 (by have:=(uh HX).2;omega) (by omega) (uh HX).1.2.2.2 _ _ _ _ _ _ _ _ _
 have e3:(kf == 3)=false:=beq_eq_false_iff_ne.2 h3
 by_cases h1:kf=1
 ·have hRR:=uh HG
  unfold hearG at hRR
  rw [if_neg h3,if_pos h1] at hRR
  dsimp only at hRR
  have CT:=hide (iTake hL3 hvr ⟨kf,nf,rf,t⟩ hz)
  subst h1
  dsimp only [nbV] at CT
  go_wp2_with fail
  refine (uh CT).mono ?_
  rintro e q4 ⟨rfl,vf4,vg4,hL4⟩
  generalize hTP:takeP ⟨wi,vs,rf,vr,ak⟩ ⟨1,nf,rf,t⟩=TP at *
  have hTva:TP.1.va=rf:=by
   rw [← hTP]
   unfold takeP
   split
   ·rfl
   split
   ·rfl
   ·rfl
  obtain ⟨⟨twi,tvs,tva,tvr,tak⟩,TG,TF⟩:=TP
  dsimp only at hTva hL4 hRR
  subst hTva
  have CO:=hide (iOutL hL4 hfr.1 hlS hlQ)
  rw [tda] at CO
  clear CT hL3 hL4 m0 m1 m2 m3 hTP
  subst hRR
  go_wp2_with fail
  refine (uh CO).mono ?_
  rintro e q5 ⟨v,vf,vg,rfl,o1,o2,o3,hap,lo5⟩
  obtain ⟨va1,vc1,rfl⟩:=own_form o1
  obtain ⟨va2,vc2,rfl⟩:=own_form o2
  obtain ⟨va3,vc3,rfl⟩:=own_form o3
  have kR:=(lo5.block (w.heap.size+1+1) (by have:=(uh HX).2;omega)).trans (uh HX).1.2.2.1
  obtain ⟨r0,r1,r2,r3,r4,r5,r6,r7,r8⟩:=row9l kR
  obtain ⟨f0,f1,f2,f3,f4,f5,f6,f7,f8⟩:=frz9l kR
  have HY:=hide (And.intro o1 (And.intro o2 (And.intro o3 (And.intro hap (And.intro lo5 kR)))))
  clear o1 o2 o3 hap lo5 kR CO
  dsimp only [loC]
  generalize hl1:(L.drop j).length=nt at *
  go_wp2_with fail
  obtain ⟨o1,o2,o3,hap,lo5,kR⟩:=uh HY
  refine bodyPost_ret (v:=.agg (loC (⟨⟨twi,tvs,tva,tvr,tak⟩,L.drop j,[TF],TG,0⟩:LO).p (.slice va1 nt vc1) (.slice va2 (⟨⟨twi,tvs,tva,tvr,tak⟩,L.drop j,[TF],TG,0⟩:LO).sn.length vc2) (.slice va3 (⟨⟨twi,tvs,tva,tvr,tak⟩,L.drop j,[TF],TG,0⟩:LO).gt.length vc3) 0)) (by simp [results,Tryz.results95,asAddr,loC,loadLo (set9_lo kR _ _ _ _ _ _ _ _ _)]) rfl ?_
  exact AnsL.put (o:=⟨⟨twi,tvs,tva,tvr,tak⟩,L.drop j,[TF],TG,0⟩) (by rw [hl1];exact o1) o2 o3 hap lo5 (by have:=(uh HX).2;omega) (by omega) (uh HX).1.2.2.2 _ _ _ _ _ _ _ _ _
 ·have e1:(kf == 1)=false:=beq_eq_false_iff_ne.2 h1
  have hRR:=uh HG
  unfold hearG at hRR
  rw [if_neg h3,if_neg h1] at hRR
  dsimp only at hRR
  have CO:=hide (iOutL hL3 hfr.1 hlS hlQ)
  rw [tda] at CO
  clear hL3 m1 m2 m3
  subst hRR
  go_wp2_with fail
  refine (uh CO).mono ?_
  rintro e q5 ⟨v,vf,vg,rfl,o1,o2,o3,hap,lo5⟩
  obtain ⟨va1,vc1,rfl⟩:=own_form o1
  obtain ⟨va2,vc2,rfl⟩:=own_form o2
  obtain ⟨va3,vc3,rfl⟩:=own_form o3
  have kR:=(lo5.block (w.heap.size+1+1) (by have:=(uh HX).2;omega)).trans (uh HX).1.2.2.1
  obtain ⟨r0,r1,r2,r3,r4,r5,r6,r7,r8⟩:=row9l kR
  obtain ⟨f0,f1,f2,f3,f4,f5,f6,f7,f8⟩:=frz9l kR
  have HY:=hide (And.intro o1 (And.intro o2 (And.intro o3 (And.intro hap (And.intro lo5 kR)))))
  clear o1 o2 o3 hap lo5 kR CO
  dsimp only [loC]
  generalize hl1:(L.drop j).length=nt at *
  go_wp2_with fail
  obtain ⟨o1,o2,o3,hap,lo5,kR⟩:=uh HY
  refine bodyPost_ret (v:=.agg (loC (⟨⟨wi,vs,rf,vr,ak⟩,L.drop j,[],[],0⟩:LO).p (.slice va1 nt vc1) (.slice va2 (⟨⟨wi,vs,rf,vr,ak⟩,L.drop j,[],[],0⟩:LO).sn.length vc2) (.slice va3 (⟨⟨wi,vs,rf,vr,ak⟩,L.drop j,[],[],0⟩:LO).gt.length vc3) 0)) (by simp [results,Tryz.results95,asAddr,loC,loadLo (set9_lo kR _ _ _ _ _ _ _ _ _)]) rfl ?_
  exact AnsL.put (o:=⟨⟨wi,vs,rf,vr,ak⟩,L.drop j,[],[],0⟩) (by rw [hl1];exact o1) o2 o3 hap lo5 (by have:=(uh HX).2;omega) (by omega) (uh HX).1.2.2.2 _ _ _ _ _ _ _ _ _
end Go.Proofs.YtkcghhkkepndnaaGreatDoor
