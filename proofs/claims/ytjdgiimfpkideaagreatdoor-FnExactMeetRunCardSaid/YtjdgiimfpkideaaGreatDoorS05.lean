/- FsmS EndV -/
import Derived.Test.YtjdgiimfpkideaaGreatDoorS04
import Derived.Test.YtjdgiimfpkideaaGreatDoorS03
set_option maxHeartbeats 4000000
set_option maxRecDepth 100000
namespace Go.Proofs.YtjdgiimfpkideaaGreatDoor
open Go.RowKit Go.Proofs.Tryz
def ip (s:Nat) (t:ByteArray):ByteArray:=((bR (aW t) 44)[s]?).getD ⟨#[]⟩
def bO (s:Int) (t:ByteArray):Int × List ByteArray × Int :=
 if 8000<t.size then (0,[],2) else if ¬ (0≤s∧s≤9) then (0,[],5) else if aW t=⟨#[]⟩ then (0,[],6) else if (ip s.toNat t).toList=[45] then (s,[],8)
 else (((ip s.toNat t).data.toList.getLastD 0).toNat - 48,if 2<(ip s.toNat t).size then bR ((ip s.toNat t).extract 0 ((ip s.toNat t).size - 2)) 32 else [],0)
theorem kS:(prog.info? 115).map (·.size)=some 3:=by kernel_rfl
theorem nk {W:World} {E:Nat} {x0 x1 x2:Value} (h:W.heap[E]?=some (.cells #[x0,x1,x2] 115)):(loadVar 115 ⟨E,0,none⟩).run prog W=.ok (.agg #[x0,x1,x2]) W :=
 run_loadVar_row (P:=prog) _ _ 115 115 #[x0,x1,x2] (0,0) _ h underlying115 rfl kS
theorem iw {W:World} {E:Nat} {z0 z1 z2:Value} {T:TypeId} (h:W.heap[E]?=some (.cells #[z0,z1,z2] T)) (x0 x1 x2:Value) :
  (((W.setCell ⟨E,0,none⟩ x0).setCell ⟨E,1,none⟩ x1).setCell ⟨E,2,none⟩ x2).heap[E]?=some (.cells #[x0,x1,x2] T) :=
 zH _ _ 2 _ _ x2 (zH _ _ 1 _ _ x1 (zH _ _ 0 _ _ x0 h))
theorem eW {n:Nat} {w W:World} {E:Nat} (h:Below n w W) (hE:n≤E) (x0 x1 x2:Value):Below n w (((W.setCell ⟨E,0,none⟩ x0).setCell ⟨E,1,none⟩ x1).setCell ⟨E,2,none⟩ x2) :=
 ((h.setCell (p:=⟨E,0,none⟩) hE _).setCell (p:=⟨E,1,none⟩) hE _).setCell (p:=⟨E,2,none⟩) hE _
theorem ik {w:World} {B:Nat} {x0 x1 x2:Value} {T:TypeId} (h:w.heap[B]?=some (.cells #[x0,x1,x2] T)) :
  w.cell? ⟨B,0,none⟩=some x0∧w.cell? ⟨B,1,none⟩=some x1∧w.cell? ⟨B,2,none⟩=some x2∧w.frozen? ⟨B,0,none⟩=false∧w.frozen? ⟨B,1,none⟩=false∧w.frozen? ⟨B,2,none⟩=false :=
 ⟨by rw [cr h];rfl,by rw [cr h];rfl,by rw [cr h];rfl,aX h _,aX h _,aX h _⟩
theorem rH (x:Int) (w:World):Calls prog 48 #[.int .i64 x,.int .i64 0,.int .i64 9] w fun e w'=>e=.returned (.bool (decide (0≤x) && decide (x≤9)))∧w'=w:=by
 by_cases h1:0≤x
 ·have d1:decide ((0:Int)≤x)=true:=decide_eq_true h1;rw [d1,Bool.true_and];go_enter func48,ntmps48
  go_wp2
  go_ret
  exact ⟨rfl,rfl⟩
 ·have d1:decide ((0:Int)≤x)=false:=decide_eq_false h1;rw [d1,Bool.false_and];go_enter func48,ntmps48
  go_wp2
  go_ret
  exact ⟨rfl,rfl⟩
def vD (r:Int × List ByteArray × Int) (w w':World) (e:Ending):Prop :=
 ∃ ad cp,e=.returned (.agg #[.int .i64 r.1,.slice ad r.2.1.length cp,.int .i64 r.2.2])∧w'.ownsRow w.heap.size 9 1 (.slice ad r.2.1.length cp) r.2.1.length (a_ r.2.1)∧Below w.heap.size w w'
theorem mr {t:ByteArray} (h:t≠⟨#[]⟩):t.toList.isEmpty=false:=by
 cases h2:t.toList with
 | nil=>exact absurd (cF h2) h
 | cons x l=>rfl
theorem rI (s:Int) (t:ByteArray) (w:World) (ht:t.size≤maxLen):Calls prog 71 #[.int .i64 s,.string t] w fun e w'=>vD (bO s t) w w' e:=by
 unfold maxLen at ht;have hr0:(w.alloc (.cells #[.int .i64 0,.slice none 0 0,.int .i64 0] 115)).heap[w.heap.size]?=some (.cells #[.int .i64 0,.slice none 0 0,.int .i64 0] 115):=heap_alloc_last w _;have hb0:Below w.heap.size w (w.alloc (.cells #[.int .i64 0,.slice none 0 0,.int .i64 0] 115)):=(zC _ _).alloc (zD _) _;have H0:=aa (zA hr0 hb0);clear hr0 hb0;by_cases h1:8000<t.size
 ·have d1:(8000:Int)<(t.size:Int):=by omega
  rw [show bO s t=(0,[],2) from if_pos h1];go_enter func71,ntmps71
  go_wp2
  refine bodyPost_ret (v:=.agg #[.int .i64 0,.slice none 0 0,.int .i64 2]) (by simp [results,results71,go_sem]) rfl ⟨none,0,rfl,⟨rfl,Or.inl ⟨rfl,rfl⟩⟩,?_⟩;exact (zC _ _).alloc (zD _) _
 have d1:¬ ((8000:Int)<(t.size:Int)):=by omega
 have C1:=aa fun v=>rH s v
 by_cases h2:¬ (0≤s∧s≤9)
 ·rw [show (decide (0≤s) && decide (s≤9))=false by rw [← Bool.not_eq_true,Bool.and_eq_true,decide_eq_true_eq,decide_eq_true_eq];exact h2] at C1;rw [show bO s t=(0,[],5) by unfold bO;rw [if_neg h1,if_pos h2]];go_enter func71,ntmps71
  go_wp2_with (first | (go_at_call 48;refine (uh C1 _).mono ?_;rintro e w1 ⟨rfl,rfl⟩))
  refine bodyPost_ret (v:=.agg #[.int .i64 0,.slice none 0 0,.int .i64 5]) (by simp [results,results71,go_sem]) rfl ⟨none,0,rfl,⟨rfl,Or.inl ⟨rfl,rfl⟩⟩,?_⟩;exact (zC _ _).alloc (zD _) _
 have h2':0≤s∧s≤9:=Classical.not_not.1 h2;rw [show (decide (0≤s) && decide (s≤9))=true by simp [h2']] at C1;have C2:=aa fun v=>rF t v
 by_cases h3:aW t=⟨#[]⟩
 ·rw [h3] at C2;rw [show bO s t=(0,[],6) by unfold bO;rw [if_neg h1,if_neg h2,if_pos h3]];go_enter func71,ntmps71
  go_wp2_with (first
   | (go_at_call 48;refine (uh C1 _).mono ?_;rintro e w1 ⟨rfl,rfl⟩)
   | (go_at_call 97;refine (uh C2 _).mono ?_;rintro e w1 ⟨rfl,rfl⟩))
  refine bodyPost_ret (v:=.agg #[.int .i64 0,.slice none 0 0,.int .i64 6]) (by simp [results,results71,go_sem]) rfl ⟨none,0,rfl,⟨rfl,Or.inl ⟨rfl,rfl⟩⟩,?_⟩;exact (zC _ _).alloc (zD _) _
 have hok:kQ (aW t).data.toList=true:=(oY t).resolve_left h3;obtain ⟨k,rfl⟩:∃ k:Nat,s=(k:Int):=⟨s.toNat,by omega⟩;have hk:k<10:=by omega
 have hemp:=mr h3;have HF:Hid (bO (k:Int) t=if (ip k t).toList=[45] then ((k:Int),[],8) else (((ip k t).data.toList.getLastD 0).toNat - 48,if 2<(ip k t).size then bR ((ip k t).extract 0 ((ip k t).size - 2)) 32 else [],0)):=aa (by
  unfold bO;rw [if_neg h1,if_neg h2,if_neg h3];rfl)
 unfold ip at HF;change kQ (aW t).data.toList=true at hok
 generalize aW t=r at *;unfold kQ at hok;rw [Bool.and_eq_true,Bool.and_eq_true,Bool.and_eq_true,oW] at hok;obtain ⟨⟨⟨hl10,hall⟩,_⟩,hr200⟩:=hok;replace hl10:=of_decide_eq_true hl10;replace hr200:=of_decide_eq_true hr200;have hrs:r.size≤100000:=by
  have:r.data.toList.length=r.size:=by rw [Array.length_toList];rfl
  omega
 have C3:=aa fun v=>jG r 44 v hrs
 obtain ⟨x,hx⟩:∃ x,(bR r 44)[k]?=some x:=⟨_,List.getElem?_eq_getElem (by omega)⟩;rw [hx,Option.getD_some] at HF;have hxo:yj x=true:=List.all_eq_true.1 hall x (List.mem_of_getElem? hx);generalize bR r 44=L at *;obtain ⟨R,hR⟩:∃ R,(if x.toList=[45] then ((k:Int),([]:List ByteArray),(8:Int)) else ((x.data.toList.getLastD 0).toNat - 48,if 2<x.size then bR (x.extract 0 (x.size - 2)) 32 else [],0))=R:=⟨_,rfl⟩;rw [uh HF,hR];have HR:=aa hR;clear hR HF hall h1 h2 h3 hr200 hrs;have hk9:(k:Int)<10:=by omega
 have hk0:(0:Int)≤(k:Int):=by omega
 go_enter func71,ntmps71
 go_wp2_with (first
  | (go_at_call 48;refine (uh C1 _).mono ?_;rintro e w1 ⟨rfl,hw⟩;replace hw:=hw.symm;subst hw)
  | (go_at_call 97;refine (uh C2 _).mono ?_;rintro e w1 ⟨rfl,hw⟩;replace hw:=hw.symm;subst hw)
  | fail)
 refine (uh C3 _).mono ?_;rintro e w2 ⟨ad,cp,rfl,ho2,hb2⟩;have hr2:=(hb2.block w.heap.size (ge.1 (uh H0).1).1).trans (uh H0).1;have hB2:=(uh H0).2.trans (hb2.mono (uh H0).2.size);have hc2:∃ gL,ad=some ⟨gL,0,none⟩∧w2.cell? ⟨gL,k,none⟩=some (.string x):=by
  rcases HoldsT.own ho2 with ⟨_,_,_,e⟩ | ⟨gL,cp',cur,e,q1,q2,q3⟩
  ·rw [e] at hl10;cases hl10
  ·cases e;exact ⟨gL,rfl,by rw [cr q1,q3 k (by omega)];exact iK _ _ _ hx⟩
 obtain ⟨gL,rfl,k0⟩:=hc2;obtain ⟨r0,r1,r2,f0,f1,f2⟩:=ik hr2;have H2:=aa (zA hr2 hB2);rw [hl10];clear ho2 hb2 hr2 hB2 H0 C1 C2 C3 hx hemp;go_upto_region 9 with fail
 by_cases h45:x.toList=[45]
 ·have e45:(x.toList == [45])=true:=by rw [h45];rfl
  have hR:=uh HR;rw [if_pos h45] at hR;subst hR;clear HR h45;go_wp2
  refine bodyPost_ret (v:=.agg #[.int .i64 k,.slice none 0 0,.int .i64 8]) (by simp [results,results71,asAddr,nk (iw (uh H2).1 (.int .i64 k) (.slice none 0 0) (.int .i64 8))]) rfl ⟨none,0,rfl,⟨rfl,Or.inl ⟨rfl,rfl⟩⟩,eW (uh H2).2 (zD _) _ _ _⟩
 ·have e45:(x.toList == [45])=false:=beq_eq_false_iff_ne.2 h45;have hR:=uh HR;rw [if_neg h45] at hR;unfold yj at hxo;rw [Bool.and_eq_true,Bool.and_eq_true,← ByteArray.toList_eq,e45,Bool.or_false,Bool.and_eq_true] at hxo;obtain ⟨⟨hx1,hx30⟩,hc1,hc2⟩:=hxo;replace hx1:=of_decide_eq_true hx1;replace hx30:=of_decide_eq_true hx30;replace hc1:=of_decide_eq_true hc1;replace hc2:=of_decide_eq_true hc2;rw [ByteArray.toList_eq] at hc1 hc2;have hlast:x.data.toList.getLastD 0=x[x.size - 1]:=by
   rw [List.getLastD_eq_getLast?,List.getLast?_eq_getElem?,List.getElem?_eq_getElem (by rw [Array.length_toList];show x.data.size - 1<x.data.size;have:x.size=x.data.size:=rfl;omega)];rfl
  rw [hlast] at hR hc1 hc2;have d1':(1:Int)≤(x.size:Int):=by omega
  have HRR:=aa hR;clear hR HR hlast h45;go_upto_region 12 with fail
  have hlw:w.heap.size<w2.heap.size:=(ge.1 (uh H2).1).1
  refine ab (fun q=>q.heap[w.heap.size]?=some (.cells #[.int .i64 0,.slice none 0 0,.int .i64 0] 115)∧q.heap[w2.heap.size]?=some (.cells #[.int .i64 ((x[x.size - 1].toNat:Int) - 48),.slice none 0 0,.int .i64 0] 115)∧Below w.heap.size w q)
   ⟨(zG _ _ _ hlw).trans (uh H2).1,zF w2 _,(uh H2).2.alloc (uh H2).2.size _⟩ ?_
  rintro q ⟨hq1,hq2,hq3⟩;generalize w2.heap.size=N at *;clear H2 k0 r0 r1 r2 f0 f1 f2 hc1 hc2;generalize (x[x.size - 1].toNat:Int) - 48=st at *;have hlN:N<q.heap.size:=(ge.1 hq2).1;by_cases h2s:2<x.size
  ·have d2:(2:Int)<(x.size:Int):=by omega
   have hR:=uh HRR;rw [if_pos h2s] at hR;have C4:=aa fun v=>jG (x.extract 0 (x.size - 2)) 32 v (by rw [ByteArray.size_extract];omega)
   obtain ⟨A,hA⟩:∃ A,bR (x.extract 0 (x.size - 2)) 32=A:=⟨_,rfl⟩;rw [hA] at hR C4;subst hR;clear hA;obtain ⟨m0,m1,m2,g0,g1,g2⟩:=ik hq2;have HQ:=aa (zA hq1 (zA hq2 hq3));clear hq1 hq2 hq3 HRR;go_wp2_with fail
   refine (uh C4 _).mono ?_;rintro e w5 ⟨ad5,cp5,rfl,ho5,hb5⟩;have hr5:=(hb5.block w.heap.size (by omega)).trans (uh HQ).1;have hn5:=(hb5.block N hlN).trans (uh HQ).2.1;have hB5:=(uh HQ).2.2.trans (hb5.mono (uh HQ).2.2.size);have hs5:=hb5.size;clear m0 m1 m2 g0 g1 g2;obtain ⟨m0,m1,m2,g0,g1,g2⟩:=ik hn5;have H5:=aa (zA hr5 (zA hn5 (zA hB5 ho5)));clear hr5 hn5 hB5 ho5 hb5 HQ C4;go_upto_region 14 with fail
   refine ab (fun q'=>q'.heap[w.heap.size]?=some (.cells #[.int .i64 0,.slice none 0 0,.int .i64 0] 115)∧q'.heap[N]?=some (.cells #[.int .i64 st,.slice ad5 A.length cp5,.int .i64 0] 115)∧Below w.heap.size w q'∧q'.ownsRow q.heap.size 9 1 (.slice ad5 A.length cp5) A.length (a_ A))
    ⟨by rw [Below.heap_setCell _ _ _ _ (by simp;omega)];exact (uh H5).1,zH _ _ 1 _ _ _ (uh H5).2.1,(uh H5).2.2.1.setCell (p:=⟨N,1,none⟩) (by simp;omega) _,aY (uh H5).2.2.2 fun g hg _=>Below.heap_setCell _ _ _ _ (by simp;omega)⟩ ?_
   rintro q6 ⟨e1,e2,e3,e4⟩;clear m0 m1 m2 g0 g1 g2;obtain ⟨m0,m1,m2,_,_,_⟩:=ik e2;obtain ⟨r0,r1,r2,f0,f1,f2⟩:=ik e1;have H6:=aa (zA e1 (zA e3 e4));clear e1 e2 e3 e4 H5;go_wp2
   refine bodyPost_ret (v:=.agg #[.int .i64 st,.slice ad5 A.length cp5,.int .i64 0]) (by simp [results,results71,asAddr,nk (iw (uh H6).1 (.int .i64 st) (.slice ad5 A.length cp5) (.int .i64 0))]) rfl ⟨ad5,cp5,rfl,?_,eW (uh H6).2.1 (zD _) _ _ _⟩;have:=aY (w':=((q6.setCell ⟨w.heap.size,0,none⟩ (.int .i64 st)).setCell ⟨w.heap.size,1,none⟩ (.slice ad5 A.length cp5)).setCell ⟨w.heap.size,2,none⟩ (.int .i64 0)) (uh H6).2.2 fun g hg _=>by
    rw [Below.heap_setCell _ _ _ _ (by simp;omega),Below.heap_setCell _ _ _ _ (by simp;omega),Below.heap_setCell _ _ _ _ (by simp;omega)]
   exact ⟨this.1,this.2.imp id fun ⟨g,cap,cur,h1,h2,h3⟩=>⟨g,cap,cur,h1,by omega,h3⟩⟩
  ·have d2:¬ ((2:Int)<(x.size:Int)):=by omega
   have hR:=uh HRR;rw [if_neg h2s] at hR;subst hR;obtain ⟨m0,m1,m2,_,_,_⟩:=ik hq2;obtain ⟨r0,r1,r2,f0,f1,f2⟩:=ik hq1;have H6:=aa (zA hq1 hq3);clear hq1 hq2 hq3 HRR;go_wp2
   exact bodyPost_ret (v:=.agg #[.int .i64 st,.slice none 0 0,.int .i64 0]) (by simp [results,results71,asAddr,nk (iw (uh H6).1 (.int .i64 st) (.slice none 0 0) (.int .i64 0))]) rfl ⟨none,0,rfl,⟨rfl,Or.inl ⟨rfl,rfl⟩⟩,eW (uh H6).2 (zD _) _ _ _⟩
structure En where
 m1:Int
 a1:Int
 g1:Int
 p1:Bool
 c1:Bool
 d1:Bool
 m2:Int
 a2:Int
 g2:Int
 p2:Bool
 c2:Bool
 d2:Bool
 st:Int
 tr:Int
 du:Int
 id:Int
 fl:Int
 up:Bool
 i1:Int
 i2:Int
 i3:Bool
 i4:Bool
 i5:Bool
 o1:Int
 o2:Int
 o3:Bool
 o4:Bool
 o5:Bool
abbrev aA (e:En) (v1 v2:Value):Array Value:=#[.int .i64 e.m1,.int .i64 e.a1,.int .i64 e.g1,.bool e.p1,.bool e.c1,.bool e.d1,.int .i64 e.m2,.int .i64 e.a2,.int .i64 e.g2,.bool e.p2,.bool e.c2,.bool e.d2,.int .i64 e.st,.int .i64 e.tr,.int .i64 e.du,.int .i64 e.id,.int .i64 e.fl,v1,v2,.bool e.up,.int .i64 e.i1,.int .i64 e.i2,.bool e.i3,.bool e.i4,.bool e.i5,.int .i64 e.o1,.int .i64 e.o2,.bool e.o3,.bool e.o4,.bool e.o5]
theorem pF (m a g:Int) (p c d:Bool) (w:World):Calls prog 56 #[.agg #[.int .i64 m,.int .i64 a,.int .i64 g,.bool p,.bool c,.bool d],.agg #[.int .i64 m,.int .i64 a,.int .i64 g,.bool p,.bool c,.bool d]] w fun e w'=>e=.returned (.bool true)∧Below w.heap.size w w':=by
 go_enter func56,ntmps56
 go_wp2
 go_ret
 exact ⟨rfl,((zC _ _).alloc (zD _) _).alloc (by simp) _⟩
theorem nz (m a:Int) (p c d:Bool) (w:World):Calls prog 58 #[.agg #[.int .i64 m,.int .i64 a,.bool p,.bool c,.bool d],.agg #[.int .i64 m,.int .i64 a,.bool p,.bool c,.bool d]] w fun e w'=>e=.returned (.bool true)∧Below w.heap.size w w':=by
 go_enter func58,ntmps58
 go_wp2
 go_ret
 exact ⟨rfl,((zC _ _).alloc (zD _) _).alloc (by simp) _⟩
structure EqE (w:World) (cs ds:Array Value) (q:World):Prop where
 a:q.heap[w.heap.size]?=some (.cells cs 32)
 b:q.heap[w.heap.size+1]?=some (.cells ds 32)
 l:Below w.heap.size w q
theorem EqE.step {w:World} {cs ds:Array Value} {q q':World} (h:EqE w cs ds q) (hb:Below q.heap.size q q'):EqE w cs ds q' :=
 ⟨(hb.block _ (ge.1 h.a).1).trans h.a,(hb.block _ (ge.1 h.b).1).trans h.b,h.l.trans (hb.mono h.l.size)⟩
theorem uv (e:En) (x1 x2 x3 x4:Option Addr) (y1 y2 y3 y4:Nat) (F1 F2:List Op.Opt) (w:World) (l1:F1.length≤2000000) (l2:F2.length≤2000000)
  (h1:HoldsO w (.slice x1 F1.length y1) F1) (h2:HoldsO w (.slice x2 F2.length y2) F2) (h3:HoldsO w (.slice x3 F1.length y3) F1) (h4:HoldsO w (.slice x4 F2.length y4) F2) :
  Calls prog 32 #[.agg (aA e (.slice x1 F1.length y1) (.slice x2 F2.length y2)),.agg (aA e (.slice x3 F1.length y3) (.slice x4 F2.length y4))] w fun r w'=>r=.returned (.bool true)∧Below w.heap.size w w':=by
 have C1:=aa fun W (hb:Below w.heap.size w W)=>eqS _ _ F1 W l1 (h1.below hb rfl) (h3.below hb rfl)
 have C2:=aa fun W (hb:Below w.heap.size w W)=>eqS _ _ F2 W l2 (h2.below hb rfl) (h4.below hb rfl)
 obtain ⟨m1,a1,g1,p1,c1,d1,m2,a2,g2,p2,c2,d2,st,tr,du,id,fl,up,i1,i2,i3,i4,i5,o1,o2,o3,o4,o5⟩:=e;have hI:EqE w (aA ⟨m1,a1,g1,p1,c1,d1,m2,a2,g2,p2,c2,d2,st,tr,du,id,fl,up,i1,i2,i3,i4,i5,o1,o2,o3,o4,o5⟩ (.slice x1 F1.length y1) (.slice x2 F2.length y2)) (aA ⟨m1,a1,g1,p1,c1,d1,m2,a2,g2,p2,c2,d2,st,tr,du,id,fl,up,i1,i2,i3,i4,i5,o1,o2,o3,o4,o5⟩ (.slice x3 F1.length y3) (.slice x4 F2.length y4)) ((w.alloc (.cells (aA ⟨m1,a1,g1,p1,c1,d1,m2,a2,g2,p2,c2,d2,st,tr,du,id,fl,up,i1,i2,i3,i4,i5,o1,o2,o3,o4,o5⟩ (.slice x1 F1.length y1) (.slice x2 F2.length y2)) 32)).alloc (.cells (aA ⟨m1,a1,g1,p1,c1,d1,m2,a2,g2,p2,c2,d2,st,tr,du,id,fl,up,i1,i2,i3,i4,i5,o1,o2,o3,o4,o5⟩ (.slice x3 F1.length y3) (.slice x4 F2.length y4)) 32)):=by
  obtain ⟨_,b,c,d⟩:=br w (.cells (aA ⟨m1,a1,g1,p1,c1,d1,m2,a2,g2,p2,c2,d2,st,tr,du,id,fl,up,i1,i2,i3,i4,i5,o1,o2,o3,o4,o5⟩ (.slice x1 F1.length y1) (.slice x2 F2.length y2)) 32) (.cells (aA ⟨m1,a1,g1,p1,c1,d1,m2,a2,g2,p2,c2,d2,st,tr,du,id,fl,up,i1,i2,i3,i4,i5,o1,o2,o3,o4,o5⟩ (.slice x3 F1.length y3) (.slice x4 F2.length y4)) 32);exact ⟨b,c,d⟩
 unfold aA at hI ⊢;dsimp only at hI ⊢;clear h1 h2 h3 h4;generalize F1.length=n1 at *;generalize F2.length=n2 at *;have HI:=aa hI;clear hI;go_enter func32,ntmps32
 go_wp2_with fail
 refine (pF m1 a1 g1 p1 c1 d1 _).mono ?_;rintro r w1 ⟨rfl,hb1⟩;have hI1:=(uh HI).step hb1;have c6:w1.cell? ⟨w.heap.size,6,none⟩=some (.int .i64 m2):=by rw [cr hI1.a];rfl
 have c7:w1.cell? ⟨w.heap.size,7,none⟩=some (.int .i64 a2):=by rw [cr hI1.a];rfl
 have c8:w1.cell? ⟨w.heap.size,8,none⟩=some (.int .i64 g2):=by rw [cr hI1.a];rfl
 have c9:w1.cell? ⟨w.heap.size,9,none⟩=some (.bool p2):=by rw [cr hI1.a];rfl
 have c10:w1.cell? ⟨w.heap.size,10,none⟩=some (.bool c2):=by rw [cr hI1.a];rfl
 have c11:w1.cell? ⟨w.heap.size,11,none⟩=some (.bool d2):=by rw [cr hI1.a];rfl
 have e6:w1.cell? ⟨w.heap.size+1,6,none⟩=some (.int .i64 m2):=by rw [cr hI1.b];rfl
 have e7:w1.cell? ⟨w.heap.size+1,7,none⟩=some (.int .i64 a2):=by rw [cr hI1.b];rfl
 have e8:w1.cell? ⟨w.heap.size+1,8,none⟩=some (.int .i64 g2):=by rw [cr hI1.b];rfl
 have e9:w1.cell? ⟨w.heap.size+1,9,none⟩=some (.bool p2):=by rw [cr hI1.b];rfl
 have e10:w1.cell? ⟨w.heap.size+1,10,none⟩=some (.bool c2):=by rw [cr hI1.b];rfl
 have e11:w1.cell? ⟨w.heap.size+1,11,none⟩=some (.bool d2):=by rw [cr hI1.b];rfl
 have HI1:=aa hI1;clear hI1 hb1 HI;go_wp2_with fail
 refine (pF m2 a2 g2 p2 c2 d2 _).mono ?_;clear c6 e6 c7 e7 c8 e8 c9 e9 c10 e10 c11 e11;rintro r w2 ⟨rfl,hb2⟩;have hI2:=(uh HI1).step hb2;have c12:w2.cell? ⟨w.heap.size,12,none⟩=some (.int .i64 st):=by rw [cr hI2.a];rfl
 have c13:w2.cell? ⟨w.heap.size,13,none⟩=some (.int .i64 tr):=by rw [cr hI2.a];rfl
 have c14:w2.cell? ⟨w.heap.size,14,none⟩=some (.int .i64 du):=by rw [cr hI2.a];rfl
 have c15:w2.cell? ⟨w.heap.size,15,none⟩=some (.int .i64 id):=by rw [cr hI2.a];rfl
 have c16:w2.cell? ⟨w.heap.size,16,none⟩=some (.int .i64 fl):=by rw [cr hI2.a];rfl
 have c17:w2.cell? ⟨w.heap.size,17,none⟩=some (.slice x1 n1 y1):=by rw [cr hI2.a];rfl
 have e12:w2.cell? ⟨w.heap.size+1,12,none⟩=some (.int .i64 st):=by rw [cr hI2.b];rfl
 have e13:w2.cell? ⟨w.heap.size+1,13,none⟩=some (.int .i64 tr):=by rw [cr hI2.b];rfl
 have e14:w2.cell? ⟨w.heap.size+1,14,none⟩=some (.int .i64 du):=by rw [cr hI2.b];rfl
 have e15:w2.cell? ⟨w.heap.size+1,15,none⟩=some (.int .i64 id):=by rw [cr hI2.b];rfl
 have e16:w2.cell? ⟨w.heap.size+1,16,none⟩=some (.int .i64 fl):=by rw [cr hI2.b];rfl
 have e17:w2.cell? ⟨w.heap.size+1,17,none⟩=some (.slice x3 n1 y3):=by rw [cr hI2.b];rfl
 have HI2:=aa hI2;clear hI2 hb2 HI1;go_wp2_with fail
 refine (uh C1 _ (uh HI2).l).mono ?_;clear c12 e12 c13 e13 c14 e14 c15 e15 c16 e16 c17 e17;rintro r w3 ⟨rfl,hb3⟩;have hI3:=(uh HI2).step hb3;have c18:w3.cell? ⟨w.heap.size,18,none⟩=some (.slice x2 n2 y2):=by rw [cr hI3.a];rfl
 have e18:w3.cell? ⟨w.heap.size+1,18,none⟩=some (.slice x4 n2 y4):=by rw [cr hI3.b];rfl
 have HI3:=aa hI3;clear hI3 hb3 HI2;go_wp2_with fail
 refine (uh C2 _ (uh HI3).l).mono ?_;clear c18 e18;rintro r w4 ⟨rfl,hb4⟩;have hI4:=(uh HI3).step hb4;have c19:w4.cell? ⟨w.heap.size,19,none⟩=some (.bool up):=by rw [cr hI4.a];rfl
 have c20:w4.cell? ⟨w.heap.size,20,none⟩=some (.int .i64 i1):=by rw [cr hI4.a];rfl
 have c21:w4.cell? ⟨w.heap.size,21,none⟩=some (.int .i64 i2):=by rw [cr hI4.a];rfl
 have c22:w4.cell? ⟨w.heap.size,22,none⟩=some (.bool i3):=by rw [cr hI4.a];rfl
 have c23:w4.cell? ⟨w.heap.size,23,none⟩=some (.bool i4):=by rw [cr hI4.a];rfl
 have c24:w4.cell? ⟨w.heap.size,24,none⟩=some (.bool i5):=by rw [cr hI4.a];rfl
 have e19:w4.cell? ⟨w.heap.size+1,19,none⟩=some (.bool up):=by rw [cr hI4.b];rfl
 have e20:w4.cell? ⟨w.heap.size+1,20,none⟩=some (.int .i64 i1):=by rw [cr hI4.b];rfl
 have e21:w4.cell? ⟨w.heap.size+1,21,none⟩=some (.int .i64 i2):=by rw [cr hI4.b];rfl
 have e22:w4.cell? ⟨w.heap.size+1,22,none⟩=some (.bool i3):=by rw [cr hI4.b];rfl
 have e23:w4.cell? ⟨w.heap.size+1,23,none⟩=some (.bool i4):=by rw [cr hI4.b];rfl
 have e24:w4.cell? ⟨w.heap.size+1,24,none⟩=some (.bool i5):=by rw [cr hI4.b];rfl
 have HI4:=aa hI4;clear hI4 hb4 HI3;go_wp2_with fail
 refine (nz i1 i2 i3 i4 i5 _).mono ?_;clear c19 e19 c20 e20 c21 e21 c22 e22 c23 e23 c24 e24;rintro r w5 ⟨rfl,hb5⟩;have hI5:=(uh HI4).step hb5;have c25:w5.cell? ⟨w.heap.size,25,none⟩=some (.int .i64 o1):=by rw [cr hI5.a];rfl
 have c26:w5.cell? ⟨w.heap.size,26,none⟩=some (.int .i64 o2):=by rw [cr hI5.a];rfl
 have c27:w5.cell? ⟨w.heap.size,27,none⟩=some (.bool o3):=by rw [cr hI5.a];rfl
 have c28:w5.cell? ⟨w.heap.size,28,none⟩=some (.bool o4):=by rw [cr hI5.a];rfl
 have c29:w5.cell? ⟨w.heap.size,29,none⟩=some (.bool o5):=by rw [cr hI5.a];rfl
 have e25:w5.cell? ⟨w.heap.size+1,25,none⟩=some (.int .i64 o1):=by rw [cr hI5.b];rfl
 have e26:w5.cell? ⟨w.heap.size+1,26,none⟩=some (.int .i64 o2):=by rw [cr hI5.b];rfl
 have e27:w5.cell? ⟨w.heap.size+1,27,none⟩=some (.bool o3):=by rw [cr hI5.b];rfl
 have e28:w5.cell? ⟨w.heap.size+1,28,none⟩=some (.bool o4):=by rw [cr hI5.b];rfl
 have e29:w5.cell? ⟨w.heap.size+1,29,none⟩=some (.bool o5):=by rw [cr hI5.b];rfl
 have HI5:=aa hI5;clear hI5 hb5 HI4;go_wp2_with fail
 refine (nz o1 o2 o3 o4 o5 _).mono ?_;clear c25 e25 c26 e26 c27 e27 c28 e28 c29 e29;rintro r w6 ⟨rfl,hb6⟩;have HI6:=aa ((uh HI5).step hb6).l;clear hb6 HI5;go_wp2
 go_ret
 exact ⟨rfl,uh HI6⟩
end Go.Proofs.YtjdgiimfpkideaaGreatDoor
