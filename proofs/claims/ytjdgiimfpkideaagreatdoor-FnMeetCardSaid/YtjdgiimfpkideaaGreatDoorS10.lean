/- EndRi WkJ -/
import Derived.Test.YtjdgiimfpkideaaGreatDoorS09
set_option maxHeartbeats 8000000
set_option maxRecDepth 100000
namespace Go.Proofs.YtjdgiimfpkideaaGreatDoor
open Go.RowKit Go.Proofs.Tryz
theorem cE(x lo hi:Int)(w:World):Calls prog 45 #[x,lo,hi] w fun e w'=>e=.returned (.bool (bh lo hi x))/\w'=w:=by
 unfold bh;by_cases h1:lo<=x
 .rw [decide_eq_true h1,Bool.true_and];go_enter func45,ntmps45
  go_wp2
  go_ret
  exact⟨rfl,rfl⟩
 .rw [decide_eq_false h1,Bool.false_and];go_enter func45,ntmps45
  go_wp2
  go_ret
  exact⟨rfl,rfl⟩
theorem jS(B:Nat)(st:Int)(w:World)(c12:w.cell? (B,12)=some (st:V)):Calls prog 129 #[(B,0)] w fun e w'=>e=.returned (.bool (gj st))/\w'=w:=by
 have C:=aa (cE st 4 8 w);have e:gj st=bh 4 8 st:=rfl;rw[e];go_enter func129,ntmps129
 go_wp2_with fail
 refine cq C.out ?_;go_wp2
 go_ret
 exact⟨rfl,rfl⟩
theorem sG(B:Nat)(st du:Int)(w:World)(c12:w.cell? (B,12)=some (st:V))(c14:w.cell? (B,14)=some (du:V)):Calls prog 112 #[(B,0)] w fun e w'=>e=.returned (.bool (if gj st=true then bh 0 1000000003 du else du == -1))/\w'=w:=by
 have C:=aa (jS B st w c12);have CD:=aa (cE du 0 1000000003 w);cases hr:gj st
 .rw [hr]at C;rw[if_neg (by decide)];go_enter func112,ntmps112
  go_wp2_with fail
  refine cq C.out ?_;go_wp2
  go_ret
  exact⟨rfl,rfl⟩
 .rw [hr]at C;rw[if_pos rfl];go_enter func112,ntmps112
  go_wp2_with fail
  refine cq C.out ?_;go_wp2_with fail
  refine cq CD.out ?_;go_wp2
  go_ret
  exact⟨rfl,rfl⟩
theorem lJ(v:Value)(F:List Op.Opt)(w:World)(hm:F.length<=maxLen)(h:HoldsO w v F):Calls prog 114 #[v] w fun e w'=>e=.returned (.bool (cC F))/\Below w w w':=by
 have C1:=aa fun W (hb:Below w w W)=>nm v F W hm (h.below hb rfl)
 unfold cC;cases hr:Op.right F
 .rw [Bool.false_and];rw[hr]at C1;obtain⟨ad,cp,rfl⟩:=h.form;clear h;go_enter func114,ntmps114
  go_wp2_with fail
  refine(uh C1 _ (zC _ _)).mono ?_;rintro e w1⟨rfl,hb1⟩;go_wp2
  go_ret
  exact⟨rfl,hb1⟩
 .rw [Bool.true_and];rw[hr]at C1;have C2:=aa fun W (hb:Below w w W)=>cP v F W hm (h.below hb rfl)
  rw[fI hr]at C2;obtain⟨ad,cp,rfl⟩:=h.form;have hsz:(co (Op.bytes F)).size=(Op.bytes F).length:=by unfold co;show(Op.bytes F).toArray.size=_;simp
  clear h;generalize co (Op.bytes F)=tb at*;rw[<- hsz];go_enter func114,ntmps114
  go_wp2_with fail
  refine(uh C1 _ (zC _ _)).mono ?_;rintro e w1⟨rfl,hb1⟩;go_wp2_with fail
  refine(uh C2 _ hb1).mono ?_;rintro e w2⟨rfl,hb2⟩;go_wp2
  go_ret
  exact⟨congrArg (fun b=>Ending.returned (.bool b)) (decide_eq_decide.2 (by omega)),hb1.trans (hb2.mono hb1.size)⟩
def fK(e:En)(F1 F2:List Op.Opt):Bool:=(e.up==(e.st==9))&&(if e.up=true then dQ e.i1 e.i2 e.i3 e.i4 e.i5 (iJ F1)&&dQ e.o1 e.o2 e.o3 e.o4 e.o5 (iJ F2)else dQ e.i1 e.i2 e.i3 e.i4 e.i5 ⟨0,0,false,false,false⟩&&dQ e.o1 e.o2 e.o3 e.o4 e.o5 ⟨0,0,false,false,false⟩)
theorem kt(e:En)(B:Nat)(x1 x2:Option Addr)(y1 y2:Nat)(F1 F2:List Op.Opt)(w:World)(l1:F1.length<=maxLen)(l2:F2.length<=maxLen)(h1:HoldsO w (x1,F1.length,y1) F1)(h2:HoldsO w (x2,F2.length,y2) F2)(hB:w.heap[B]?=some (.cells (aA e (x1,F1.length,y1) (x2,F2.length,y2)) 32))(hEq:yd):Calls prog 115 #[(B,0)] w fun r w'=>r=.returned (.bool (fK e F1 F2))/\Below w w w':=by
 have HEQ:=aa hEq;clear hEq;have CL1:=aa fun W (hb:Below w w W)=>gv _ F1 W l1 (h1.below hb rfl)
 have CL2:=aa fun W (hb:Below w w W)=>gv _ F2 W l2 (h2.below hb rfl)
 obtain⟨m1,a1,g1,p1,c1,d1,m2,a2,g2,p2,c2,d2,st,tr,du,id,fl,up,i1,i2,i3,i4,i5,o1,o2,o3,o4,o5⟩:=e;obtain⟨R,hR⟩ := ex (fK ⟨m1,a1,g1,p1,c1,d1,m2,a2,g2,p2,c2,d2,st,tr,du,id,fl,up,i1,i2,i3,i4,i5,o1,o2,o3,o4,o5⟩ F1 F2);rw[hR];unfold fK at hR;dsimp only at hR;unfold aA at hB;dsimp only at hB;generalize iJ F1=L1 at*;generalize iJ F2=L2 at*;have HR:=aa hR;clear h1 h2 l1 l2 hR;generalize F1.length=n1 at*;generalize F2.length=n2 at*;have hlA:B<w.heap.size:=(ge.1 hB).1;have c12:w.cell? (B,12)=some (.int .i64 st):=cv hB
 have c17:w.cell? (B,17)=some (.slice x1 n1 y1):=cv hB
 have c18:w.cell? (B,18)=some (.slice x2 n2 y2):=cv hB
 have c19:w.cell? (B,19)=some (.bool up):=cv hB
 have c20:w.cell? (B,20)=some (.int .i64 i1):=cv hB
 have c21:w.cell? (B,21)=some (.int .i64 i2):=cv hB
 have c22:w.cell? (B,22)=some (.bool i3):=cv hB
 have c23:w.cell? (B,23)=some (.bool i4):=cv hB
 have c24:w.cell? (B,24)=some (.bool i5):=cv hB
 have c25:w.cell? (B,25)=some (.int .i64 o1):=cv hB
 have c26:w.cell? (B,26)=some (.int .i64 o2):=cv hB
 have c27:w.cell? (B,27)=some (.bool o3):=cv hB
 have c28:w.cell? (B,28)=some (.bool o4):=cv hB
 have c29:w.cell? (B,29)=some (.bool o5):=cv hB
 have HB:=aa hB;clear hB;cases hup:(up==(st==9))
 .rw [hup,Bool.false_and]at HR;have e:=uh HR;subst e;clear HR;have hn:(up != (st==9))=true:=by unfold bne;rw[hup];rfl
  go_enter func115,ntmps115
  go_upto_region 1 with fail
  go_quiet (fail)
  go_wp2
  go_ret
  exact⟨rfl,aH (zC _ _) _⟩
 have hn:(up != (st==9))=false:=by unfold bne;rw[hup];rfl
 rw[hup,Bool.true_and]at HR;go_enter func115,ntmps115
 go_upto_region 1 with fail
 go_quiet (fail)
 go_upto_region 3 with fail
 clear c12 c17 c18 c19 c20 c21 c22 c23 c24 c25 c26 c27 c28 c29;refine bb (fun q=>q.heap[B]?=some (.cells #[m1,a1,g1,p1,c1,d1,m2,a2,g2,p2,c2,d2,st,tr,du,id,fl,(x1,n1,y1),(x2,n2,y2),up,i1,i2,i3,i4,i5,o1,o2,o3,o4,o5] 32)/\Below w w q) ?_ ?_
 .exact ⟨uh HB,aH (zC _ _) _⟩
 rintro q⟨hq,hbq⟩;have hlq:B<q.heap.size:=(ge.1 hq).1;have c17:q.cell? (B,17)=some (.slice x1 n1 y1):=cv hq
 have c18:q.cell? (B,18)=some (.slice x2 n2 y2):=cv hq
 have c19:q.cell? (B,19)=some (.bool up):=cv hq
 have c20:q.cell? (B,20)=some (.int .i64 i1):=cv hq
 have c21:q.cell? (B,21)=some (.int .i64 i2):=cv hq
 have c22:q.cell? (B,22)=some (.bool i3):=cv hq
 have c23:q.cell? (B,23)=some (.bool i4):=cv hq
 have c24:q.cell? (B,24)=some (.bool i5):=cv hq
 have c25:q.cell? (B,25)=some (.int .i64 o1):=cv hq
 have c26:q.cell? (B,26)=some (.int .i64 o2):=cv hq
 have c27:q.cell? (B,27)=some (.bool o3):=cv hq
 have c28:q.cell? (B,28)=some (.bool o4):=cv hq
 have c29:q.cell? (B,29)=some (.bool o5):=cv hq
 have HQ:=aa (zA hq hbq);clear hq hbq HB;cases up
 .rw [if_neg (by decide)]at HR;have q1:∀W,(binOp .eql 30 (.agg #[i1,i2,i3,i4,i5]) (.agg #[(0:Int),(0:Int),false,false,false])).run prog W=.ok (.bool (dQ i1 i2 i3 i4 i5 ⟨0,0,false,false,false⟩)) W:=fun W=>HEQ.out.1 i1 i2 0 0 i3 i4 i5 false false false W
  have q2:∀W,(binOp .eql 30 (.agg #[o1,o2,o3,o4,o5]) (.agg #[(0:Int),(0:Int),false,false,false])).run prog W=.ok (.bool (dQ o1 o2 o3 o4 o5 ⟨0,0,false,false,false⟩)) W:=fun W=>HEQ.out.1 o1 o2 0 0 o3 o4 o5 false false false W
  have q3:=HEQ.out.2;clear CL1 CL2 HEQ;generalize dQ i1 i2 i3 i4 i5 ⟨0,0,false,false,false⟩=bi at*;generalize dQ o1 o2 o3 o4 o5 ⟨0,0,false,false,false⟩=bo at*;cases bi
  .rw [Bool.false_and]at HR;have e:=uh HR;subst e;clear HR;go_wp2
   go_ret
   exact⟨rfl,HQ.out.2⟩
  .rw [Bool.true_and]at HR;have e:=uh HR;subst e;clear HR;go_wp2
   go_ret
   exact⟨rfl,HQ.out.2⟩
 .rw [if_pos rfl]at HR;have q1:∀W,(binOp .eql 30 (.agg #[i1,i2,i3,i4,i5]) (.agg (gR L1))).run prog W=.ok (.bool (dQ i1 i2 i3 i4 i5 L1)) W:=fun W=>HEQ.out.1 i1 i2 L1.m L1.a i3 i4 i5 L1.p L1.c L1.d W
  have q2:∀W,(binOp .eql 30 (.agg #[o1,o2,o3,o4,o5]) (.agg (gR L2))).run prog W=.ok (.bool (dQ o1 o2 o3 o4 o5 L2)) W:=fun W=>HEQ.out.1 o1 o2 L2.m L2.a o3 o4 o5 L2.p L2.c L2.d W
  have q3:=HEQ.out.2;clear HEQ;generalize dQ i1 i2 i3 i4 i5 L1=bi at*;generalize dQ o1 o2 o3 o4 o5 L2=bo at*;go_upto_region 4 with fail
  refine wp_region_held_drew (S:=fun z=>z.cell? (B,17)=some (.slice x1 n1 y1)/\z.cell? (B,18)=some (.slice x2 n2 y2)/\z.cell? (B,20)=some (.int .i64 i1)/\z.cell? (B,21)=some (.int .i64 i2)/\z.cell? (B,22)=some (.bool i3)/\z.cell? (B,23)=some (.bool i4)/\z.cell? (B,24)=some (.bool i5)/\z.cell? (B,25)=some (.int .i64 o1)/\z.cell? (B,26)=some (.int .i64 o2)/\z.cell? (B,27)=some (.bool o3)/\z.cell? (B,28)=some (.bool o4)/\z.cell? (B,29)=some (o5:V)) (by kernel_rfl) ?_ (fun hHeld=>?_)
  .exact ⟨c17,c18,c20,c21,c22,c23,c24,c25,c26,c27,c28,c29⟩
  cases bi
  .rw [Bool.false_and]at HR;have e:=uh HR;subst e;clear HR;refine tq 0 1 2 3 ?_;refine tq 4 5 6 7 ?_;refine r3 8 fun K hK=>?_
   go_simp;refine(uh CL1 _ (HQ.out.2.trans ((zC _ _).drew.mono HQ.out.2.size))).mono ?_;rintro r w10⟨rfl,hb⟩;have B10:Below q q w10:=(zC _ _).drew.trans hb;clear hb;go_wp2_with fail
   refine hK.out _ _ ?_ (fun hHeld10=>?_)
   .exact ⟨(B10.cell (p:=(B,17)) hlq).trans c17,(B10.cell (p:=(B,18)) hlq).trans c18,(B10.cell (p:=(B,20)) hlq).trans c20,(B10.cell (p:=(B,21)) hlq).trans c21,(B10.cell (p:=(B,22)) hlq).trans c22,(B10.cell (p:=(B,23)) hlq).trans c23,(B10.cell (p:=(B,24)) hlq).trans c24,(B10.cell (p:=(B,25)) hlq).trans c25,(B10.cell (p:=(B,26)) hlq).trans c26,(B10.cell (p:=(B,27)) hlq).trans c27,(B10.cell (p:=(B,28)) hlq).trans c28,(B10.cell (p:=(B,29)) hlq).trans c29⟩
   clear hK K;try simp only[Act.put,sA,sZ,sS,gA,gZ,gS]
   refine tt 9 10 ?_;refine t5 11 ?_;refine t5 12 ?_;refine t5 13 ?_;refine t5 14 ?_;refine t5 15 ?_;refine t5 16 ?_;refine t5 17 ?_;refine t5 18 ?_;refine t5 19 ?_;refine t5 20 ?_;refine tt 21 22 ?_;refine dn ?_ _;go_wp2
   go_ret
   exact⟨rfl,HQ.out.2.trans (B10.mono HQ.out.2.size)⟩
  .rw [Bool.true_and]at HR;have e:=uh HR;subst e;clear HR;refine tq 0 1 2 3 ?_;refine tq 4 5 6 7 ?_;refine r3 8 fun K hK=>?_
   go_simp;refine(uh CL1 _ (HQ.out.2.trans ((zC _ _).drew.mono HQ.out.2.size))).mono ?_;rintro r w10⟨rfl,hb⟩;have B10:Below q q w10:=(zC _ _).drew.trans hb;clear hb;go_wp2_with fail
   refine hK.out _ _ ?_ (fun hHeld10=>?_)
   .exact ⟨(B10.cell (p:=(B,17)) hlq).trans c17,(B10.cell (p:=(B,18)) hlq).trans c18,(B10.cell (p:=(B,20)) hlq).trans c20,(B10.cell (p:=(B,21)) hlq).trans c21,(B10.cell (p:=(B,22)) hlq).trans c22,(B10.cell (p:=(B,23)) hlq).trans c23,(B10.cell (p:=(B,24)) hlq).trans c24,(B10.cell (p:=(B,25)) hlq).trans c25,(B10.cell (p:=(B,26)) hlq).trans c26,(B10.cell (p:=(B,27)) hlq).trans c27,(B10.cell (p:=(B,28)) hlq).trans c28,(B10.cell (p:=(B,29)) hlq).trans c29⟩
   clear hK K;try simp only[Act.put,sA,sZ,sS,gA,gZ,gS]
   refine tq 9 10 11 12 ?_;refine tq 13 14 15 16 ?_;refine tt 17 18 ?_;refine r3 19 fun K hK=>?_
   go_simp;refine(uh CL2 _ (HQ.out.2.trans (B10.mono HQ.out.2.size))).mono ?_;rintro r w11⟨rfl,hb⟩;have B11:Below q q w11:=B10.trans (hb.mono B10.size);clear hb;go_wp2_with fail
   refine hK.out _ _ ?_ (fun hHeld11=>?_)
   .exact ⟨(B11.cell (p:=(B,17)) hlq).trans c17,(B11.cell (p:=(B,18)) hlq).trans c18,(B11.cell (p:=(B,20)) hlq).trans c20,(B11.cell (p:=(B,21)) hlq).trans c21,(B11.cell (p:=(B,22)) hlq).trans c22,(B11.cell (p:=(B,23)) hlq).trans c23,(B11.cell (p:=(B,24)) hlq).trans c24,(B11.cell (p:=(B,25)) hlq).trans c25,(B11.cell (p:=(B,26)) hlq).trans c26,(B11.cell (p:=(B,27)) hlq).trans c27,(B11.cell (p:=(B,28)) hlq).trans c28,(B11.cell (p:=(B,29)) hlq).trans c29⟩
   clear hK K;try simp only[Act.put,sA,sZ,sS,gA,gZ,gS]
   refine tt 20 21 ?_;refine t2 22 ?_;refine dn ?_ _;go_wp2
   go_ret
   exact⟨rfl,HQ.out.2.trans (B11.mono HQ.out.2.size)⟩
theorem ir(e:En)(x1 x2:Option Addr)(y1 y2:Nat)(F1 F2:List Op.Opt)(w:World)(l1:F1.length<=maxLen)(l2:F2.length<=maxLen)(h1:HoldsO w (x1,F1.length,y1) F1)(h2:HoldsO w (x2,F2.length,y2) F2)(hEq:yd):Calls prog 82 #[.agg (aA e (x1,F1.length,y1) (x2,F2.length,y2))] w fun r w'=>r=.returned (.bool (dJ e F1 F2))/\Below w w w':=by
 have C7:=aa fun W (hb:Below w w W)=>lJ _ F1 W l1 (h1.below hb rfl)
 have C8:=aa fun W (hb:Below w w W)=>lJ _ F2 W l2 (h2.below hb rfl)
 have C9:=aa fun W (hb:Below w w W) (hB)=>kt e w x1 x2 y1 y2 F1 F2 W l1 l2 (h1.below hb rfl) (h2.below hb rfl) hB hEq
 obtain⟨m1,a1,g1,p1,c1,d1,m2,a2,g2,p2,c2,d2,st,tr,du,id,fl,up,i1,i2,i3,i4,i5,o1,o2,o3,o4,o5⟩:=e;have hA:=zF w (.cells (aA ⟨m1,a1,g1,p1,c1,d1,m2,a2,g2,p2,c2,d2,st,tr,du,id,fl,up,i1,i2,i3,i4,i5,o1,o2,o3,o4,o5⟩ (x1,F1.length,y1) (x2,F2.length,y2)) 32);have hbA:Below w w (w.alloc (.cells (aA ⟨m1,a1,g1,p1,c1,d1,m2,a2,g2,p2,c2,d2,st,tr,du,id,fl,up,i1,i2,i3,i4,i5,o1,o2,o3,o4,o5⟩ (x1,F1.length,y1) (x2,F2.length,y2)) 32)):=(zC _ _).alloc (zD _) _;have CC1:=aa fun W=>dm m1 a1 g1 p1 c1 d1 W
 have CC2:=aa fun W=>dm m2 a2 g2 p2 c2 d2 W
 have CI1:=aa fun W=>cE st 0 9 W
 have CI2:=aa fun W=>cE tr 0 5 W
 have CI3:=aa fun W=>Cm id W
 have CI4:=aa fun W=>cE fl 0 3 W
 have CD:=aa fun W=>sG w st du W
 obtain⟨R,hR⟩ := ex (dJ ⟨m1,a1,g1,p1,c1,d1,m2,a2,g2,p2,c2,d2,st,tr,du,id,fl,up,i1,i2,i3,i4,i5,o1,o2,o3,o4,o5⟩ F1 F2);rw[hR];have hR2:(aK m1 a1 g1&&(aK m2 a2 g2&&(bh 0 9 st&&(bh 0 5 tr&&((if gj st=true then bh 0 1000000003 du else du == -1)&&((decide (0<=id)&&decide (id<=255))&&(bh 0 3 fl&&(cC F1&&(cC F2&&fK ⟨m1,a1,g1,p1,c1,d1,m2,a2,g2,p2,c2,d2,st,tr,du,id,fl,up,i1,i2,i3,i4,i5,o1,o2,o3,o4,o5⟩ F1 F2)))))))))=R:=by
  rw[<- hR];unfold dJ fK;dsimp only;ac_rfl
 clear hR;unfold aA at hA hbA C9|-;dsimp only at hA hbA C9|-;generalize fK ⟨m1,a1,g1,p1,c1,d1,m2,a2,g2,p2,c2,d2,st,tr,du,id,fl,up,i1,i2,i3,i4,i5,o1,o2,o3,o4,o5⟩ F1 F2=b10 at*;generalize aK m1 a1 g1=b1 at*;generalize aK m2 a2 g2=b2 at*;generalize bh 0 9 st=b3 at*;generalize bh 0 5 tr=b4 at*;generalize (if gj st=true then bh 0 1000000003 du else du == -1)=b5 at*;generalize (decide (0<=id)&&decide (id<=255))=b6 at*;generalize bh 0 3 fl=b7 at*;generalize cC F1=b8 at*;generalize cC F2=b9 at*;have HR:=aa hR2;have HA:=aa (zA hA hbA);clear hA hbA h1 h2 l1 l2 hR2 hEq;generalize F1.length=n1 at*;generalize F2.length=n2 at*;go_enter func82,ntmps82
 go_wp2_with fail
 refine(uh CC1 _).mono ?_;rintro r w1⟨rfl,hb1⟩;have hr1:=(hb1.block w (ge.1 HA.out.1).1).trans HA.out.1;have hB1:=HA.out.2.trans (hb1.mono HA.out.2.size);have c6:w1.cell? (w,6)=some (.int .i64 m2):=cv hr1
 have c7:w1.cell? (w,7)=some (.int .i64 a2):=cv hr1
 have c8:w1.cell? (w,8)=some (.int .i64 g2):=cv hr1
 have c9:w1.cell? (w,9)=some (.bool p2):=cv hr1
 have c10:w1.cell? (w,10)=some (.bool c2):=cv hr1
 have c11:w1.cell? (w,11)=some (.bool d2):=cv hr1
 have H1:=aa (zA hr1 hB1);clear hr1 hB1 hb1 HA;cases b1
 .rw [Bool.false_and]at HR;have e:=uh HR;subst e;clear HR;go_wp2
  go_ret
  exact⟨rfl,H1.out.2⟩
 rw[Bool.true_and]at HR;go_wp2_with fail
 refine(uh CC2 _).mono ?_;rintro r w2⟨rfl,hb2⟩;have hr2:=(hb2.block w (ge.1 H1.out.1).1).trans H1.out.1;have hB2:=H1.out.2.trans (hb2.mono H1.out.2.size);clear c6 c7 c8 c9 c10 c11;have c12:w2.cell? (w,12)=some (.int .i64 st):=cv hr2
 have c13:w2.cell? (w,13)=some (.int .i64 tr):=cv hr2
 have c14:w2.cell? (w,14)=some (.int .i64 du):=cv hr2
 have c15:w2.cell? (w,15)=some (.int .i64 id):=cv hr2
 have c16:w2.cell? (w,16)=some (.int .i64 fl):=cv hr2
 have c17:w2.cell? (w,17)=some (.slice x1 n1 y1):=cv hr2
 have H2:=aa (zA hr2 hB2);clear hr2 hB2 hb2 H1;cases b2
 .rw [Bool.false_and]at HR;have e:=uh HR;subst e;clear HR;go_wp2
  go_ret
  exact⟨rfl,H2.out.2⟩
 rw[Bool.true_and]at HR;go_wp2_with fail
 refine cq (uh CI1 _) ?_;cases b3
 .rw [Bool.false_and]at HR;have e:=uh HR;subst e;clear HR;go_wp2
  go_ret
  exact⟨rfl,H2.out.2⟩
 rw[Bool.true_and]at HR;go_wp2_with fail
 refine cq (uh CI2 _) ?_;cases b4
 .rw [Bool.false_and]at HR;have e:=uh HR;subst e;clear HR;go_wp2
  go_ret
  exact⟨rfl,H2.out.2⟩
 rw[Bool.true_and]at HR;go_wp2_with fail
 refine cq (uh CD _ c12 c14) ?_;cases b5
 .rw [Bool.false_and]at HR;have e:=uh HR;subst e;clear HR;go_wp2
  go_ret
  exact⟨rfl,H2.out.2⟩
 rw[Bool.true_and]at HR;go_wp2_with fail
 refine cq (uh CI3 _) ?_;cases b6
 .rw [Bool.false_and]at HR;have e:=uh HR;subst e;clear HR;go_wp2
  go_ret
  exact⟨rfl,H2.out.2⟩
 rw[Bool.true_and]at HR;go_wp2_with fail
 refine cq (uh CI4 _) ?_;cases b7
 .rw [Bool.false_and]at HR;have e:=uh HR;subst e;clear HR;go_wp2
  go_ret
  exact⟨rfl,H2.out.2⟩
 rw[Bool.true_and]at HR;go_wp2_with fail
 refine(uh C7 _ H2.out.2).mono ?_;rintro r w8⟨rfl,hb8⟩;have hr8:=(hb8.block w (ge.1 H2.out.1).1).trans H2.out.1;have hB8:=H2.out.2.trans (hb8.mono H2.out.2.size);clear c12 c13 c14 c15 c16 c17;have c18:w8.cell? (w,18)=some (.slice x2 n2 y2):=cv hr8
 have H8:=aa (zA hr8 hB8);clear hr8 hB8 hb8 H2;cases b8
 .rw [Bool.false_and]at HR;have e:=uh HR;subst e;clear HR;go_wp2
  go_ret
  exact⟨rfl,H8.out.2⟩
 rw[Bool.true_and]at HR;go_wp2_with fail
 refine(uh C8 _ H8.out.2).mono ?_;rintro r w9⟨rfl,hb9⟩;have hr9:=(hb9.block w (ge.1 H8.out.1).1).trans H8.out.1;have hB9:=H8.out.2.trans (hb9.mono H8.out.2.size);clear c18;have H9:=aa (zA hr9 hB9);clear hr9 hB9 hb9 H8;cases b9
 .rw [Bool.false_and]at HR;have e:=uh HR;subst e;clear HR;go_wp2
  go_ret
  exact⟨rfl,H9.out.2⟩
 rw[Bool.true_and]at HR;go_wp2_with fail
 refine(uh C9 _ H9.out.2 H9.out.1).mono ?_;rintro r w10⟨rfl,hb10⟩;have e:=uh HR;subst e;clear HR;go_wp2
 go_ret
 exact⟨rfl,H9.out.2.trans (hb10.mono H9.out.2.size)⟩
theorem wI(w:World):Calls prog 118 #[mO] w fun e w'=>e=.returned (.iface 159 (.agg #[(5:Int)]))/\w'=w:=by
 go_enter func118,ntmps118
 go_wp2
 go_ret
 exact⟨rfl,rfl⟩
theorem yw(w:World):Calls prog 118 #[pT] w fun e w'=>e=.returned (.iface 159 (.agg #[(0:Int)]))/\w'=w:=by
 go_enter func118,ntmps118
 go_wp2
 go_ret
 exact⟨rfl,rfl⟩
theorem wJ(w:World):Calls prog 118 #[mP] w fun e w'=>e=.returned (.iface 172 (.agg #[]))/\w'=w:=by
 go_enter func118,ntmps118
 go_wp2
 go_ret
 exact⟨rfl,rfl⟩
theorem wK(w:World):Calls prog 118 #[mQ] w fun e w'=>e=.returned (.iface 173 (.agg #[]))/\w'=w:=by
 go_enter func118,ntmps118
 go_wp2
 go_ret
 exact⟨rfl,rfl⟩
theorem Ha(w:World):Calls prog 118 #[pY] w fun e w'=>e=.returned (.iface 174 (.agg #[]))/\w'=w:=by
 go_enter func118,ntmps118
 go_wp2
 go_ret
 exact⟨rfl,rfl⟩
theorem yz(w:World):Calls prog 118 #[pZ] w fun e w'=>e=.returned (.iface 174 (.agg #[]))/\w'=w:=by
 go_enter func118,ntmps118
 go_wp2
 go_ret
 exact⟨rfl,rfl⟩
theorem yA(w:World):Calls prog 118 #[p5] w fun e w'=>e=.returned (.iface 175 (.agg #[]))/\w'=w:=by
 go_enter func118,ntmps118
 go_wp2
 go_ret
 exact⟨rfl,rfl⟩
theorem yB(w:World):Calls prog 118 #[p6] w fun e w'=>e=.returned (.iface 176 (.agg #[]))/\w'=w:=by
 go_enter func118,ntmps118
 go_wp2
 go_ret
 exact⟨rfl,rfl⟩
theorem yC(w:World):Calls prog 118 #[p7] w fun e w'=>e=.returned (.iface 177 (.agg #[]))/\w'=w:=by
 go_enter func118,ntmps118
 go_wp2
 go_ret
 exact⟨rfl,rfl⟩
theorem wL(w:World):Calls prog 118 #[bP] w fun e w'=>e=.returned (.iface 161 (.agg #[bP]))/\w'=w:=by
 go_enter func118,ntmps118
 go_wp2
 go_ret
 exact⟨rfl,rfl⟩
theorem wM(w:World):Calls prog 118 #[bQ] w fun e w'=>e=.returned (.iface 161 (.agg #[bQ]))/\w'=w:=by
 go_enter func118,ntmps118
 go_wp2
 go_ret
 exact⟨rfl,rfl⟩
theorem wN(w:World):Calls prog 118 #[bL] w fun e w'=>e=.returned (.iface 161 (.agg #[bL]))/\w'=w:=by
 go_enter func118,ntmps118
 go_wp2
 go_ret
 exact⟨rfl,rfl⟩
theorem yD(w:World):Calls prog 118 #[dz] w fun e w'=>e=.returned (.iface 161 (.agg #[dz]))/\w'=w:=by
 go_enter func118,ntmps118
 go_wp2
 go_ret
 exact⟨rfl,rfl⟩
section
variable {w0 w1:World} {B:Nat} {c:Cx} {s:St} {v1 v2 vs vt:Value} {q:World}
theorem wO(h:Lay 129 w0 w1 B c s v1 v2 vs vt q):Calls prog 241 #[.agg #[bP],(B,0)] q fun r q'=>r=.returned (.tuple #[])/\Lay 129 w0 w1 B c s v1 v2 vs vt q':=by
 have hb:Below q q (q.alloc (.cells #[bP] 161)):=(zC _ _).alloc (zD _) _;have HL:=aa (h.step hb);clear h hb;go_enter func241,ntmps241
 go_wp2
 exact Great.bodyPost_end0 rfl rfl ⟨rfl,uh HL⟩
theorem wP(h:Lay 129 w0 w1 B c s v1 v2 vs vt q):Calls prog 241 #[.agg #[bQ],(B,0)] q fun r q'=>r=.returned (.tuple #[])/\Lay 129 w0 w1 B c s v1 v2 vs vt q':=by
 have hb:Below q q (q.alloc (.cells #[bQ] 161)):=(zC _ _).alloc (zD _) _;have HL:=aa (h.step hb);clear h hb;go_enter func241,ntmps241
 go_wp2
 exact Great.bodyPost_end0 rfl rfl ⟨rfl,uh HL⟩
theorem wQ(h:Lay 129 w0 w1 B c s v1 v2 vs vt q):Calls prog 241 #[.agg #[bL],(B,0)] q fun r q'=>r=.returned (.tuple #[])/\Lay 129 w0 w1 B c {s with e:=gD s.e} v1 v2 vs vt q':=by
 have hb:Below q q (q.alloc (.cells #[bL] 161)):=(zC _ _).alloc (zD _) _;have HL:=aa (h.step hb);clear h hb;go_enter func241,ntmps241
 go_wp2_with fail
 refine(wF HL.out).mono ?_;rintro r q1⟨rfl,h1⟩;go_wp2
 exact Great.bodyPost_end0 rfl rfl ⟨rfl,h1⟩
def jp(now:Int)(b:Bool)(e:En):En:={e with du:=if gj e.st=true then(if(b||e.du == -1)=true then now+3 else e.du)else -1}
theorem wR(h:Lay 129 w0 w1 B c s v1 v2 vs vt q)(b:Bool)(hn:0<=c.now/\c.now<=1000000000):Calls prog 119 #[(B,0),b] q fun r q'=>r=.returned (.tuple #[])/\Lay 129 w0 w1 B c {s with e:=jp c.now b s.e} v1 v2 vs vt q':=by
 have c12:=h.cell (i:=12) rfl;have c14:=h.cell (i:=14) rfl;have f14:=h.frz 14;have c30:=h.cell (i:=30) rfl;have C:=aa (jS B s.e.st q c12);obtain⟨h3,h4⟩:=hn;have HL:=aa h;clear h c12;cases hr:gj s.e.st
 .have HE:jp c.now b s.e={s.e with du:=-1}:=by unfold jp;rw[hr];rfl
  rw[hr]at C;go_enter func119,ntmps119
  go_wp2_with fail
  refine cq C.out ?_;go_wp2
  refine Great.bodyPost_end0 rfl rfl ⟨rfl,?_⟩;rw[HE];exact HL.out.setRaw 14 (.int .i64 (-1)) {s.e with du:=-1} rfl
 .rw [hr]at C;cases b
  .by_cases hd:s.e.du=-1
   .have HE:jp c.now false s.e={s.e with du:=c.now+3}:=by unfold jp;rw[hr,hd];rfl
    go_enter func119,ntmps119
    go_wp2_with fail
    refine cq C.out ?_;go_wp2
    refine Great.bodyPost_end0 rfl rfl ⟨rfl,?_⟩;rw[HE];exact HL.out.setRaw 14 (.int .i64 (c.now+3)) {s.e with du:=c.now+3} rfl
   .have hd2:(s.e.du == -1)=false:=zL hd;have HE:jp c.now false s.e=s.e:=by unfold jp;rw[hr,hd2];rfl
    go_enter func119,ntmps119
    go_wp2_with fail
    refine cq C.out ?_;go_wp2
    refine Great.bodyPost_end0 rfl rfl ⟨rfl,?_⟩;rw[HE];exact uh HL
  .have HE:jp c.now true s.e={s.e with du:=c.now+3}:=by unfold jp;rw[hr];rfl
   go_enter func119,ntmps119
   go_wp2_with fail
   refine cq C.out ?_;go_wp2
   refine Great.bodyPost_end0 rfl rfl ⟨rfl,?_⟩;rw[HE];exact HL.out.setRaw 14 (.int .i64 (c.now+3)) {s.e with du:=c.now+3} rfl
end
end Go.Proofs.YtjdgiimfpkideaaGreatDoor
