/- EndOk WkD WkI -/
import Derived.Test.YtjdgiimfpkideaaGreatDoorS05
import Derived.Test.YtjdgiimfpkideaaGreatDoorS08
import Derived.Test.YtjdgiimfpkideaaGreatDoorS07
set_option maxHeartbeats 8000000
set_option maxRecDepth 100000
namespace Go.Proofs.YtjdgiimfpkideaaGreatDoor
open Go.RowKit Go.Proofs.Tryz
variable {c:Cx} {n:Nat} {s:St}
def cC(F:List Op.Opt):Bool:=Op.right F&&decide ((Op.bytes F).length<=250)
def gj(st:Int):Bool:=decide (4<=st)&&decide (st<=8)
def dQ(m a:Int)(p c d:Bool)(x:Ln):Bool:=m==(x.m:Int)&&(a==(x.a:Int)&&(p==x.p&&(c==x.c&&d==x.d)))
def dJ(e:En)(F1 F2:List Op.Opt):Bool :=
 aK e.m1 e.a1 e.g1&&(aK e.m2 e.a2 e.g2&&(bh 0 9 e.st&&(bh 0 5 e.tr&&((decide (0<=e.id)&&decide (e.id<=255))&&(bh 0 3 e.fl&&(cC F1&&(cC F2 &&
  ((if gj e.st=true then bh 0 1000000003 e.du else e.du == -1)&&((e.up==(e.st==9)) &&
   (if e.up=true then dQ e.i1 e.i2 e.i3 e.i4 e.i5 (iJ F1)&&dQ e.o1 e.o2 e.o3 e.o4 e.o5 (iJ F2)else dQ e.i1 e.i2 e.i3 e.i4 e.i5 ⟨0,0,false,false,false⟩&&dQ e.o1 e.o2 e.o3 e.o4 e.o5 ⟨0,0,false,false,false⟩))))))))))
theorem lv(st:Int)(w:World):Calls prog 73 #[st] w fun e w'=>e=.returned (.bool (gj st))/\w'=w:=by
 unfold gj;by_cases h1:4<=st
 .rw [decide_eq_true h1,Bool.true_and];go_enter func73,ntmps73
  go_wp2
  go_ret
  exact⟨rfl,rfl⟩
 .rw [decide_eq_false h1,Bool.false_and];go_enter func73,ntmps73
  go_wp2
  go_ret
  exact⟨rfl,rfl⟩
theorem fJ(v:Value)(F:List Op.Opt)(w:World)(hr:Op.right F=true)(h:HoldsO w v F):Calls prog 76 #[v] w fun e w'=>e=.returned (.string (co (Op.bytes F)))/\Below w w w':=by
 rcases h with⟨ad,cp,rfl,rfl⟩|⟨g,cp,cur,rfl,h1,h2,h3⟩
 .exact r_ ad cp w
 .exact sd g cp F cur w hr h1 h3
theorem Bz(v:Value)(F:List Op.Opt)(w:World)(hm:F.length<=maxLen)(h:HoldsO w v F):Calls prog 95 #[v] w fun e w'=>e=.returned (.bool (cC F))/\Below w w w':=by
 have C1:=aa fun W (hb:Below w w W)=>nA v F W hm (h.below hb rfl)
 unfold cC;cases hr:Op.right F
 .rw [Bool.false_and];rw[hr]at C1;obtain⟨ad,cp,rfl⟩:=h.form;clear h;go_enter func95,ntmps95
  go_wp2_with fail
  refine(uh C1 _ (zC _ _)).mono ?_;rintro e w1⟨rfl,hb1⟩;go_wp2
  go_ret
  exact⟨rfl,hb1⟩
 .rw [Bool.true_and];rw[hr]at C1;have C2:=aa fun W (hb:Below w w W)=>fJ v F W hr (h.below hb rfl)
  obtain⟨ad,cp,rfl⟩:=h.form;have hsz:(co (Op.bytes F)).size=(Op.bytes F).length:=by unfold co;show(Op.bytes F).toArray.size=_;simp
  clear h;generalize co (Op.bytes F)=tb at*;rw[<- hsz];clear hsz;go_enter func95,ntmps95
  go_wp2_with fail
  refine(uh C1 _ (zC _ _)).mono ?_;rintro e w1⟨rfl,hb1⟩;go_wp2_with fail
  refine(uh C2 _ hb1).mono ?_;rintro e w2⟨rfl,hb2⟩;go_wp2
  go_ret
  exact⟨congrArg (fun b=>Ending.returned (.bool b)) (decide_eq_decide.2 (by omega)),hb1.trans (hb2.mono hb1.size)⟩
def yd:Prop:=(∀(m a m' a':Int)(p c d p' c' d':Bool)(W:World),(binOp .eql 30 (.agg #[m,a,p,c,d]) (.agg #[m',a',p',c',d'])).run prog W=.ok (.bool (m==m'&&(a==a'&&(p==p'&&(c==c'&&d==d'))))) W) /\
 ∀(x y:Operand)(xs ys:Array Value)(W:World),(eqGuard .eql 30 x y (.agg xs) (.agg ys)).run prog W=.ok () W
theorem iq(e:En)(x1 x2:Option Addr)(y1 y2:Nat)(F1 F2:List Op.Opt)(w:World)(l1:F1.length<=maxLen)(l2:F2.length<=maxLen)(h1:HoldsO w (x1,F1.length,y1) F1)(h2:HoldsO w (x2,F2.length,y2) F2)(hEq:yd):Calls prog 69 #[.agg (aA e (x1,F1.length,y1) (x2,F2.length,y2))] w fun r w'=>r=.returned (.bool (dJ e F1 F2))/\Below w w w':=by
 have HEQ:=aa hEq;clear hEq;have C7:=aa fun W (hb:Below w w W)=>Bz _ F1 W l1 (h1.below hb rfl)
 have C8:=aa fun W (hb:Below w w W)=>Bz _ F2 W l2 (h2.below hb rfl)
 have CL1:=aa fun W (hb:Below w w W)=>zZ _ F1 W l1 (h1.below hb rfl)
 have CL2:=aa fun W (hb:Below w w W)=>zZ _ F2 W l2 (h2.below hb rfl)
 obtain⟨m1,a1,g1,p1,c1,d1,m2,a2,g2,p2,c2,d2,st,tr,du,id,fl,up,i1,i2,i3,i4,i5,o1,o2,o3,o4,o5⟩:=e;have hA:=zF w (.cells (aA ⟨m1,a1,g1,p1,c1,d1,m2,a2,g2,p2,c2,d2,st,tr,du,id,fl,up,i1,i2,i3,i4,i5,o1,o2,o3,o4,o5⟩ (x1,F1.length,y1) (x2,F2.length,y2)) 32);have hbA:Below w w (w.alloc (.cells (aA ⟨m1,a1,g1,p1,c1,d1,m2,a2,g2,p2,c2,d2,st,tr,du,id,fl,up,i1,i2,i3,i4,i5,o1,o2,o3,o4,o5⟩ (x1,F1.length,y1) (x2,F2.length,y2)) 32)):=(zC _ _).alloc (zD _) _;have CC1:=aa fun W=>dO m1 a1 g1 p1 c1 d1 W
 have CC2:=aa fun W=>dO m2 a2 g2 p2 c2 d2 W
 have CI1:=aa fun W=>dl st 0 9 W
 have CI2:=aa fun W=>dl tr 0 5 W
 have CI3:=aa fun W=>jh id W
 have CI4:=aa fun W=>dl fl 0 3 W
 have CR:=aa fun W=>lv st W
 have CD:=aa fun W=>dl du 0 1000000003 W
 obtain⟨R,hR⟩ := ex (dJ ⟨m1,a1,g1,p1,c1,d1,m2,a2,g2,p2,c2,d2,st,tr,du,id,fl,up,i1,i2,i3,i4,i5,o1,o2,o3,o4,o5⟩ F1 F2);rw[hR];unfold dJ at hR;dsimp only at hR;unfold aA at hA hbA|-;dsimp only at hA hbA|-;generalize aK m1 a1 g1=b1 at*;generalize aK m2 a2 g2=b2 at*;generalize bh 0 9 st=b3 at*;generalize bh 0 5 tr=b4 at*;generalize (decide (0<=id)&&decide (id<=255))=b5 at*;generalize bh 0 3 fl=b6 at*;generalize cC F1=b7 at*;generalize cC F2=b8 at*;have HLF:=aa (zA (rfl:iJ F1=iJ F1) (rfl:iJ F2=iJ F2));generalize iJ F1=L1 at*;generalize iJ F2=L2 at*;have HR:=aa hR;have HA:=aa (zA hA hbA);clear hA hbA h1 h2 l1 l2 hR HLF;generalize F1.length=n1 at*;generalize F2.length=n2 at*;go_enter func69,ntmps69
 go_wp2_with fail
 refine(uh CC1 _).mono ?_;rintro r w1⟨rfl,hb1⟩;have hr1:=(hb1.block w (ge.1 HA.out.1).1).trans HA.out.1;have hB1:=HA.out.2.trans (hb1.mono HA.out.2.size);have c6:w1.cell? (w,6)=some (.int .i64 m2):=cv hr1
 have c7:w1.cell? (w,7)=some (.int .i64 a2):=cv hr1
 have c8:w1.cell? (w,8)=some (.int .i64 g2):=cv hr1
 have c9:w1.cell? (w,9)=some (.bool p2):=cv hr1
 have c10:w1.cell? (w,10)=some (.bool c2):=cv hr1
 have c11:w1.cell? (w,11)=some (.bool d2):=cv hr1
 have H1:=aa (zA hr1 hB1);clear hr1 hB1 hb1 HA;cases b1
 .rw [Bool.false_and]at HR;have e:=uh HR;subst e;clear HR;go_wp2
  go_ret
  exact⟨rfl,H1.out.2⟩
 rw[Bool.true_and]at HR;go_wp2_with fail
 clear c6 c7 c8 c9 c10 c11;refine(uh CC2 _).mono ?_;rintro r w2⟨rfl,hb2⟩;have hr2:=(hb2.block w (ge.1 H1.out.1).1).trans H1.out.1;have hB2:=H1.out.2.trans (hb2.mono H1.out.2.size);have c12:w2.cell? (w,12)=some (.int .i64 st):=cv hr2
 have c13:w2.cell? (w,13)=some (.int .i64 tr):=cv hr2
 have c15:w2.cell? (w,15)=some (.int .i64 id):=cv hr2
 have c16:w2.cell? (w,16)=some (.int .i64 fl):=cv hr2
 have c17:w2.cell? (w,17)=some (.slice x1 n1 y1):=cv hr2
 have H2:=aa (zA hr2 hB2);clear hr2 hB2 hb2 H1;cases b2
 .rw [Bool.false_and]at HR;have e:=uh HR;subst e;clear HR;go_wp2
  go_ret
  exact⟨rfl,H2.out.2⟩
 rw[Bool.true_and]at HR;go_wp2_with fail
 refine cq (uh CI1 _) ?_;cases b3
 .rw [Bool.false_and]at HR;have e:=uh HR;subst e;clear HR;go_wp2
  go_ret
  exact⟨rfl,H2.out.2⟩
 rw[Bool.true_and]at HR;go_wp2_with fail
 refine cq (uh CI2 _) ?_;cases b4
 .rw [Bool.false_and]at HR;have e:=uh HR;subst e;clear HR;go_wp2
  go_ret
  exact⟨rfl,H2.out.2⟩
 rw[Bool.true_and]at HR;go_wp2_with fail
 refine cq (uh CI3 _) ?_;cases b5
 .rw [Bool.false_and]at HR;have e:=uh HR;subst e;clear HR;go_wp2
  go_ret
  exact⟨rfl,H2.out.2⟩
 rw[Bool.true_and]at HR;go_wp2_with fail
 refine cq (uh CI4 _) ?_;cases b6
 .rw [Bool.false_and]at HR;have e:=uh HR;subst e;clear HR;go_wp2
  go_ret
  exact⟨rfl,H2.out.2⟩
 rw[Bool.true_and]at HR;go_wp2_with fail
 clear c12 c13 c15 c16 c17;clear CC1 CC2 CI1 CI2 CI3 CI4;refine(uh C7 _ H2.out.2).mono ?_;rintro r w7⟨rfl,hb7⟩;have hr7:=(hb7.block w (ge.1 H2.out.1).1).trans H2.out.1;have hB7:=H2.out.2.trans (hb7.mono H2.out.2.size);have c18:w7.cell? (w,18)=some (.slice x2 n2 y2):=cv hr7
 have H7:=aa (zA hr7 hB7);clear hr7 hB7 hb7 H2;cases b7
 .rw [Bool.false_and]at HR;have e:=uh HR;subst e;clear HR;go_wp2
  go_ret
  exact⟨rfl,H7.out.2⟩
 rw[Bool.true_and]at HR;go_wp2_with fail
 clear c18;refine(uh C8 _ H7.out.2).mono ?_;rintro r w8⟨rfl,hb8⟩;have hr8:=(hb8.block w (ge.1 H7.out.1).1).trans H7.out.1;have hB8:=H7.out.2.trans (hb8.mono H7.out.2.size);have c12:w8.cell? (w,12)=some (.int .i64 st):=cv hr8
 have c14:w8.cell? (w,14)=some (.int .i64 du):=cv hr8
 have c19:w8.cell? (w,19)=some (.bool up):=cv hr8
 have H8:=aa (zA hr8 hB8);clear hr8 hB8 hb8 H7;cases b8
 .rw [Bool.false_and]at HR;have e:=uh HR;subst e;clear HR;go_wp2
  go_ret
  exact⟨rfl,H8.out.2⟩
 rw[Bool.true_and]at HR;go_upto_region 3 with fail
 obtain⟨G,hG⟩:∃G,(if gj st=true then bh 0 1000000003 du else du == -1)=G:=⟨_,rfl⟩;rw[hG]at HR;have HG:=aa hG;clear hG;go_cut [76] (fun v wx=>v=.bool (!(G&&(up==(st==9))))/\wx.heap[w.heap.size]?=some (.cells #[m1,a1,g1,p1,c1,d1,m2,a2,g2,p2,c2,d2,st,tr,du,id,fl,(x1,n1,y1),(x2,n2,y2),up,i1,i2,i3,i4,i5,o1,o2,o3,o4,o5] 32)/\Below w w wx)
 case first =>
  clear HR C7 C8 CL1 CL2;go_wp2_with fail
  refine cq (uh CR _) ?_;cases hrr:gj st
  .rw [hrr,if_neg (by decide)]at HG;rw[hrr]at CR;go_wp2_with fail
   refine cq (uh CR _) ?_;cases hd:(du == -1)
   .have hd2:(du != -1)=true:=by unfold bne;rw[hd];rfl
    rw[hd]at HG;have e:=uh HG;subst e;go_wp2_with fail
    go_meet;exact⟨rfl,uh H8⟩
   .have hd2:(du != -1)=false:=by unfold bne;rw[hd];rfl
    rw[hd]at HG;have e:=uh HG;subst e;go_wp2_with fail
    go_meet;exact⟨by rw[Bool.true_and],uh H8⟩
  .rw [hrr,if_pos rfl]at HG;rw[hrr]at CR;rw[uh HG]at CD;go_wp2_with fail
   refine cq (uh CD _) ?_;cases G
   .go_wp2_with fail
    go_meet;exact⟨rfl,uh H8⟩
   .go_wp2_with fail
    refine cq (uh CR _) ?_;go_wp2_with fail
    go_meet;exact⟨by rw[Bool.true_and],uh H8⟩
 case rest =>
  obtain⟨hu76,hr9,hB9⟩:=hcut;subst hu76;clear H8 HG CR CD c12 c14 c19;have c17:wc.cell? (w,17)=some (.slice x1 n1 y1):=cv hr9
  have c18:wc.cell? (w,18)=some (.slice x2 n2 y2):=cv hr9
  have c19:wc.cell? (w,19)=some (.bool up):=cv hr9
  have c20:wc.cell? (w,20)=some (.int .i64 i1):=cv hr9
  have c21:wc.cell? (w,21)=some (.int .i64 i2):=cv hr9
  have c22:wc.cell? (w,22)=some (.bool i3):=cv hr9
  have c23:wc.cell? (w,23)=some (.bool i4):=cv hr9
  have c24:wc.cell? (w,24)=some (.bool i5):=cv hr9
  have c25:wc.cell? (w,25)=some (.int .i64 o1):=cv hr9
  have c26:wc.cell? (w,26)=some (.int .i64 o2):=cv hr9
  have c27:wc.cell? (w,27)=some (.bool o3):=cv hr9
  have c28:wc.cell? (w,28)=some (.bool o4):=cv hr9
  have c29:wc.cell? (w,29)=some (.bool o5):=cv hr9
  have H9:=aa (zA hr9 hB9);clear hr9 hB9;cases G
  .rw [Bool.false_and]at HR|-;have e:=uh HR;subst e;clear HR;go_wp2
   go_ret
   exact⟨rfl,H9.out.2⟩
  rw[Bool.true_and]at HR|-;cases hup:(up==(st==9))
  .rw [hup,Bool.false_and]at HR;have e:=uh HR;subst e;clear HR;go_wp2
   go_ret
   exact⟨rfl,H9.out.2⟩
  rw[hup,Bool.true_and]at HR;clear hup;have hlA:w.heap.size<wc.heap.size:=(ge.1 H9.out.1).1;cases up
  .rw [if_neg (by decide)]at HR;have q1:∀W,(binOp .eql 30 (.agg #[i1,i2,i3,i4,i5]) (.agg #[(0:Int),(0:Int),false,false,false])).run prog W=.ok (.bool (dQ i1 i2 i3 i4 i5 ⟨0,0,false,false,false⟩)) W:=fun W=>HEQ.out.1 i1 i2 0 0 i3 i4 i5 false false false W
   have q2:∀W,(binOp .eql 30 (.agg #[o1,o2,o3,o4,o5]) (.agg #[(0:Int),(0:Int),false,false,false])).run prog W=.ok (.bool (dQ o1 o2 o3 o4 o5 ⟨0,0,false,false,false⟩)) W:=fun W=>HEQ.out.1 o1 o2 0 0 o3 o4 o5 false false false W
   have q3:=HEQ.out.2;clear CL1 CL2 HEQ;generalize dQ i1 i2 i3 i4 i5 ⟨0,0,false,false,false⟩=bi at*;generalize dQ o1 o2 o3 o4 o5 ⟨0,0,false,false,false⟩=bo at*;cases bi
   .rw [Bool.false_and]at HR;have e:=uh HR;subst e;clear HR;go_wp2
    go_ret
    exact⟨rfl,H9.out.2⟩
   .rw [Bool.true_and]at HR;have e:=uh HR;subst e;clear HR;go_wp2
    go_ret
    exact⟨rfl,H9.out.2⟩
  .rw [if_pos rfl]at HR;have q1:∀W,(binOp .eql 30 (.agg #[i1,i2,i3,i4,i5]) (.agg (gR L1))).run prog W=.ok (.bool (dQ i1 i2 i3 i4 i5 L1)) W:=fun W=>HEQ.out.1 i1 i2 L1.m L1.a i3 i4 i5 L1.p L1.c L1.d W
   have q2:∀W,(binOp .eql 30 (.agg #[o1,o2,o3,o4,o5]) (.agg (gR L2))).run prog W=.ok (.bool (dQ o1 o2 o3 o4 o5 L2)) W:=fun W=>HEQ.out.1 o1 o2 L2.m L2.a o3 o4 o5 L2.p L2.c L2.d W
   have q3:=HEQ.out.2;clear HEQ;generalize dQ i1 i2 i3 i4 i5 L1=bi at*;generalize dQ o1 o2 o3 o4 o5 L2=bo at*;go_upto_region 6 with fail
   refine wp_region_held_drew (S:=fun z=>z.cell? (w,17)=some (.slice x1 n1 y1)/\z.cell? (w,18)=some (.slice x2 n2 y2)/\z.cell? (w,20)=some (.int .i64 i1)/\z.cell? (w,21)=some (.int .i64 i2)/\z.cell? (w,22)=some (.bool i3)/\z.cell? (w,23)=some (.bool i4)/\z.cell? (w,24)=some (.bool i5)/\z.cell? (w,25)=some (.int .i64 o1)/\z.cell? (w,26)=some (.int .i64 o2)/\z.cell? (w,27)=some (.bool o3)/\z.cell? (w,28)=some (.bool o4)/\z.cell? (w,29)=some (o5:V)) (by kernel_rfl) ?_ (fun hHeld=>?_)
   .exact ⟨c17,c18,c20,c21,c22,c23,c24,c25,c26,c27,c28,c29⟩
   cases bi
   .rw [Bool.false_and]at HR;have e:=uh HR;subst e;clear HR;refine tq 0 1 2 3 ?_;refine r3 4 fun K hK=>?_
    go_simp;refine(uh CL1 _ (H9.out.2.trans ((zC _ _).drew.mono H9.out.2.size))).mono ?_;rintro r w10⟨rfl,hb⟩;have B10:Below wc wc w10:=(zC _ _).drew.trans hb;clear hb;go_wp2_with fail
    refine hK.out _ _ ?_ (fun hHeld2=>?_)
    .exact ⟨(B10.cell (p:=(w,17)) hlA).trans c17,(B10.cell (p:=(w,18)) hlA).trans c18,(B10.cell (p:=(w,20)) hlA).trans c20,(B10.cell (p:=(w,21)) hlA).trans c21,(B10.cell (p:=(w,22)) hlA).trans c22,(B10.cell (p:=(w,23)) hlA).trans c23,(B10.cell (p:=(w,24)) hlA).trans c24,(B10.cell (p:=(w,25)) hlA).trans c25,(B10.cell (p:=(w,26)) hlA).trans c26,(B10.cell (p:=(w,27)) hlA).trans c27,(B10.cell (p:=(w,28)) hlA).trans c28,(B10.cell (p:=(w,29)) hlA).trans c29⟩
    clear hK K;try simp only[Act.put,sA,sZ,sS,gA,gZ,gS]
    refine tt 5 6 ?_;refine t5 7 ?_;refine t5 8 ?_;refine t5 9 ?_;refine t5 10 ?_;refine t5 11 ?_;refine t5 12 ?_;refine tt 13 14 ?_;refine dn ?_ _;go_wp2
    go_ret
    exact⟨rfl,H9.out.2.trans (B10.mono H9.out.2.size)⟩
   .rw [Bool.true_and]at HR;have e:=uh HR;subst e;clear HR;refine tq 0 1 2 3 ?_;refine r3 4 fun K hK=>?_
    go_simp;refine(uh CL1 _ (H9.out.2.trans ((zC _ _).drew.mono H9.out.2.size))).mono ?_;rintro r w10⟨rfl,hb⟩;have B10:Below wc wc w10:=(zC _ _).drew.trans hb;clear hb;go_wp2_with fail
    refine hK.out _ _ ?_ (fun hHeld2=>?_)
    .exact ⟨(B10.cell (p:=(w,17)) hlA).trans c17,(B10.cell (p:=(w,18)) hlA).trans c18,(B10.cell (p:=(w,20)) hlA).trans c20,(B10.cell (p:=(w,21)) hlA).trans c21,(B10.cell (p:=(w,22)) hlA).trans c22,(B10.cell (p:=(w,23)) hlA).trans c23,(B10.cell (p:=(w,24)) hlA).trans c24,(B10.cell (p:=(w,25)) hlA).trans c25,(B10.cell (p:=(w,26)) hlA).trans c26,(B10.cell (p:=(w,27)) hlA).trans c27,(B10.cell (p:=(w,28)) hlA).trans c28,(B10.cell (p:=(w,29)) hlA).trans c29⟩
    clear hK K;try simp only[Act.put,sA,sZ,sS,gA,gZ,gS]
    refine tq 5 6 7 8 ?_;refine tt 9 10 ?_;refine r3 11 fun K hK=>?_
    go_simp;refine(uh CL2 _ (H9.out.2.trans (B10.mono H9.out.2.size))).mono ?_;rintro r w11⟨rfl,hb⟩;have B11:Below wc wc w11:=B10.trans (hb.mono B10.size);clear hb;go_wp2_with fail
    refine hK.out _ _ ?_ (fun hHeld3=>?_)
    .exact ⟨(B11.cell (p:=(w,17)) hlA).trans c17,(B11.cell (p:=(w,18)) hlA).trans c18,(B11.cell (p:=(w,20)) hlA).trans c20,(B11.cell (p:=(w,21)) hlA).trans c21,(B11.cell (p:=(w,22)) hlA).trans c22,(B11.cell (p:=(w,23)) hlA).trans c23,(B11.cell (p:=(w,24)) hlA).trans c24,(B11.cell (p:=(w,25)) hlA).trans c25,(B11.cell (p:=(w,26)) hlA).trans c26,(B11.cell (p:=(w,27)) hlA).trans c27,(B11.cell (p:=(w,28)) hlA).trans c28,(B11.cell (p:=(w,29)) hlA).trans c29⟩
    clear hK K;try simp only[Act.put,sA,sZ,sS,gA,gZ,gS]
    refine tt 12 13 ?_;refine t2 14 ?_;refine dn ?_ _;go_wp2
    go_ret
    exact⟨rfl,H9.out.2.trans (B11.mono H9.out.2.size)⟩
def fi(e:En):En:={e with id:=(e.id+1)%256}
def kq(now:Int)(e:En):En:={e with tr:=max 0 (e.tr-1),du:=now+3}
def gD(e:En):En:={e with up:=false,i1:=0,i2:=0,i3:=false,i4:=false,i5:=false,o1:=0,o2:=0,o3:=false,o4:=false,o5:=false}
def sF(L1 L2:Ln)(e:En):En:={e with up:=true,i1:=L1.m,i2:=L1.a,i3:=L1.p,i4:=L1.c,i5:=L1.d,o1:=L2.m,o2:=L2.a,o3:=L2.p,o4:=L2.c,o5:=L2.d}
def dv(e:En):List Op.Opt:=jZ e.m2.toNat e.a2.toNat e.g2.toNat e.p2 e.c2 e.d2 6
def gE(s:St)(cd id:Int)(dt:ByteArray):St:={s with sn:=s.sn++[⟨cd,id,dt⟩]}
abbrev mO:ByteArray:=⟨#[105,114,99]⟩
abbrev pT:ByteArray:=⟨#[122,114,99]⟩
abbrev mP:ByteArray:=⟨#[115,99,114]⟩
abbrev mQ:ByteArray:=⟨#[115,116,114]⟩
abbrev bP:ByteArray:=⟨#[116,108,115]⟩
abbrev bQ:ByteArray:=⟨#[116,108,102]⟩
abbrev bL:ByteArray:=⟨#[116,108,100]⟩
abbrev dz:ByteArray:=⟨#[116,108,117]⟩
def pU(s:St):St:={s with e:={s.e with tr:=5}}
def pV(s:St):St:={s with e:={s.e with tr:=0}}
def lG(c:Cx)(s:St):St:={s with e:=kq c.now (fi s.e),F1:=dv s.e,sn:=s.sn++[⟨1,(s.e.id+1)%256,co (Op.bytes (dv s.e))⟩]}
def lH(c:Cx)(s:St):St:={s with e:=kq c.now (fi s.e),sn:=s.sn++[⟨5,(s.e.id+1)%256,⟨#[]⟩⟩]}
def say(t:ByteArray)(s:St):St:={s with tl:=s.tl++[t]}
def pW(s:St):St:=say bL {s with e:=gD s.e}
def pX(s:St):St:=say dz {s with e:=sF (iJ s.F1) (iJ s.F2) s.e}
abbrev pY:ByteArray:=⟨#[115,99,97]⟩
abbrev pZ:ByteArray:=⟨#[115,99,110]⟩
abbrev p5:ByteArray:=⟨#[115,116,97]⟩
abbrev p6:ByteArray:=⟨#[115,99,106]⟩
abbrev p7:ByteArray:=⟨#[115,101,114]⟩
def p_(c:Cx)(s:St):St:={s with e:={s.e with fl:=0},F2:=c.hd,sn:=s.sn++[⟨2,c.ci,co (Op.bytes c.ao)⟩]}
def x_(c:Cx)(s:St):St:={s with e:={s.e with fl:=if c.ac=3 then min 3 (s.e.fl+1)else s.e.fl},sn:=s.sn++[⟨c.ac,c.ci,co (Op.bytes c.ao)⟩]}
def qc(c:Cx)(s:St):St:={s with sn:=s.sn++[⟨6,c.ci,⟨#[]⟩⟩]}
def qd(t:ByteArray)(s:St):St:={s with e:=fi s.e,sn:=s.sn++[⟨7,(s.e.id+1)%256,t⟩]}
def fj(c:Cx)(s:St):St:=if c.cc=9/\4<=c.cd.size then {s with sn:=s.sn++[⟨10,c.ci,cK s.e.g2.toNat++c.cd.extract 4 c.cd.size⟩]} else s
def jm(c:Cx):ByteArray:=d8 (rE ⟨c.cc,c.ci,c.cd⟩)
def bv(c:Cx)(t:ByteArray)(s:St):St :=
 if t=mO then pU s else if t=pT then pV s else if t=mP then lG c s else if t=mQ then lH c s else if t=pY then p_ c s else if t=pZ then x_ c s
 else if t=p5 then qc c s else if t=p6 then qd (jm c) s else if t=p7 then fj c s else if t=dz then pX s else if t=bL then pW s else say t s
def dH(t:ByteArray):Bool:=decide (t.toList=[105,114,99])||decide (t.toList=[122,114,99])
def fm(c:Cx)(A:List ByteArray)(st:Int)(e:En):En :=
 {e with st:=st,du:=if gj st=true then(if(decide (e.du<0)||A.any dH)=true then c.now+3 else e.du)else -1}
structure EO where
 e:En
 F1:List Op.Opt
 F2:List Op.Opt
 sn:List Op.Pk
 tl:List ByteArray
 cd:Int
def bA(cd:Int):EO:=⟨ag,[],[],[],[],cd⟩
def bj(c:Cx)(s:St)(t:ByteArray):EO :=
 if(bO s.e.st t).2.2=0 then
  ⟨fm c (bO s.e.st t).2.1 (bO s.e.st t).1 ((bO s.e.st t).2.1.foldl (fun s a=>bv c a s) s).e,((bO s.e.st t).2.1.foldl (fun s a=>bv c a s) s).F1,((bO s.e.st t).2.1.foldl (fun s a=>bv c a s) s).F2,((bO s.e.st t).2.1.foldl (fun s a=>bv c a s) s).sn,((bO s.e.st t).2.1.foldl (fun s a=>bv c a s) s).tl,0⟩
 else bA (bO s.e.st t).2.2
def EvA(w0:World)(o:EO)(r:Ending)(q:World):Prop :=
 ∃v1 v2 vs vt,r=.returned (.agg (aC o.e v1 v2 vs vt o.cd))/\q.ownsRow w0 105 2 v1 o.F1.length (aj o.F1)/\q.ownsRow w0 105 2 v2 o.F2.length (aj o.F2)/\q.ownsRow w0 85 3 vs o.sn.length (ae o.sn)/\q.ownsRow w0 9 1 vt o.tl.length (a_ o.tl)/\Ap v1 v2/\Below w0 w0 q
structure Fit(n:Nat)(c:Cx)(s:St):Prop where
 cf:aK s.e.m1 s.e.a1 s.e.g1=true
 ask:aK s.e.m2 s.e.a2 s.e.g2=true
 id:0<=s.e.id/\s.e.id<=255
 tr:0<=s.e.tr/\s.e.tr<=5
 fl:0<=s.e.fl/\s.e.fl<=3
 now:0<=c.now/\c.now<=1000000000
 f1:cC s.F1=true
 f2:cC s.F2=true
 sn:s.sn.length<=n
 tl:s.tl.length<=n
 hd:cC c.hd=true
 ao:cC c.ao=true
 cd:c.cd.size<=250
 du:-1<=s.e.du
theorem iP{F:List Op.Opt}(h:cC F=true):Op.right F=true:=by unfold cC at h;rw[zK]at h;exact h.1
theorem jn(e:En):0<=(fi e).id/\(fi e).id<=255:=by unfold fi;dsimp only;omega
theorem lI{m a g:Nat}{p c d:Bool}{o:Op.Opt}(h:o∈jZ m a g p c d 6):Op.ok o=true/\o.data.size<=4:=by
 unfold jZ at h;obtain⟨x,hx,ho⟩:=List.mem_flatten.1 h;have hx':=List.mem_of_mem_take hx;have key:∀(b:Bool)(k:Int)(t:ByteArray),(1<=k/\k<=255/\t.size<=4)->o∈c_ b k t->Op.ok o=true/\o.data.size<=4:=by
  intro b k t hk hm;cases b
  .simp [c_]at hm
  .simp [c_]at hm;subst hm;exact⟨decide_eq_true ⟨hk.1,hk.2.1,by show t.size<=20;omega⟩,hk.2.2⟩
 simp only[eZ,List.mem_cons,List.not_mem_nil,or_false]at hx';rcases hx' with rfl|rfl|rfl|rfl|rfl|rfl
 .exact key _ _ _ ⟨by decide,by decide,by show 2<=4;decide⟩ ho
 .exact key _ _ _ ⟨by decide,by decide,by show 4<=4;decide⟩ ho
 .exact key _ _ _ ⟨by decide,by decide,by show 4<=4;decide⟩ ho
 .exact key _ _ _ ⟨by decide,by decide,by show 0<=4;decide⟩ ho
 .exact key _ _ _ ⟨by decide,by decide,by show 0<=4;decide⟩ ho
 .exact key _ _ _ ⟨by decide,by decide,by show 1<=4;decide⟩ ho
theorem oH(F:List Op.Opt)(h:∀o∈F,o.data.size<=4):(Op.bytes F).length<=6*F.length:=by
 induction F with
 | nil=>simp[Op.bytes]
 | cons o F ih =>
  have h1:=ih fun x hx=>h x (by simp[hx])
  have h2:=h o (by simp);have e:Op.bytes (o::F)=Op.one o++Op.bytes F:=rfl;have e1:(Op.one o).length=2+o.data.size:=by unfold Op.one;rw[List.length_append];show 2+o.data.data.toList.length=_;rfl
  rw[e,List.length_append,e1,List.length_cons];omega
theorem jo(e:En):cC (dv e)=true:=by
 have h1:(dv e).length<=6:=dp _ _ _ _ _ _ _;have h2:=oH (dv e) fun o ho=>(lI ho).2
 unfold cC Op.right;rw[zK,zK];exact⟨⟨decide_eq_true (by omega),List.all_eq_true.2 fun o ho=>(lI ho).1⟩,decide_eq_true (by omega)⟩
theorem g_{m a g:Int}(h:aK m a g=true):((m.toNat:Nat):Int)=m/\((a.toNat:Nat):Int)=a/\((g.toNat:Nat):Int)=g:=by
 simp only[aK,bh,zK,decide_eq_true_eq]at h;omega
theorem oI(e:En):(dv e).length<=6:=dp _ _ _ _ _ _ _
theorem Fit.irc(h:Fit n c s):Fit (n+1) c (pU s):=⟨h.cf,h.ask,h.id,⟨show(0:Int)<=5 by decide,show(5:Int)<=5 by decide⟩,h.fl,h.now,h.f1,h.f2,Nat.le_succ_of_le h.sn,Nat.le_succ_of_le h.tl,h.hd,h.ao,h.cd,h.du⟩
theorem Fit.zrc(h:Fit n c s):Fit (n+1) c (pV s):=⟨h.cf,h.ask,h.id,⟨show(0:Int)<=0 by decide,show(0:Int)<=5 by decide⟩,h.fl,h.now,h.f1,h.f2,Nat.le_succ_of_le h.sn,Nat.le_succ_of_le h.tl,h.hd,h.ao,h.cd,h.du⟩
theorem nK{now:Int}{e:En}(h:0<=e.tr/\e.tr<=5):0<=(kq now e).tr/\(kq now e).tr<=5:=by unfold kq;dsimp only;omega
theorem Fit.scr(h:Fit n c s):Fit (n+1) c (lG c s) :=
 ⟨h.cf,h.ask,jn _,nK h.tr,h.fl,h.now,jo _,h.f2,by have:=h.sn;simp[lG];omega,Nat.le_succ_of_le h.tl,h.hd,h.ao,h.cd,by have:=h.now;show -1<=c.now+3;omega⟩
theorem Fit.str(h:Fit n c s):Fit (n+1) c (lH c s) :=
 ⟨h.cf,h.ask,jn _,nK h.tr,h.fl,h.now,h.f1,h.f2,by have:=h.sn;simp[lH];omega,Nat.le_succ_of_le h.tl,h.hd,h.ao,h.cd,by have:=h.now;show -1<=c.now+3;omega⟩
theorem Fit.say(h:Fit n c s)(t:ByteArray):Fit (n+1) c (say t s) :=
 ⟨h.cf,h.ask,h.id,h.tr,h.fl,h.now,h.f1,h.f2,Nat.le_succ_of_le h.sn,by have:=h.tl;simp[Go.Proofs.YtjdgiimfpkideaaGreatDoor.say];omega,h.hd,h.ao,h.cd,h.du⟩
theorem Fit.tld(h:Fit n c s):Fit (n+1) c (pW s) :=
 Fit.say (s:={s with e:=gD s.e}) ⟨h.cf,h.ask,h.id,h.tr,h.fl,h.now,h.f1,h.f2,h.sn,h.tl,h.hd,h.ao,h.cd,h.du⟩ _
theorem Fit.tlu(h:Fit n c s):Fit (n+1) c (pX s) :=
 Fit.say (s:={s with e:=sF (iJ s.F1) (iJ s.F2) s.e}) ⟨h.cf,h.ask,h.id,h.tr,h.fl,h.now,h.f1,h.f2,h.sn,h.tl,h.hd,h.ao,h.cd,h.du⟩ _
theorem Fit.put(h:Fit n c s)(p:Op.Pk):Fit (n+1) c {s with sn:=s.sn++[p]} :=
 ⟨h.cf,h.ask,h.id,h.tr,h.fl,h.now,h.f1,h.f2,by have:=h.sn;simp;omega,Nat.le_succ_of_le h.tl,h.hd,h.ao,h.cd,h.du⟩
theorem Fit.up(h:Fit n c s):Fit (n+1) c s :=
 ⟨h.cf,h.ask,h.id,h.tr,h.fl,h.now,h.f1,h.f2,Nat.le_succ_of_le h.sn,Nat.le_succ_of_le h.tl,h.hd,h.ao,h.cd,h.du⟩
theorem Fit.act(h:Fit n c s)(t:ByteArray):Fit (n+1) c (bv c t s):=by
 unfold bv;split
 .exact h.irc
 split
 .exact h.zrc
 split
 .exact h.scr
 split
 .exact h.str
 split
 .exact Fit.put (s:={s with e:={s.e with fl:=0},F2:=c.hd}) ⟨h.cf,h.ask,h.id,h.tr,⟨show(0:Int)<=0 by decide,show(0:Int)<=3 by decide⟩,h.now,h.f1,h.hd,h.sn,h.tl,h.hd,h.ao,h.cd,h.du⟩ _
 split
 .refine Fit.put (s:={s with e:={s.e with fl:=if c.ac=3 then min 3 (s.e.fl+1)else s.e.fl}}) ⟨h.cf,h.ask,h.id,h.tr,?_,h.now,h.f1,h.f2,h.sn,h.tl,h.hd,h.ao,h.cd,h.du⟩ _;have:=h.fl
  dsimp only;split<;>omega
 split
 .exact h.put _
 split
 .exact Fit.put (s:={s with e:=fi s.e}) ⟨h.cf,h.ask,jn _,h.tr,h.fl,h.now,h.f1,h.f2,h.sn,h.tl,h.hd,h.ao,h.cd,h.du⟩ _
 split
 .unfold fj;split
  .exact h.put _
  .exact h.up
 split
 .exact h.tlu
 split
 .exact h.tld
 .exact h.say _
theorem Fit.fold(h:Fit 0 c s)(A:List ByteArray)(i:Nat):Fit i c ((A.take i).foldl (fun s a=>bv c a s) s):=by
 induction i with
 | zero=>exact h
 | succ i ih =>
  by_cases hi:i<A.length
  .rw [List.take_succ_eq_append_getElem hi,List.foldl_append];exact ih.act _
  .have e:A.take (i+1)=A.take i:=by rw[List.take_of_length_le (by omega),List.take_of_length_le (by omega)]
   rw[e];exact ih.up
theorem ttI:Tt 129:=⟨by decide,by decide,by decide⟩
section
variable {w0 w1:World} {B:Nat} {c:Cx} {s:St} {v1 v2 vs vt:Value} {q:World}
theorem nL(h:Lay 129 w0 w1 B c s v1 v2 vs vt q)(hid:0<=s.e.id/\s.e.id<=255):Calls prog 246 #[(B,0)] q fun r q'=>r=.returned (.int .i64 ((s.e.id+1)%256))/\Lay 129 w0 w1 B c {s with e:=fi s.e} v1 v2 vs vt q':=by
 have c15:=h.cell (i:=15) rfl;have f15:=h.frz 15;obtain⟨h1,h2⟩:=hid;have h':=h.setRaw 15 (.int .i64 ((s.e.id+1)%256)) (fi s.e) rfl;have d15:=h'.cell (i:=15) rfl;dsimp only[fi]at d15;have hm:(s.e.id+1).tmod 256=(s.e.id+1)%256:=Int.tmod_eq_emod_of_nonneg (by omega);have HL:=aa h';clear h h';go_enter func246,ntmps246
 go_wp2
 go_ret
 exact⟨rfl,uh HL⟩
theorem wE(h:Lay 129 w0 w1 B c s v1 v2 vs vt q)(htr:0<=s.e.tr/\s.e.tr<=5)(hn:0<=c.now/\c.now<=1000000000):Calls prog 247 #[(B,0)] q fun r q'=>r=.returned (.tuple #[])/\Lay 129 w0 w1 B c {s with e:=kq c.now s.e} v1 v2 vs vt q':=by
 have c13:=h.cell (i:=13) rfl;have f13:=h.frz 13;obtain⟨h1,h2⟩:=htr;obtain⟨h3,h4⟩:=hn;have h':=h.setRaw 13 (.int .i64 (max 0 (s.e.tr-1))) {s.e with tr:=max 0 (s.e.tr-1)} rfl;have c14:=h'.cell (i:=14) rfl;have f14:=h'.frz 14;have c30:=h'.cell (i:=30) rfl;have h'':=h'.setRaw 14 (.int .i64 (c.now+3)) (kq c.now s.e) rfl;have HL:=aa h'';clear h h' h'';dsimp only at c14 c30;go_enter func247,ntmps247
 go_wp2
 exact Great.bodyPost_end0 rfl rfl ⟨rfl,uh HL⟩
theorem gF(h:Lay 129 w0 w1 B c s v1 v2 vs vt q)(hS:s.sn.length<=1000)(cd id:Int)(dt:ByteArray):Calls prog 245 #[(B,0),cd,id,dt] q fun r q'=>r=.returned (.tuple #[])/\∃vs',Lay 129 w0 w1 B c (gE s cd id dt) v1 v2 vs' vt q':=by
 have c0:=h.cell (i:=37) rfl;obtain⟨ad,cp,rfl⟩:=af h.os;obtain⟨n,hn⟩ := ex s.sn.length;have ho:=h.os;rw[hn]at c0 ho hS h;have HO:=aa ho;have HL:=aa h;clear h ho;go_enter func245,ntmps245
 go_wp2_with (first
  | (at_builtin;refine jL rfl _ _ rfl w1 (ad,n,cp) s.sn n hn rfl HO.out cd id dt rfl hS HL.out.nr.size ?_;rintro v6 w6 ho6 hg6;obtain⟨a6,c6,rfl⟩:=af ho6
     have e6:=(hg6.block B (Nat.lt_of_lt_of_le HL.out.lt (by simp)) (fun e=>(aq HL.out.os HL.out.row HL.out.tt.2.1) e.symm)).trans ((zG _ _ _ HL.out.lt).trans HL.out.row);have k6:w6.cell? (B,37)=some (.slice ad n cp):=cv e6
     have f6:w6.frozen? (B,37)=false:=aX e6 37;clear e6))
 refine Great.bodyPost_end0 rfl rfl ⟨rfl,_,HL.out.put _ hg6 _ _ ?_⟩;rw[List.length_append,hn];exact ho6
theorem wF(h:Lay 129 w0 w1 B c s v1 v2 vs vt q):Calls prog 239 #[(B,0)] q fun r q'=>r=.returned (.tuple #[])/\Lay 129 w0 w1 B c {s with e:=gD s.e} v1 v2 vs vt q':=by
 have c19:=h.cell (i:=19) rfl;have f19:=h.frz 19;have h19:=h.setRaw 19 false {s.e with up:=false} rfl;have c20:=h19.cell (i:=20) rfl;have f20:=h19.frz 20;have h20:=h19.setRaw 20 (0:Int) {s.e with up:=false,i1:=0} rfl;have c21:=h20.cell (i:=21) rfl;have f21:=h20.frz 21;have h21:=h20.setRaw 21 (0:Int) {s.e with up:=false,i1:=0,i2:=0} rfl;have c22:=h21.cell (i:=22) rfl;have f22:=h21.frz 22;have h22:=h21.setRaw 22 false {s.e with up:=false,i1:=0,i2:=0,i3:=false} rfl;have c23:=h22.cell (i:=23) rfl;have f23:=h22.frz 23;have h23:=h22.setRaw 23 false {s.e with up:=false,i1:=0,i2:=0,i3:=false,i4:=false} rfl;have c24:=h23.cell (i:=24) rfl;have f24:=h23.frz 24;have h24:=h23.setRaw 24 false {s.e with up:=false,i1:=0,i2:=0,i3:=false,i4:=false,i5:=false} rfl;have c25:=h24.cell (i:=25) rfl;have f25:=h24.frz 25;have h25:=h24.setRaw 25 (0:Int) {s.e with up:=false,i1:=0,i2:=0,i3:=false,i4:=false,i5:=false,o1:=0} rfl;have c26:=h25.cell (i:=26) rfl;have f26:=h25.frz 26;have h26:=h25.setRaw 26 (0:Int) {s.e with up:=false,i1:=0,i2:=0,i3:=false,i4:=false,i5:=false,o1:=0,o2:=0} rfl;have c27:=h26.cell (i:=27) rfl;have f27:=h26.frz 27;have h27:=h26.setRaw 27 false {s.e with up:=false,i1:=0,i2:=0,i3:=false,i4:=false,i5:=false,o1:=0,o2:=0,o3:=false} rfl;have c28:=h27.cell (i:=28) rfl;have f28:=h27.frz 28;have h28:=h27.setRaw 28 false {s.e with up:=false,i1:=0,i2:=0,i3:=false,i4:=false,i5:=false,o1:=0,o2:=0,o3:=false,o4:=false} rfl;have c29:=h28.cell (i:=29) rfl;have f29:=h28.frz 29;have h29:=h28.setRaw 29 false (gD s.e) rfl;have HL:=aa h29;clear h h19 h20 h21 h22 h23 h24 h25 h26 h27 h28 h29;dsimp only at c20 c21 c22 c23 c24 c25 c26 c27 c28 c29;go_enter func239,ntmps239
 go_wp2
 exact Great.bodyPost_end0 rfl rfl ⟨rfl,uh HL⟩
theorem uS(h:Lay 129 w0 w1 B c s v1 v2 vs vt q)(n:Int):Calls prog 240 #[.agg #[n],(B,0)] q fun r q'=>r=.returned (.tuple #[])/\Lay 129 w0 w1 B c {s with e:={s.e with tr:=n}} v1 v2 vs vt q':=by
 have hb:Below q q (q.alloc (.cells #[n] 159)):=(zC _ _).alloc (zD _) _;have h0:=h.step hb;have c13:=h0.cell (i:=13) rfl;have f13:=h0.frz 13;have HL:=aa (h0.setRaw 13 n {s.e with tr:=n} rfl);clear h h0 hb;go_enter func240,ntmps240
 go_wp2
 exact Great.bodyPost_end0 rfl rfl ⟨rfl,uh HL⟩
theorem wG(h:Lay 129 w0 w1 B c s v1 v2 vs vt q)(hf:Fit n c s)(hn:n<=1000):Calls prog 248 #[.agg #[],(B,0)] q fun r q'=>r=.returned (.tuple #[])/\∃vs',Lay 129 w0 w1 B c (lH c s) v1 v2 vs' vt q':=by
 have hb:Below q q (q.alloc (.cells #[] 173)):=(zC _ _).alloc (zD _) _;have HL:=aa (h.step hb);have HF:=aa hf;clear h hb hf;go_enter func248,ntmps248
 go_wp2_with fail
 refine(nL HL.out HF.out.id).mono ?_;rintro r q1⟨rfl,h1⟩;have HL1:=aa h1;clear h1;go_wp2_with fail
 refine(gF HL1.out (zE HF.out.sn hn) 5 _ _).mono ?_;rintro r q2⟨rfl,vs2,h2⟩;have HL2:=aa h2;clear h2;go_wp2_with fail
 refine(wE HL2.out HF.out.tr HF.out.now).mono ?_;rintro r q3⟨rfl,h3⟩;go_wp2
 exact Great.bodyPost_end0 rfl rfl ⟨rfl,_,h3⟩
theorem wH(h:Lay 129 w0 w1 B c s v1 v2 vs vt q)(hf:Fit n c s)(hn:n<=1000):Calls prog 243 #[.agg #[],(B,0)] q fun r q'=>r=.returned (.tuple #[])/\∃v1' vs',Lay 129 w0 w1 B c (lG c s) v1' v2 vs' vt q':=by
 have HF:=aa hf;obtain⟨e1,e2,e3⟩:=g_ hf.ask;have CA:=aa fun W=>mM s.e.m2.toNat s.e.a2.toNat s.e.g2.toNat s.e.p2 s.e.c2 s.e.d2 W (by rw[e1,e2,e3];exact hf.ask)
 rw[e1,e2,e3]at CA;clear e1 e2 e3;have hb:Below q q (q.alloc (.cells #[] 172)):=(zC _ _).alloc (zD _) _;have h0:=h.step hb;have c6:=h0.cell (i:=6) rfl;have c7:=h0.cell (i:=7) rfl;have c8:=h0.cell (i:=8) rfl;have c9:=h0.cell (i:=9) rfl;have c10:=h0.cell (i:=10) rfl;have c11:=h0.cell (i:=11) rfl;have HL:=aa h0;clear h h0 hb hf;go_enter func243,ntmps243
 go_wp2_with fail
 refine(uh CA _).mono ?_;rintro r q1⟨ad,cp,rfl,ho,hb⟩;have h1:=HL.out.step hb;have c17:=h1.cell (i:=17) rfl;have f17:=h1.frz 17;have HL1:=aa (HL.out.new1 hb _ (dv s.e) ho);clear h1 ho hb HL CA c6 c7 c8 c9 c10 c11;go_upto_region 2 with fail
 refine bb (fun z=>Lay 129 w0 w1 B c {s with F1:=dv s.e} (.slice ad (dv s.e).length cp) v2 vs vt z) ?_ ?_
 .exact uh HL1
 clear HL1 c17 f17;rintro z hz;have c17:=hz.cell (i:=17) rfl;have HZ:=aa (hz.step (zC _ _).drew);clear hz;refine wp_region_held_drew (S:=fun z=>z.cell? (B,17)=some (.slice ad (dv s.e).length cp)) (by kernel_rfl) ?_ (fun hHeld=>?_)
 .exact c17
 refine tq 0 1 2 3 ?_;refine tq 5 6 7 8 ?_;refine t2 9 ?_;refine r3 4 fun K hK=>?_
 go_simp;refine(nL HZ.out HF.out.id).mono ?_;rintro r z1⟨rfl,h1⟩;have HZ1:=aa h1;clear h1;go_wp2_with fail
 refine ro hK ?_ fun _=>?_
 .exact HZ1.out.cell (i:=17) rfl
 clear hK K;refine r3 10 fun K hK=>?_
 go_simp;refine(cP _ (dv s.e) _ (by have:=oI s.e;unfold maxLen;omega) (HoldsO.own HZ1.out.o1)).mono ?_;rintro r z2⟨rfl,hb2⟩;have HZ2:=aa (HZ1.out.step hb2);clear hb2;go_wp2_with fail
 refine ro hK ?_ fun _=>?_
 .exact HZ2.out.cell (i:=17) rfl
 clear hK K;refine r3 11 fun K hK=>?_
 go_simp;refine(gF HZ2.out (zE HF.out.sn hn) 1 _ _).mono ?_;rintro r z3⟨rfl,vs3,h3⟩;have HP:=aa h3;clear h3;go_wp2_with fail
 refine ro hK ?_ fun _=>?_
 .exact HP.out.cell (i:=17) rfl
 clear hK K;refine dn ?_ _;go_wp2_with fail
 refine(wE HP.out HF.out.tr HF.out.now).mono ?_;rintro r q9⟨rfl,h9⟩;go_wp2
 have e9:rD (dv s.e)=co (Op.bytes (dv s.e)):=fI (iP (jo s.e));rw[e9]at h9;exact Great.bodyPost_end0 rfl rfl ⟨rfl,_,_,h9⟩
end
end Go.Proofs.YtjdgiimfpkideaaGreatDoor
