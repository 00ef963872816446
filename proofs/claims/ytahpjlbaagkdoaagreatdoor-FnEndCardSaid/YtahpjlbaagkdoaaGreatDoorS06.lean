/- EndOk Num Asks Judge Verd -/
import Derived.Test.YtahpjlbaagkdoaaGreatDoorS05
import Derived.Test.YtahpjlbaagkdoaaGreatDoorCln
set_option maxHeartbeats 8000000
set_option maxRecDepth 100000
namespace Go.Proofs.YtahpjlbaagkdoaaGreatDoor
open Go.RowKit Go.Proofs.Tryz
def opOk (F:List Op.Opt):Bool:=Op.right F && decide ((Op.bytes F).length≤250)
def runs (st:Int):Bool:=decide (4≤st) && decide (st≤8)
def lnIs (m a:Int) (p c d:Bool) (x:Ln):Bool:=m == (x.m:Int) && (a == (x.a:Int) && (p == x.p && (c == x.c && d == x.d)))
def enOk (e:En) (F1 F2:List Op.Opt):Bool :=
 cfgOk e.m1 e.a1 e.g1 && (cfgOk e.m2 e.a2 e.g2 && (within 0 9 e.st && (within 0 5 e.tr && ((decide (0≤e.id) && decide (e.id≤255)) && (within 0 3 e.fl && (opOk F1 && (opOk F2 &&
  ((if runs e.st=true then within 0 1000000003 e.du else e.du == -1) && ((e.up == (e.st == 9)) &&
   (if e.up=true then lnIs e.i1 e.i2 e.i3 e.i4 e.i5 (lineOf F1) && lnIs e.o1 e.o2 e.o3 e.o4 e.o5 (lineOf F2) else lnIs e.i1 e.i2 e.i3 e.i4 e.i5 ⟨0,0,false,false,false⟩ && lnIs e.o1 e.o2 e.o3 e.o4 e.o5 ⟨0,0,false,false,false⟩))))))))))
theorem specRuns (st:Int) (w:World):Calls prog 75 #[.int .i64 st] w fun e w'=>e=.returned (.bool (runs st))∧w'=w:=by
 unfold runs;by_cases h1:4≤st
 ·rw [decide_eq_true h1,Bool.true_and];go_enter func75,ntmps75
  go_wp2
  go_ret
  exact ⟨rfl,rfl⟩
 ·rw [decide_eq_false h1,Bool.false_and];go_enter func75,ntmps75
  go_wp2
  go_ret
  exact ⟨rfl,rfl⟩
theorem specL04 (v:Value) (F:List Op.Opt) (w:World) (hr:Op.right F=true) (h:HoldsO w v F):Calls prog 48 #[v] w fun e w'=>e=.returned (.string (txt (Op.bytes F)))∧Below w.heap.size w w':=by
 rcases h with ⟨ad,cp,rfl,rfl⟩ | ⟨g,cp,cur,rfl,h1,h2,h3⟩
 ·exact specBy0 ad cp w
 ·exact specByG g cp F cur w hr h1 h3
theorem specOpOk (v:Value) (F:List Op.Opt) (w:World) (hm:F.length≤maxLen) (h:HoldsO w v F):Calls prog 74 #[v] w fun e w'=>e=.returned (.bool (opOk F))∧Below w.heap.size w w':=by
 have C1:=hide fun W (hb:Below w.heap.size w W)=>specRightAll v F W hm (h.below hb rfl)
 unfold opOk;cases hr:Op.right F
 ·rw [Bool.false_and];rw [hr] at C1;obtain ⟨ad,cp,rfl⟩:=h.form;clear h;go_enter func74,ntmps74
  go_wp2_with fail
  refine (uh C1 _ (Below.refl _ _)).mono ?_;rintro e w1 ⟨rfl,hb1⟩;go_wp2
  go_ret
  exact ⟨rfl,hb1⟩
 ·rw [Bool.true_and];rw [hr] at C1;have C2:=hide fun W (hb:Below w.heap.size w W)=>specL04 v F W hr (h.below hb rfl)
  obtain ⟨ad,cp,rfl⟩:=h.form;have hsz:(txt (Op.bytes F)).size=(Op.bytes F).length:=by unfold txt;show (Op.bytes F).toArray.size=_;simp
  clear h;generalize txt (Op.bytes F)=tb at *;rw [← hsz];clear hsz;go_enter func74,ntmps74
  go_wp2_with fail
  refine (uh C1 _ (Below.refl _ _)).mono ?_;rintro e w1 ⟨rfl,hb1⟩;go_wp2_with fail
  refine (uh C2 _ hb1).mono ?_;rintro e w2 ⟨rfl,hb2⟩;go_wp2
  go_ret
  exact ⟨congrArg (fun b=>Ending.returned (.bool b)) (decide_eq_decide.2 (by omega)),hb1.trans (hb2.mono hb1.size)⟩
def EqL:Prop:=(∀ (m a m' a':Int) (p c d p' c' d':Bool) (W:World),(binOp .eql 27 (.agg #[.int .i64 m,.int .i64 a,.bool p,.bool c,.bool d]) (.agg #[.int .i64 m',.int .i64 a',.bool p',.bool c',.bool d'])).run prog W=.ok (.bool (m == m' && (a == a' && (p == p' && (c == c' && d == d'))))) W) ∧
 ∀ (x y:Operand) (xs ys:Array Value) (W:World),(eqGuard .eql 27 x y (.agg xs) (.agg ys)).run prog W=.ok () W
theorem specEndRight_of (e:En) (x1 x2:Option Addr) (y1 y2:Nat) (F1 F2:List Op.Opt) (w:World) (l1:F1.length≤maxLen) (l2:F2.length≤maxLen) (h1:HoldsO w (.slice x1 F1.length y1) F1) (h2:HoldsO w (.slice x2 F2.length y2) F2) (hEq:EqL) :
  Calls prog 34 #[.agg (enC e (.slice x1 F1.length y1) (.slice x2 F2.length y2))] w fun r w'=>r=.returned (.bool (enOk e F1 F2))∧Below w.heap.size w w':=by
 have HEQ:=hide hEq;clear hEq;have C7:=hide fun W (hb:Below w.heap.size w W)=>specOpOk _ F1 W l1 (h1.below hb rfl)
 have C8:=hide fun W (hb:Below w.heap.size w W)=>specOpOk _ F2 W l2 (h2.below hb rfl)
 have CL1:=hide fun W (hb:Below w.heap.size w W)=>specLine _ F1 W l1 (h1.below hb rfl)
 have CL2:=hide fun W (hb:Below w.heap.size w W)=>specLine _ F2 W l2 (h2.below hb rfl)
 obtain ⟨m1,a1,g1,p1,c1,d1,m2,a2,g2,p2,c2,d2,st,tr,du,id,fl,up,i1,i2,i3,i4,i5,o1,o2,o3,o4,o5⟩:=e;have hA:=heap_alloc_new w (.cells (enC ⟨m1,a1,g1,p1,c1,d1,m2,a2,g2,p2,c2,d2,st,tr,du,id,fl,up,i1,i2,i3,i4,i5,o1,o2,o3,o4,o5⟩ (.slice x1 F1.length y1) (.slice x2 F2.length y2)) 29);have hbA:Below w.heap.size w (w.alloc (.cells (enC ⟨m1,a1,g1,p1,c1,d1,m2,a2,g2,p2,c2,d2,st,tr,du,id,fl,up,i1,i2,i3,i4,i5,o1,o2,o3,o4,o5⟩ (.slice x1 F1.length y1) (.slice x2 F2.length y2)) 29)):=(Below.refl _ _).alloc (Nat.le_refl _) _;have CC1:=hide fun W=>specCfg m1 a1 g1 p1 c1 d1 W
 have CC2:=hide fun W=>specCfg m2 a2 g2 p2 c2 d2 W
 have CI1:=hide fun W=>specIs st 0 9 W
 have CI2:=hide fun W=>specIs tr 0 5 W
 have CI3:=hide fun W=>specByte id W
 have CI4:=hide fun W=>specIs fl 0 3 W
 have CR:=hide fun W=>specRuns st W
 have CD:=hide fun W=>specIs du 0 1000000003 W
 obtain ⟨R,hR⟩:∃ R,enOk ⟨m1,a1,g1,p1,c1,d1,m2,a2,g2,p2,c2,d2,st,tr,du,id,fl,up,i1,i2,i3,i4,i5,o1,o2,o3,o4,o5⟩ F1 F2=R:=⟨_,rfl⟩;rw [hR];unfold enOk at hR;dsimp only at hR;unfold enC at hA hbA ⊢;dsimp only at hA hbA ⊢;generalize cfgOk m1 a1 g1=b1 at *;generalize cfgOk m2 a2 g2=b2 at *;generalize within 0 9 st=b3 at *;generalize within 0 5 tr=b4 at *;generalize (decide (0≤id) && decide (id≤255))=b5 at *;generalize within 0 3 fl=b6 at *;generalize opOk F1=b7 at *;generalize opOk F2=b8 at *;have HLF:=hide (And.intro (rfl:lineOf F1=lineOf F1) (rfl:lineOf F2=lineOf F2));generalize lineOf F1=L1 at *;generalize lineOf F2=L2 at *;have HR:=hide hR;have HA:=hide (And.intro hA hbA);clear hA hbA h1 h2 l1 l2 hR HLF;generalize F1.length=n1 at *;generalize F2.length=n2 at *;go_enter func34,ntmps34
 go_wp2_with fail
 refine (uh CC1 _).mono ?_;rintro r w1 ⟨rfl,hb1⟩;have hr1:=(hb1.block w.heap.size (ge.1 (uh HA).1).1).trans (uh HA).1;have hB1:=(uh HA).2.trans (hb1.mono (uh HA).2.size);have c6:w1.cell? ⟨w.heap.size,6,none⟩=some (.int .i64 m2):=by rw [cr hr1];rfl
 have c7:w1.cell? ⟨w.heap.size,7,none⟩=some (.int .i64 a2):=by rw [cr hr1];rfl
 have c8:w1.cell? ⟨w.heap.size,8,none⟩=some (.int .i64 g2):=by rw [cr hr1];rfl
 have c9:w1.cell? ⟨w.heap.size,9,none⟩=some (.bool p2):=by rw [cr hr1];rfl
 have c10:w1.cell? ⟨w.heap.size,10,none⟩=some (.bool c2):=by rw [cr hr1];rfl
 have c11:w1.cell? ⟨w.heap.size,11,none⟩=some (.bool d2):=by rw [cr hr1];rfl
 have H1:=hide (And.intro hr1 hB1);clear hr1 hB1 hb1 HA;cases b1
 ·rw [Bool.false_and] at HR;have e:=uh HR;subst e;clear HR;go_wp2
  go_ret
  exact ⟨rfl,(uh H1).2⟩
 rw [Bool.true_and] at HR;go_wp2_with fail
 clear c6 c7 c8 c9 c10 c11;refine (uh CC2 _).mono ?_;rintro r w2 ⟨rfl,hb2⟩;have hr2:=(hb2.block w.heap.size (ge.1 (uh H1).1).1).trans (uh H1).1;have hB2:=(uh H1).2.trans (hb2.mono (uh H1).2.size);have c12:w2.cell? ⟨w.heap.size,12,none⟩=some (.int .i64 st):=by rw [cr hr2];rfl
 have c13:w2.cell? ⟨w.heap.size,13,none⟩=some (.int .i64 tr):=by rw [cr hr2];rfl
 have c15:w2.cell? ⟨w.heap.size,15,none⟩=some (.int .i64 id):=by rw [cr hr2];rfl
 have c16:w2.cell? ⟨w.heap.size,16,none⟩=some (.int .i64 fl):=by rw [cr hr2];rfl
 have c17:w2.cell? ⟨w.heap.size,17,none⟩=some (.slice x1 n1 y1):=by rw [cr hr2];rfl
 have H2:=hide (And.intro hr2 hB2);clear hr2 hB2 hb2 H1;cases b2
 ·rw [Bool.false_and] at HR;have e:=uh HR;subst e;clear HR;go_wp2
  go_ret
  exact ⟨rfl,(uh H2).2⟩
 rw [Bool.true_and] at HR;go_wp2_with fail
 refine (uh CI1 _).mono ?_;rintro r ws3 ⟨rfl,hws⟩;replace hws:=hws.symm;subst hws;cases b3
 ·rw [Bool.false_and] at HR;have e:=uh HR;subst e;clear HR;go_wp2
  go_ret
  exact ⟨rfl,(uh H2).2⟩
 rw [Bool.true_and] at HR;go_wp2_with fail
 refine (uh CI2 _).mono ?_;rintro r ws4 ⟨rfl,hws⟩;replace hws:=hws.symm;subst hws;cases b4
 ·rw [Bool.false_and] at HR;have e:=uh HR;subst e;clear HR;go_wp2
  go_ret
  exact ⟨rfl,(uh H2).2⟩
 rw [Bool.true_and] at HR;go_wp2_with fail
 refine (uh CI3 _).mono ?_;rintro r ws5 ⟨rfl,hws⟩;replace hws:=hws.symm;subst hws;cases b5
 ·rw [Bool.false_and] at HR;have e:=uh HR;subst e;clear HR;go_wp2
  go_ret
  exact ⟨rfl,(uh H2).2⟩
 rw [Bool.true_and] at HR;go_wp2_with fail
 refine (uh CI4 _).mono ?_;rintro r ws6 ⟨rfl,hws⟩;replace hws:=hws.symm;subst hws;cases b6
 ·rw [Bool.false_and] at HR;have e:=uh HR;subst e;clear HR;go_wp2
  go_ret
  exact ⟨rfl,(uh H2).2⟩
 rw [Bool.true_and] at HR;go_wp2_with fail
 clear c12 c13 c15 c16 c17;clear CC1 CC2 CI1 CI2 CI3 CI4;refine (uh C7 _ (uh H2).2).mono ?_;rintro r w7 ⟨rfl,hb7⟩;have hr7:=(hb7.block w.heap.size (ge.1 (uh H2).1).1).trans (uh H2).1;have hB7:=(uh H2).2.trans (hb7.mono (uh H2).2.size);have c18:w7.cell? ⟨w.heap.size,18,none⟩=some (.slice x2 n2 y2):=by rw [cr hr7];rfl
 have H7:=hide (And.intro hr7 hB7);clear hr7 hB7 hb7 H2;cases b7
 ·rw [Bool.false_and] at HR;have e:=uh HR;subst e;clear HR;go_wp2
  go_ret
  exact ⟨rfl,(uh H7).2⟩
 rw [Bool.true_and] at HR;go_wp2_with fail
 clear c18;refine (uh C8 _ (uh H7).2).mono ?_;rintro r w8 ⟨rfl,hb8⟩;have hr8:=(hb8.block w.heap.size (ge.1 (uh H7).1).1).trans (uh H7).1;have hB8:=(uh H7).2.trans (hb8.mono (uh H7).2.size);have c12:w8.cell? ⟨w.heap.size,12,none⟩=some (.int .i64 st):=by rw [cr hr8];rfl
 have c14:w8.cell? ⟨w.heap.size,14,none⟩=some (.int .i64 du):=by rw [cr hr8];rfl
 have c19:w8.cell? ⟨w.heap.size,19,none⟩=some (.bool up):=by rw [cr hr8];rfl
 have H8:=hide (And.intro hr8 hB8);clear hr8 hB8 hb8 H7;cases b8
 ·rw [Bool.false_and] at HR;have e:=uh HR;subst e;clear HR;go_wp2
  go_ret
  exact ⟨rfl,(uh H8).2⟩
 rw [Bool.true_and] at HR;go_upto_region 3 with fail
 obtain ⟨G,hG⟩:∃ G,(if runs st=true then within 0 1000000003 du else du == -1)=G:=⟨_,rfl⟩;rw [hG] at HR;have HG:=hide hG;clear hG;go_cut [76] (fun v wx=>v=.bool (!(G && (up == (st == 9))))∧wx.heap[w.heap.size]?=some (.cells #[.int .i64 m1,.int .i64 a1,.int .i64 g1,.bool p1,.bool c1,.bool d1,.int .i64 m2,.int .i64 a2,.int .i64 g2,.bool p2,.bool c2,.bool d2,.int .i64 st,.int .i64 tr,.int .i64 du,.int .i64 id,.int .i64 fl,.slice x1 n1 y1,.slice x2 n2 y2,.bool up,.int .i64 i1,.int .i64 i2,.bool i3,.bool i4,.bool i5,.int .i64 o1,.int .i64 o2,.bool o3,.bool o4,.bool o5] 29)∧Below w.heap.size w wx)
 case first =>
  clear HR C7 C8 CL1 CL2;go_wp2_with fail
  refine (uh CR _).mono ?_;rintro r ws ⟨rfl,hws⟩;replace hws:=hws.symm;subst hws;cases hrr:runs st
  ·rw [hrr,if_neg (by decide)] at HG;rw [hrr] at CR;go_wp2_with fail
   refine (uh CR _).mono ?_;rintro r ws ⟨rfl,hws⟩;replace hws:=hws.symm;subst hws;cases hd:(du == -1)
   ·have hd2:(du != -1)=true:=by unfold bne;rw [hd];rfl
    rw [hd] at HG;have e:=uh HG;subst e;go_wp2_with fail
    go_meet;exact ⟨rfl,uh H8⟩
   ·have hd2:(du != -1)=false:=by unfold bne;rw [hd];rfl
    rw [hd] at HG;have e:=uh HG;subst e;go_wp2_with fail
    go_meet;exact ⟨by rw [Bool.true_and],uh H8⟩
  ·rw [hrr,if_pos rfl] at HG;rw [hrr] at CR;rw [uh HG] at CD;go_wp2_with fail
   refine (uh CD _).mono ?_;rintro r ws ⟨rfl,hws⟩;replace hws:=hws.symm;subst hws;cases G
   ·go_wp2_with fail
    go_meet;exact ⟨rfl,uh H8⟩
   ·go_wp2_with fail
    refine (uh CR _).mono ?_;rintro r ws ⟨rfl,hws⟩;replace hws:=hws.symm;subst hws;go_wp2_with fail
    go_meet;exact ⟨by rw [Bool.true_and],uh H8⟩
 case rest =>
  obtain ⟨hu76,hr9,hB9⟩:=hcut;subst hu76;clear H8 HG CR CD c12 c14 c19;have c17:wc.cell? ⟨w.heap.size,17,none⟩=some (.slice x1 n1 y1):=by rw [cr hr9];rfl
  have c18:wc.cell? ⟨w.heap.size,18,none⟩=some (.slice x2 n2 y2):=by rw [cr hr9];rfl
  have c19:wc.cell? ⟨w.heap.size,19,none⟩=some (.bool up):=by rw [cr hr9];rfl
  have c20:wc.cell? ⟨w.heap.size,20,none⟩=some (.int .i64 i1):=by rw [cr hr9];rfl
  have c21:wc.cell? ⟨w.heap.size,21,none⟩=some (.int .i64 i2):=by rw [cr hr9];rfl
  have c22:wc.cell? ⟨w.heap.size,22,none⟩=some (.bool i3):=by rw [cr hr9];rfl
  have c23:wc.cell? ⟨w.heap.size,23,none⟩=some (.bool i4):=by rw [cr hr9];rfl
  have c24:wc.cell? ⟨w.heap.size,24,none⟩=some (.bool i5):=by rw [cr hr9];rfl
  have c25:wc.cell? ⟨w.heap.size,25,none⟩=some (.int .i64 o1):=by rw [cr hr9];rfl
  have c26:wc.cell? ⟨w.heap.size,26,none⟩=some (.int .i64 o2):=by rw [cr hr9];rfl
  have c27:wc.cell? ⟨w.heap.size,27,none⟩=some (.bool o3):=by rw [cr hr9];rfl
  have c28:wc.cell? ⟨w.heap.size,28,none⟩=some (.bool o4):=by rw [cr hr9];rfl
  have c29:wc.cell? ⟨w.heap.size,29,none⟩=some (.bool o5):=by rw [cr hr9];rfl
  have H9:=hide (And.intro hr9 hB9);clear hr9 hB9;cases G
  ·rw [Bool.false_and] at HR ⊢;have e:=uh HR;subst e;clear HR;go_wp2
   go_ret
   exact ⟨rfl,(uh H9).2⟩
  rw [Bool.true_and] at HR ⊢;cases hup:(up == (st == 9))
  ·rw [hup,Bool.false_and] at HR;have e:=uh HR;subst e;clear HR;go_wp2
   go_ret
   exact ⟨rfl,(uh H9).2⟩
  rw [hup,Bool.true_and] at HR;clear hup;have hlA:w.heap.size<wc.heap.size:=(ge.1 (uh H9).1).1;cases up
  ·rw [if_neg (by decide)] at HR;have q1:∀ W,(binOp .eql 27 (.agg #[.int .i64 i1,.int .i64 i2,.bool i3,.bool i4,.bool i5]) (.agg #[.int .i64 0,.int .i64 0,.bool false,.bool false,.bool false])).run prog W=.ok (.bool (lnIs i1 i2 i3 i4 i5 ⟨0,0,false,false,false⟩)) W:=fun W=>(uh HEQ).1 i1 i2 0 0 i3 i4 i5 false false false W
   have q2:∀ W,(binOp .eql 27 (.agg #[.int .i64 o1,.int .i64 o2,.bool o3,.bool o4,.bool o5]) (.agg #[.int .i64 0,.int .i64 0,.bool false,.bool false,.bool false])).run prog W=.ok (.bool (lnIs o1 o2 o3 o4 o5 ⟨0,0,false,false,false⟩)) W:=fun W=>(uh HEQ).1 o1 o2 0 0 o3 o4 o5 false false false W
   have q3:=(uh HEQ).2;clear CL1 CL2 HEQ;generalize lnIs i1 i2 i3 i4 i5 ⟨0,0,false,false,false⟩=bi at *;generalize lnIs o1 o2 o3 o4 o5 ⟨0,0,false,false,false⟩=bo at *;cases bi
   ·rw [Bool.false_and] at HR;have e:=uh HR;subst e;clear HR;go_wp2
    go_ret
    exact ⟨rfl,(uh H9).2⟩
   ·rw [Bool.true_and] at HR;have e:=uh HR;subst e;clear HR;go_wp2
    go_ret
    exact ⟨rfl,(uh H9).2⟩
  ·rw [if_pos rfl] at HR;have q1:∀ W,(binOp .eql 27 (.agg #[.int .i64 i1,.int .i64 i2,.bool i3,.bool i4,.bool i5]) (.agg (lnC L1))).run prog W=.ok (.bool (lnIs i1 i2 i3 i4 i5 L1)) W:=fun W=>(uh HEQ).1 i1 i2 L1.m L1.a i3 i4 i5 L1.p L1.c L1.d W
   have q2:∀ W,(binOp .eql 27 (.agg #[.int .i64 o1,.int .i64 o2,.bool o3,.bool o4,.bool o5]) (.agg (lnC L2))).run prog W=.ok (.bool (lnIs o1 o2 o3 o4 o5 L2)) W:=fun W=>(uh HEQ).1 o1 o2 L2.m L2.a o3 o4 o5 L2.p L2.c L2.d W
   have q3:=(uh HEQ).2;clear HEQ;generalize lnIs i1 i2 i3 i4 i5 L1=bi at *;generalize lnIs o1 o2 o3 o4 o5 L2=bo at *;go_upto_region 6 with fail
   refine wp_region_held_drew (S:=fun z=>z.cell? ⟨w.heap.size,17,none⟩=some (.slice x1 n1 y1)∧z.cell? ⟨w.heap.size,18,none⟩=some (.slice x2 n2 y2)∧z.cell? ⟨w.heap.size,20,none⟩=some (.int .i64 i1)∧z.cell? ⟨w.heap.size,21,none⟩=some (.int .i64 i2)∧z.cell? ⟨w.heap.size,22,none⟩=some (.bool i3)∧z.cell? ⟨w.heap.size,23,none⟩=some (.bool i4)∧z.cell? ⟨w.heap.size,24,none⟩=some (.bool i5)∧z.cell? ⟨w.heap.size,25,none⟩=some (.int .i64 o1)∧z.cell? ⟨w.heap.size,26,none⟩=some (.int .i64 o2)∧z.cell? ⟨w.heap.size,27,none⟩=some (.bool o3)∧z.cell? ⟨w.heap.size,28,none⟩=some (.bool o4)∧z.cell? ⟨w.heap.size,29,none⟩=some (.bool o5)) (by kernel_rfl) ?_ (fun hHeld=>?_)
   ·exact ⟨c17,c18,c20,c21,c22,c23,c24,c25,c26,c27,c28,c29⟩
   cases bi
   ·rw [Bool.false_and] at HR;have e:=uh HR;subst e;clear HR;refine t2 0 ?_;refine t2 1 ?_;refine t2 2 ?_;refine t2 3 ?_;refine r1 4 rfl (fun K hK=>?_);go_simp;refine (uh CL1 _ ((uh H9).2.trans ((Below.refl _ _).drew.mono (uh H9).2.size))).mono ?_;rintro r w10 ⟨rfl,hb⟩;have B10:Below wc.heap.size wc w10:=(Below.refl _ _).drew.trans hb;clear hb;go_wp2_with fail
    refine hK.out _ _ ?_ (fun hHeld2=>?_)
    ·exact ⟨(B10.cell (p:=⟨w.heap.size,17,none⟩) hlA).trans c17,(B10.cell (p:=⟨w.heap.size,18,none⟩) hlA).trans c18,(B10.cell (p:=⟨w.heap.size,20,none⟩) hlA).trans c20,(B10.cell (p:=⟨w.heap.size,21,none⟩) hlA).trans c21,(B10.cell (p:=⟨w.heap.size,22,none⟩) hlA).trans c22,(B10.cell (p:=⟨w.heap.size,23,none⟩) hlA).trans c23,(B10.cell (p:=⟨w.heap.size,24,none⟩) hlA).trans c24,(B10.cell (p:=⟨w.heap.size,25,none⟩) hlA).trans c25,(B10.cell (p:=⟨w.heap.size,26,none⟩) hlA).trans c26,(B10.cell (p:=⟨w.heap.size,27,none⟩) hlA).trans c27,(B10.cell (p:=⟨w.heap.size,28,none⟩) hlA).trans c28,(B10.cell (p:=⟨w.heap.size,29,none⟩) hlA).trans c29⟩
    clear hK K;try simp only [Act.put,sA,sZ,sS,gA,gZ,gS]
    refine t2 5 ?_;refine t2 6 ?_;refine t5 7 ?_;refine t5 8 ?_;refine t5 9 ?_;refine t5 10 ?_;refine t5 11 ?_;refine t5 12 ?_;refine t2 13 ?_;refine t2 14 ?_;refine dn ?_ _;go_wp2
    go_ret
    exact ⟨rfl,(uh H9).2.trans (B10.mono (uh H9).2.size)⟩
   ·rw [Bool.true_and] at HR;have e:=uh HR;subst e;clear HR;refine t2 0 ?_;refine t2 1 ?_;refine t2 2 ?_;refine t2 3 ?_;refine r1 4 rfl (fun K hK=>?_);go_simp;refine (uh CL1 _ ((uh H9).2.trans ((Below.refl _ _).drew.mono (uh H9).2.size))).mono ?_;rintro r w10 ⟨rfl,hb⟩;have B10:Below wc.heap.size wc w10:=(Below.refl _ _).drew.trans hb;clear hb;go_wp2_with fail
    refine hK.out _ _ ?_ (fun hHeld2=>?_)
    ·exact ⟨(B10.cell (p:=⟨w.heap.size,17,none⟩) hlA).trans c17,(B10.cell (p:=⟨w.heap.size,18,none⟩) hlA).trans c18,(B10.cell (p:=⟨w.heap.size,20,none⟩) hlA).trans c20,(B10.cell (p:=⟨w.heap.size,21,none⟩) hlA).trans c21,(B10.cell (p:=⟨w.heap.size,22,none⟩) hlA).trans c22,(B10.cell (p:=⟨w.heap.size,23,none⟩) hlA).trans c23,(B10.cell (p:=⟨w.heap.size,24,none⟩) hlA).trans c24,(B10.cell (p:=⟨w.heap.size,25,none⟩) hlA).trans c25,(B10.cell (p:=⟨w.heap.size,26,none⟩) hlA).trans c26,(B10.cell (p:=⟨w.heap.size,27,none⟩) hlA).trans c27,(B10.cell (p:=⟨w.heap.size,28,none⟩) hlA).trans c28,(B10.cell (p:=⟨w.heap.size,29,none⟩) hlA).trans c29⟩
    clear hK K;try simp only [Act.put,sA,sZ,sS,gA,gZ,gS]
    refine t2 5 ?_;refine t2 6 ?_;refine t2 7 ?_;refine t2 8 ?_;refine t2 9 ?_;refine t2 10 ?_;refine r1 11 rfl (fun K hK=>?_);go_simp;refine (uh CL2 _ ((uh H9).2.trans (B10.mono (uh H9).2.size))).mono ?_;rintro r w11 ⟨rfl,hb⟩;have B11:Below wc.heap.size wc w11:=B10.trans (hb.mono B10.size);clear hb;go_wp2_with fail
    refine hK.out _ _ ?_ (fun hHeld3=>?_)
    ·exact ⟨(B11.cell (p:=⟨w.heap.size,17,none⟩) hlA).trans c17,(B11.cell (p:=⟨w.heap.size,18,none⟩) hlA).trans c18,(B11.cell (p:=⟨w.heap.size,20,none⟩) hlA).trans c20,(B11.cell (p:=⟨w.heap.size,21,none⟩) hlA).trans c21,(B11.cell (p:=⟨w.heap.size,22,none⟩) hlA).trans c22,(B11.cell (p:=⟨w.heap.size,23,none⟩) hlA).trans c23,(B11.cell (p:=⟨w.heap.size,24,none⟩) hlA).trans c24,(B11.cell (p:=⟨w.heap.size,25,none⟩) hlA).trans c25,(B11.cell (p:=⟨w.heap.size,26,none⟩) hlA).trans c26,(B11.cell (p:=⟨w.heap.size,27,none⟩) hlA).trans c27,(B11.cell (p:=⟨w.heap.size,28,none⟩) hlA).trans c28,(B11.cell (p:=⟨w.heap.size,29,none⟩) hlA).trans c29⟩
    clear hK K;try simp only [Act.put,sA,sZ,sS,gA,gZ,gS]
    refine t2 12 ?_;refine t2 13 ?_;refine t2 14 ?_;refine dn ?_ _;go_wp2
    go_ret
    exact ⟨rfl,(uh H9).2.trans (B11.mono (uh H9).2.size)⟩
theorem info_u8:(prog.info? 5).map (fun i=>(i.zero,i.size,i.bytes))=some (some (.int .u8 0),1,1):=by kernel_rfl
theorem made0:madeCells #[Value.int .u8 0] 0=#[]:=by kernel_rfl
theorem made1:madeCells #[Value.int .u8 0] 1=#[.int .u8 0]:=by kernel_rfl
theorem made2:madeCells #[Value.int .u8 0] 2=#[.int .u8 0,.int .u8 0]:=by kernel_rfl
theorem made4:madeCells #[Value.int .u8 0] 4=#[.int .u8 0,.int .u8 0,.int .u8 0,.int .u8 0]:=by kernel_rfl
theorem make0 (w:World):(Instr.makeSlice 22 (.int .i64 0) (.int .i64 0)).run prog w=.ok (.slice (some ⟨w.heap.size,0,none⟩) 0 0) (w.alloc (.cells #[] 5)) :=
 made0 ▸ run_make_row' (P:=prog) 22 5 (.int .u8 0) 1 underlying22 info_u8 rfl .i64 .i64 0 (by decide) (by decide) w
theorem make1 (w:World):(Instr.makeSlice 22 (.int .i64 1) (.int .i64 1)).run prog w=.ok (.slice (some ⟨w.heap.size,0,none⟩) 1 1) (w.alloc (.cells #[.int .u8 0] 5)) :=
 made1 ▸ run_make_row' (P:=prog) 22 5 (.int .u8 0) 1 underlying22 info_u8 rfl .i64 .i64 1 (by decide) (by decide) w
theorem make2 (w:World):(Instr.makeSlice 22 (.int .i64 2) (.int .i64 2)).run prog w=.ok (.slice (some ⟨w.heap.size,0,none⟩) 2 2) (w.alloc (.cells #[.int .u8 0,.int .u8 0] 5)) :=
 made2 ▸ run_make_row' (P:=prog) 22 5 (.int .u8 0) 1 underlying22 info_u8 rfl .i64 .i64 2 (by decide) (by decide) w
theorem make4 (w:World):(Instr.makeSlice 22 (.int .i64 4) (.int .i64 4)).run prog w=.ok (.slice (some ⟨w.heap.size,0,none⟩) 4 4) (w.alloc (.cells #[.int .u8 0,.int .u8 0,.int .u8 0,.int .u8 0] 5)) :=
 made4 ▸ run_make_row' (P:=prog) 22 5 (.int .u8 0) 1 underlying22 info_u8 rfl .i64 .i64 4 (by decide) (by decide) w
theorem conv0 (w:World):(convert 22 9 (.slice (some ⟨w.heap.size,0,none⟩) 0 0)).run prog (w.alloc (.cells #[] 5))=.ok (.string (strOfNums [])) (w.alloc (.cells #[] 5)) :=
 run_convert_bytes_arg (P:=prog) _ 22 5 underlying22 underlying5 w.heap.size 0 0 0 [] rfl (fun i hi=>by cases hi) 9 underlying9
theorem conv1 (w:World) (a:Int):(convert 22 9 (.slice (some ⟨w.heap.size,0,none⟩) 1 1)).run prog (w.alloc (.cells #[.int .u8 a] 5))=.ok (.string (strOfNums [a])) (w.alloc (.cells #[.int .u8 a] 5)) :=
 run_convert_bytes_arg (P:=prog) _ 22 5 underlying22 underlying5 w.heap.size 0 1 1 [a] rfl (fun i hi=>by
  rw [World.cell?_alloc_at _ _ _ _ (by simp)];match i,hi with
  | 0,_=>rfl) 9 underlying9
theorem conv2 (w:World) (a b:Int):(convert 22 9 (.slice (some ⟨w.heap.size,0,none⟩) 2 2)).run prog (w.alloc (.cells #[.int .u8 a,.int .u8 b] 5))=.ok (.string (strOfNums [a,b])) (w.alloc (.cells #[.int .u8 a,.int .u8 b] 5)) :=
 run_convert_bytes_arg (P:=prog) _ 22 5 underlying22 underlying5 w.heap.size 0 2 2 [a,b] rfl (fun i hi=>by
  rw [World.cell?_alloc_at _ _ _ _ (by simp)];match i,hi with
  | 0,_=>rfl
  | 1,_=>rfl) 9 underlying9
theorem conv4 (w:World) (a b c d:Int):(convert 22 9 (.slice (some ⟨w.heap.size,0,none⟩) 4 4)).run prog (w.alloc (.cells #[.int .u8 a,.int .u8 b,.int .u8 c,.int .u8 d] 5))=.ok (.string (strOfNums [a,b,c,d])) (w.alloc (.cells #[.int .u8 a,.int .u8 b,.int .u8 c,.int .u8 d] 5)) :=
 run_convert_bytes_arg (P:=prog) _ 22 5 underlying22 underlying5 w.heap.size 0 4 4 [a,b,c,d] rfl (fun i hi=>by
  rw [World.cell?_alloc_at _ _ _ _ (by simp)];match i,hi with
  | 0,_=>rfl
  | 1,_=>rfl
  | 2,_=>rfl
  | 3,_=>rfl) 9 underlying9
def put1 (n:Nat):ByteArray:=strOfNums [(n:Int) % 256]
def put2 (n:Nat):ByteArray:=strOfNums [(n:Int) / 256 % 256,(n:Int) % 256]
def put4 (n:Nat):ByteArray:=strOfNums [(n:Int) / 16777216 % 256,(n:Int) / 65536 % 256,(n:Int) / 256 % 256,(n:Int) % 256]
theorem num0 (n:Nat) (w:World):Calls prog 211 #[.int .i64 n,.int .i64 0] w fun e w'=>e=.returned (.string ⟨#[]⟩)∧Below w.heap.size w w':=by
 have hm:=make0;have hc:=conv0 w;go_enter func211,ntmps211
 go_wp2_with fail
 go_rounds 1
 go_ret
 exact ⟨rfl,(Below.refl _ _).alloc (Nat.le_refl _) _⟩
theorem num1 (n:Nat) (w:World):Calls prog 211 #[.int .i64 n,.int .i64 1] w fun e w'=>e=.returned (.string (put1 n))∧Below w.heap.size w w':=by
 have hm:=make1;have hc:=conv1 w;unfold put1;go_enter func211,ntmps211
 go_wp2_with fail
 go_rounds 2
 go_ret
 exact ⟨rfl,(Below.refl _ _).alloc (Nat.le_refl _) _⟩
theorem num2 (n:Nat) (w:World):Calls prog 211 #[.int .i64 n,.int .i64 2] w fun e w'=>e=.returned (.string (put2 n))∧Below w.heap.size w w':=by
 have hm:=make2;have hc:=conv2 w;unfold put2;go_enter func211,ntmps211
 go_wp2_with fail
 go_rounds 3
 go_ret
 exact ⟨rfl,(Below.refl _ _).alloc (Nat.le_refl _) _⟩
theorem num4 (n:Nat) (w:World):Calls prog 211 #[.int .i64 n,.int .i64 4] w fun e w'=>e=.returned (.string (put4 n))∧Below w.heap.size w w':=by
 have hm:=make4;have hc:=conv4 w;unfold put4;go_enter func211,ntmps211
 go_wp2_with fail
 go_rounds 5
 go_ret
 exact ⟨rfl,(Below.refl _ _).alloc (Nat.le_refl _) _⟩
theorem sput2 (n:Nat) (w:World):Calls prog 106 #[.int .i64 n,.int .i64 2] w fun e w'=>e=.returned (.string (put2 n))∧Below w.heap.size w w':=by
 have hm:=make2;have hc:=conv2 w;unfold put2;go_enter func106,ntmps106
 go_wp2_with fail
 go_rounds 3
 go_ret
 exact ⟨rfl,(Below.refl _ _).alloc (Nat.le_refl _) _⟩
theorem sput4 (n:Nat) (w:World):Calls prog 106 #[.int .i64 n,.int .i64 4] w fun e w'=>e=.returned (.string (put4 n))∧Below w.heap.size w w':=by
 have hm:=make4;have hc:=conv4 w;rw [show put4 n=strOfNums [(n:Int) / 256 / 256 / 256 % 256,(n:Int) / 256 / 256 % 256,(n:Int) / 256 % 256,(n:Int) % 256] by
  unfold put4;rw [show (n:Int) / 16777216=(n:Int) / 256 / 256 / 256 by omega,show (n:Int) / 65536=(n:Int) / 256 / 256 by omega]]
 go_enter func106,ntmps106
 go_wp2_with fail
 go_rounds 5
 go_ret
 exact ⟨rfl,(Below.refl _ _).alloc (Nat.le_refl _) _⟩
theorem ask1 (m a g:Int) (p c d:Bool) (w:World):Calls prog 163 #[cfgV m a g p c d] w fun e w'=>e=.returned (.tuple #[.int .i64 m,.bool (m != 300)])∧Below w.heap.size w w':=by
 go_enter func163,ntmps163
 go_wp2_with fail
 go_quiet (fail)
 go_wp2
 go_ret2
 exact ⟨rfl,below_drewN ((Below.refl _ _).alloc (Nat.le_refl _) _) _⟩
theorem ask2 (m a g:Int) (p c d:Bool) (w:World):Calls prog 169 #[cfgV m a g p c d] w fun e w'=>e=.returned (.tuple #[.int .i64 a,.bool (a != 4294967295)])∧Below w.heap.size w w':=by
 go_enter func169,ntmps169
 go_wp2_with fail
 go_quiet (fail)
 go_wp2
 go_ret2
 exact ⟨rfl,below_drewN ((Below.refl _ _).alloc (Nat.le_refl _) _) _⟩
theorem ask5 (m a g:Int) (p c d:Bool) (w:World):Calls prog 174 #[cfgV m a g p c d] w fun e w'=>e=.returned (.tuple #[.int .i64 g,.bool (g != 0)])∧Below w.heap.size w w':=by
 go_enter func174,ntmps174
 go_wp2_with fail
 go_quiet (fail)
 go_wp2
 go_ret2
 exact ⟨rfl,below_drewN ((Below.refl _ _).alloc (Nat.le_refl _) _) _⟩
theorem ask7 (m a g:Int) (p c d:Bool) (w:World):Calls prog 180 #[cfgV m a g p c d] w fun e w'=>e=.returned (.tuple #[.int .i64 0,.bool p])∧Below w.heap.size w w':=by
 go_enter func180,ntmps180
 go_wp2_with fail
 go_quiet (fail)
 go_wp2
 go_ret2
 exact ⟨rfl,below_drewN ((Below.refl _ _).alloc (Nat.le_refl _) _) _⟩
theorem ask8 (m a g:Int) (p c d:Bool) (w:World):Calls prog 185 #[cfgV m a g p c d] w fun e w'=>e=.returned (.tuple #[.int .i64 0,.bool c])∧Below w.heap.size w w':=by
 go_enter func185,ntmps185
 go_wp2_with fail
 go_quiet (fail)
 go_wp2
 go_ret2
 exact ⟨rfl,below_drewN ((Below.refl _ _).alloc (Nat.le_refl _) _) _⟩
theorem ask9 (m a g:Int) (p c d:Bool) (w:World):Calls prog 190 #[cfgV m a g p c d] w fun e w'=>e=.returned (.tuple #[.int .i64 4,.bool d])∧Below w.heap.size w w':=by
 go_enter func190,ntmps190
 go_wp2_with fail
 go_quiet (fail)
 go_wp2
 go_ret2
 exact ⟨rfl,below_drewN ((Below.refl _ _).alloc (Nat.le_refl _) _) _⟩
def askIf (b:Bool) (k:Int) (t:ByteArray):List Op.Opt:=if b then [⟨k,t⟩] else []
theorem askIf_yes (k:Int) (t:ByteArray):askIf true k t=[⟨k,t⟩]:=rfl
theorem askIf_no (k:Int) (t:ByteArray):askIf false k t=[]:=rfl
def askP (m a g:Nat) (p c d:Bool):List (List Op.Opt) :=
 [askIf ((m:Int) != 300) 1 (put2 m),askIf ((a:Int) != 4294967295) 2 (put4 a),askIf ((g:Int) != 0) 5 (put4 g),askIf p 7 ⟨#[]⟩,askIf c 8 ⟨#[]⟩,askIf d 9 (put1 4)]
def askL (m a g:Nat) (p c d:Bool) (i:Nat):List Op.Opt:=((askP m a g p c d).take i).flatten
theorem askIf_len (b:Bool) (k:Int) (t:ByteArray):(askIf b k t).length≤1:=by unfold askIf;split<;>simp
theorem askL_len (m a g:Nat) (p c d:Bool) (i:Nat):(askL m a g p c d i).length≤6:=by
 have h:∀ (n:Nat) (l:List (List Op.Opt)),l.length=n→(∀ x ∈ l,x.length≤1)→l.flatten.length≤n:=by
  intro n l hl hx;induction l generalizing n with
  | nil=>simp
  | cons x l ih =>
   have h1:=hx x (by simp);have h2:=ih _ rfl fun y hy=>hx y (by simp [hy])
   rw [List.flatten_cons,List.length_append];rw [List.length_cons] at hl;omega
 have hA:∀ x ∈ askP m a g p c d,x.length≤1:=by
  intro x hx;simp only [askP,List.mem_cons,List.not_mem_nil,or_false] at hx;rcases hx with rfl | rfl | rfl | rfl | rfl | rfl<;>exact askIf_len _ _ _
 have:=h _ ((askP m a g p c d).take i) rfl fun x hx=>hA x (List.mem_of_mem_take hx)
 have h6:((askP m a g p c d).take i).length≤6:=by rw [List.length_take];simp [askP];omega
 unfold askL;omega
abbrev kindsV:Value:=.agg #[.int .i64 1,.int .i64 2,.int .i64 5,.int .i64 7,.int .i64 8,.int .i64 9]
structure AskR (m a g:Nat) (p c d:Bool) (i:Nat) (k s:Int) (f f2 f3 f4 f5 n j:Nat) (b:Bool) (t:ByteArray):Prop where
 ix:∀ W,(Instr.index 298 kindsV (.int .i64 i)).run prog W=.ok (.int .i64 k) W
 fd:Instr.findNow (.int .i64) (.int .i64 k) rules.toList 0=some (some (j,ruleV s f f2 f3 f4 f5))
 cf:∀ args W,(callFunc f args).run prog W=.ok (.enter f args) W
 ask:∀ v,Calls prog f #[cfgV m a g p c d] v fun e w'=>e=.returned (.tuple #[.int .i64 n,.bool b])∧Below v.heap.size v w'
 num:∀ v,Calls prog 211 #[.int .i64 n,.int .i64 s] v fun e w'=>e=.returned (.string t)∧Below v.heap.size v w'
 lst:askL m a g p c d (i+1)=askL m a g p c d i ++ askIf b k t
theorem ask_row (m a g:Nat) (p c d:Bool) (i:Nat) (hi:i<6):∃ k s f f2 f3 f4 f5 n j b t,AskR m a g p c d i k s f f2 f3 f4 f5 n j b t:=by
 match i,hi with
 | 0,_=>exact ⟨_,_,_,_,_,_,_,_,_,_,_,⟨fun W=>rfl,rfl,cf_of (by kernel_rfl),fun v=>ask1 m a g p c d v,fun v=>num2 m v,by simp [askL,askP]⟩⟩
 | 1,_=>exact ⟨_,_,_,_,_,_,_,_,_,_,_,⟨fun W=>rfl,rfl,cf_of (by kernel_rfl),fun v=>ask2 m a g p c d v,fun v=>num4 a v,by simp [askL,askP]⟩⟩
 | 2,_=>exact ⟨_,_,_,_,_,_,_,_,_,_,_,⟨fun W=>rfl,rfl,cf_of (by kernel_rfl),fun v=>ask5 m a g p c d v,fun v=>num4 g v,by simp [askL,askP]⟩⟩
 | 3,_=>exact ⟨_,_,_,_,_,_,_,0,_,_,_,⟨fun W=>rfl,rfl,cf_of (by kernel_rfl),fun v=>ask7 m a g p c d v,fun v=>num0 0 v,by simp [askL,askP]⟩⟩
 | 4,_=>exact ⟨_,_,_,_,_,_,_,0,_,_,_,⟨fun W=>rfl,rfl,cf_of (by kernel_rfl),fun v=>ask8 m a g p c d v,fun v=>num0 0 v,by simp [askL,askP]⟩⟩
 | 5,_=>exact ⟨_,_,_,_,_,_,_,4,_,_,_,⟨fun W=>rfl,rfl,cf_of (by kernel_rfl),fun v=>ask9 m a g p c d v,fun v=>num1 4 v,by simp [askL,askP]⟩⟩
def gc (b:Bool) (x:Int):Int:=if b then 2 else x
theorem goodOr (b:Bool) (x:Int) (w:World):Calls prog 165 #[.bool b,.int .i64 x] w fun e w'=>e=.returned (.int .i64 (gc b x))∧w'=w:=by
 cases b
 ·go_enter func165,ntmps165
  go_wp2
  go_ret
  exact ⟨rfl,rfl⟩
 ·go_enter func165,ntmps165
  go_wp2
  go_ret
  exact ⟨rfl,rfl⟩
def magic (g:Nat):Nat:=max 1 ((g+77) % 4294967296)
theorem and32 (g:Nat) (h:g<4294967296):bits .and .i64 ((g:Int)+77) 4294967295=(((g+77) % 4294967296:Nat):Int):=by
 show IntKind.i64.wrap ((BitVec.ofInt 64 ((g:Int)+77) &&& BitVec.ofInt 64 4294967295).toNat:Int)=_
 rw [show (g:Int)+77=((g+77:Nat):Int) by omega,BitVec.toNat_and,ofInt_u64 (g+77) (by omega),show (BitVec.ofInt 64 4294967295).toNat=2 ^ 32 - 1 by decide,Nat.and_two_pow_sub_one_eq_mod,IntKind.wrap_i64];omega
theorem otherMagic (g:Nat) (w:World) (h:g<4294967296):Calls prog 176 #[.int .i64 g] w fun e w'=>e=.returned (.int .i64 (magic g:Nat))∧w'=w:=by
 have ha:=and32 g h;have HM:Hid (((magic g:Nat):Int)=max 1 (((g+77) % 4294967296:Nat):Int)):=hide (by unfold magic;omega);generalize (g+77) % 4294967296=r at *;rw [uh HM];clear HM;go_enter func176,ntmps176
 go_wp2
 all_goals
  go_ret
  exact ⟨ret_int (by omega),rfl⟩
theorem judge1 (m a g:Int) (p c d:Bool) (n:Int) (w:World):Calls prog 164 #[cfgV m a g p c d,.int .i64 n] w fun e w'=>e=.returned (.tuple #[.int .i64 (gc (within 64 300 n) 3),.int .i64 m])∧Below w.heap.size w w':=by
 have C1:=hide fun v=>mruRight n v
 generalize within 64 300 n=ok at *;have C2:=hide fun v=>goodOr ok 3 v
 go_enter func164,ntmps164
 go_wp2_with fail
 go_quiet ((first
  | (go_at_call 109;exact Calls.quiet_of_same (uh C1 _))
  | (go_at_call 165;exact Calls.quiet_of_same (uh C2 _))))
 go_wp2
 go_ret2
 exact ⟨rfl,below_drewN ((Below.refl _ _).alloc (Nat.le_refl _) _) _⟩
theorem judge2 (m a g:Nat) (p c d:Bool) (n:Nat) (w:World) (ha:a<4294967296) (hn:n<4294967296):Calls prog 170 #[cfgV m a g p c d,.int .i64 n] w fun e w'=>e=.returned (.tuple #[.int .i64 (gc (((n ||| a:Nat):Int) == (n:Int)) 3),.int .i64 (n ||| a:Nat)])∧Below w.heap.size w w':=by
 have ho:=i64_or_nat n a hn ha;have C2:=hide fun v=>goodOr (((n ||| a:Nat):Int) == (n:Int)) 3 v
 generalize n ||| a=x at *
 go_enter func170,ntmps170
 go_wp2_with fail
 go_quiet ((first
  | (go_at_call 165;exact Calls.quiet_of_same (uh C2 _))))
 go_wp2
 go_ret2
 exact ⟨rfl,below_drewN ((Below.refl _ _).alloc (Nat.le_refl _) _) _⟩
theorem judge5 (m a g:Nat) (p c d:Bool) (n:Nat) (w:World) (hg:g<4294967296):Calls prog 175 #[cfgV m a g p c d,.int .i64 n] w fun e w'=>e=.returned (.tuple #[.int .i64 (gc ((n:Int) != 0 && (n:Int) != (g:Int)) 3),.int .i64 (magic g:Nat)])∧Below w.heap.size w w':=by
 have C1:=hide fun v=>otherMagic g v hg
 generalize magic g=x at *;cases hq:((n:Int) != 0)
 ·have C2:=hide fun v=>goodOr false 3 v
  rw [Bool.false_and];go_enter func175,ntmps175
  go_wp2_with fail
  go_quiet ((first
   | (go_at_call 176;exact Calls.quiet_of_same (uh C1 _))
   | (go_at_call 165;exact Calls.quiet_of_same (uh C2 _))))
  go_wp2
  go_ret2
  exact ⟨rfl,below_drewN ((Below.refl _ _).alloc (Nat.le_refl _) _) _⟩
 ·have C2:=hide fun v=>goodOr ((n:Int) != (g:Int)) 3 v
  rw [Bool.true_and];go_enter func175,ntmps175
  go_wp2_with fail
  go_quiet ((first
   | (go_at_call 176;exact Calls.quiet_of_same (uh C1 _))
   | (go_at_call 165;exact Calls.quiet_of_same (uh C2 _))))
  go_wp2
  go_ret2
  exact ⟨rfl,below_drewN ((Below.refl _ _).alloc (Nat.le_refl _) _) _⟩
theorem judge7 (m a g:Int) (p c d:Bool) (n:Int) (w:World):Calls prog 181 #[cfgV m a g p c d,.int .i64 n] w fun e w'=>e=.returned (.tuple #[.int .i64 (gc p 4),.int .i64 0])∧Below w.heap.size w w':=by
 have C2:=hide fun v=>goodOr p 4 v
 go_enter func181,ntmps181
 go_wp2_with (first | (go_at_call 165;refine (uh C2 _).mono ?_;rintro e w1 ⟨rfl,rfl⟩))
 go_ret2
 exact ⟨rfl,(Below.refl _ _).alloc (Nat.le_refl _) _⟩
theorem judge8 (m a g:Int) (p c d:Bool) (n:Int) (w:World):Calls prog 186 #[cfgV m a g p c d,.int .i64 n] w fun e w'=>e=.returned (.tuple #[.int .i64 (gc c 4),.int .i64 0])∧Below w.heap.size w w':=by
 have C2:=hide fun v=>goodOr c 4 v
 go_enter func186,ntmps186
 go_wp2_with (first | (go_at_call 165;refine (uh C2 _).mono ?_;rintro e w1 ⟨rfl,rfl⟩))
 go_ret2
 exact ⟨rfl,(Below.refl _ _).alloc (Nat.le_refl _) _⟩
theorem judge9 (m a g:Int) (p c d:Bool) (n:Int) (w:World):Calls prog 191 #[cfgV m a g p c d,.int .i64 n] w fun e w'=>e=.returned (.tuple #[.int .i64 (gc (n == 2 || (n == 4 && d)) 3),.int .i64 2])∧Below w.heap.size w w':=by
 have C2:=hide fun b v=>goodOr b 3 v
 cases hq:(n == 2)
 ·cases hr:(n == 4)
  ·rw [Bool.false_and,Bool.false_or];go_enter func191,ntmps191
   go_wp2_with (first | (go_at_call 165;refine (uh C2 _ _).mono ?_;rintro e w1 ⟨rfl,rfl⟩))
   go_ret2
   exact ⟨rfl,(Below.refl _ _).alloc (Nat.le_refl _) _⟩
  ·rw [Bool.true_and,Bool.false_or];go_enter func191,ntmps191
   go_wp2_with (first | (go_at_call 165;refine (uh C2 _ _).mono ?_;rintro e w1 ⟨rfl,rfl⟩))
   go_ret2
   exact ⟨rfl,(Below.refl _ _).alloc (Nat.le_refl _) _⟩
 ·rw [Bool.true_or];go_enter func191,ntmps191
  go_wp2_with (first | (go_at_call 165;refine (uh C2 _ _).mono ?_;rintro e w1 ⟨rfl,rfl⟩))
  go_ret2
  exact ⟨rfl,(Below.refl _ _).alloc (Nat.le_refl _) _⟩
theorem strClone (t:ByteArray) (w:World) (ht:t.size≤20):Calls prog 136 #[.string t] w fun e w'=>e=.returned (.string t)∧Below w.heap.size w w':=by
  have C:=hide (Any.stringslite_Clone Tryz.laysCln t w (by omega));go_enter func136,ntmps136
  go_wp2_with fail
  refine (uh C).mono ?_;rintro e w1 ⟨rfl,hb⟩;go_wp2
  go_ret
  exact ⟨rfl,hb⟩
theorem sameOpt (k:Int) (t:ByteArray) (w:World) (ht:t.size≤20):Calls prog 115 #[.agg #[.int .i64 k,.string t]] w fun e w'=>e=.returned (.agg #[.int .i64 k,.string t])∧Below w.heap.size w w':=by
  obtain ⟨hs,q0,q1,hb0⟩:=start2r w (.cells #[.int .i64 k,.string t] 116) (.cells #[.int .i64 0,.string ⟨#[]⟩] 116);have HQ:=hide (And.intro hs (And.intro q0 (And.intro q1 hb0)));have C:=hide fun v=>strClone t v ht
  clear hs q0 q1 hb0;go_enter func115,ntmps115
  go_wp2_with fail
  refine gen_world (fun q=>q.heap.size=w.heap.size+1+1∧q.heap[w.heap.size]?=some (.cells #[.int .i64 k,.string t] 116)∧q.heap[w.heap.size+1]?=some (.cells #[.int .i64 0,.string ⟨#[]⟩] 116)∧Below w.heap.size w q) (uh HQ) ?_;rintro q ⟨hs,h0,h1,hb⟩;obtain ⟨c0,c1,_,_⟩:=row2x h0;have HH:=hide (And.intro hs (And.intro h0 (And.intro h1 hb)));clear hs h0 h1 hb HQ
  go_region_with (first
    | (go_at_call 136;refine (uh C _).mono ?_;rintro e w3 ⟨rfl,hb3⟩
       have hz:q.heap.size=w.heap.size+1+1:=(uh HH).1;have hr3:=(hb3.block w.heap.size (by show w.heap.size<q.heap.size;omega)).trans (uh HH).2.1;have ho3:=(hb3.block (w.heap.size+1) (by show w.heap.size+1<q.heap.size;omega)).trans (uh HH).2.2.1;obtain ⟨k0,k1,_,_⟩:=row2x hr3;obtain ⟨o0,o1,p0,p1⟩:=row2x ho3;have hbb:Below w.heap.size w w3:=(uh HH).2.2.2.trans ((show Below q.heap.size q w3 from ⟨hb3.os,hb3.tape,hb3.output,hb3.size,hb3.block⟩).mono (by omega));have HX:=hide (And.intro ho3 hbb);clear hr3 ho3 hb3 hbb hz))
  all_goals
    go_wp2
    refine bodyPost_ret (v:=.agg #[.int .i64 k,.string t]) (by simp [results,results115,asAddr,load2 (set2_at (uh HX).1 (.int .i64 k) (.string t))]) rfl ⟨rfl,?_⟩;exact ((uh HX).2.setCell (p:=⟨w.heap.size+1,0,none⟩) (Nat.le_succ _) _).setCell (p:=⟨w.heap.size+1,1,none⟩) (Nat.le_succ _) _
end Go.Proofs.YtahpjlbaagkdoaaGreatDoor
