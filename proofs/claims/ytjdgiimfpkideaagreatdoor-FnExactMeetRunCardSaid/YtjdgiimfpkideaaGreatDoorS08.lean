/- EndOk -/
import Derived.Test.YtjdgiimfpkideaaGreatDoorS05
import Derived.Test.YtjdgiimfpkideaaGreatDoorS06
import Derived.Test.YtjdgiimfpkideaaGreatDoorS07
set_option maxHeartbeats 8000000
set_option maxRecDepth 100000
namespace Go.Proofs.YtjdgiimfpkideaaGreatDoor
open Go.RowKit Go.Proofs.Tryz
def cC (F:List Op.Opt):Bool:=Op.right F && decide ((Op.bytes F).length≤250)
def gj (st:Int):Bool:=decide (4≤st) && decide (st≤8)
def dQ (m a:Int) (p c d:Bool) (x:Ln):Bool:=m == (x.m:Int) && (a == (x.a:Int) && (p == x.p && (c == x.c && d == x.d)))
def dJ (e:En) (F1 F2:List Op.Opt):Bool :=
 aK e.m1 e.a1 e.g1 && (aK e.m2 e.a2 e.g2 && (al 0 9 e.st && (al 0 5 e.tr && ((decide (0≤e.id) && decide (e.id≤255)) && (al 0 3 e.fl && (cC F1 && (cC F2 &&
  ((if gj e.st=true then al 0 1000000003 e.du else e.du == -1) && ((e.up == (e.st == 9)) &&
   (if e.up=true then dQ e.i1 e.i2 e.i3 e.i4 e.i5 (bc F1) && dQ e.o1 e.o2 e.o3 e.o4 e.o5 (bc F2) else dQ e.i1 e.i2 e.i3 e.i4 e.i5 ⟨0,0,false,false,false⟩ && dQ e.o1 e.o2 e.o3 e.o4 e.o5 ⟨0,0,false,false,false⟩))))))))))
theorem lv (st:Int) (w:World):Calls prog 73 #[.int .i64 st] w fun e w'=>e=.returned (.bool (gj st))∧w'=w:=by
 unfold gj;by_cases h1:4≤st
 ·rw [decide_eq_true h1,Bool.true_and];go_enter func73,ntmps73
  go_wp2
  go_ret
  exact ⟨rfl,rfl⟩
 ·rw [decide_eq_false h1,Bool.false_and];go_enter func73,ntmps73
  go_wp2
  go_ret
  exact ⟨rfl,rfl⟩
theorem fJ (v:Value) (F:List Op.Opt) (w:World) (hr:Op.right F=true) (h:HoldsO w v F):Calls prog 76 #[v] w fun e w'=>e=.returned (.string (co (Op.bytes F)))∧Below w.heap.size w w':=by
 rcases h with ⟨ad,cp,rfl,rfl⟩ | ⟨g,cp,cur,rfl,h1,h2,h3⟩
 ·exact r_ ad cp w
 ·exact sd g cp F cur w hr h1 h3
theorem lx (v:Value) (F:List Op.Opt) (w:World) (hm:F.length≤maxLen) (h:HoldsO w v F):Calls prog 95 #[v] w fun e w'=>e=.returned (.bool (cC F))∧Below w.heap.size w w':=by
 have C1:=aa fun W (hb:Below w.heap.size w W)=>cz v F W hm (h.below hb rfl)
 unfold cC;cases hr:Op.right F
 ·rw [Bool.false_and];rw [hr] at C1;obtain ⟨ad,cp,rfl⟩:=h.form;clear h;go_enter func95,ntmps95
  go_wp2_with fail
  refine (uh C1 _ (zC _ _)).mono ?_;rintro e w1 ⟨rfl,hb1⟩;go_wp2
  go_ret
  exact ⟨rfl,hb1⟩
 ·rw [Bool.true_and];rw [hr] at C1;have C2:=aa fun W (hb:Below w.heap.size w W)=>fJ v F W hr (h.below hb rfl)
  obtain ⟨ad,cp,rfl⟩:=h.form;have hsz:(co (Op.bytes F)).size=(Op.bytes F).length:=by unfold co;show (Op.bytes F).toArray.size=_;simp
  clear h;generalize co (Op.bytes F)=tb at *;rw [← hsz];clear hsz;go_enter func95,ntmps95
  go_wp2_with fail
  refine (uh C1 _ (zC _ _)).mono ?_;rintro e w1 ⟨rfl,hb1⟩;go_wp2_with fail
  refine (uh C2 _ hb1).mono ?_;rintro e w2 ⟨rfl,hb2⟩;go_wp2
  go_ret
  exact ⟨congrArg (fun b=>Ending.returned (.bool b)) (decide_eq_decide.2 (by omega)),hb1.trans (hb2.mono hb1.size)⟩
def yd:Prop:=(∀ (m a m' a':Int) (p c d p' c' d':Bool) (W:World),(binOp .eql 30 (.agg #[.int .i64 m,.int .i64 a,.bool p,.bool c,.bool d]) (.agg #[.int .i64 m',.int .i64 a',.bool p',.bool c',.bool d'])).run prog W=.ok (.bool (m == m' && (a == a' && (p == p' && (c == c' && d == d'))))) W) ∧
 ∀ (x y:Operand) (xs ys:Array Value) (W:World),(eqGuard .eql 30 x y (.agg xs) (.agg ys)).run prog W=.ok () W
theorem iq (e:En) (x1 x2:Option Addr) (y1 y2:Nat) (F1 F2:List Op.Opt) (w:World) (l1:F1.length≤maxLen) (l2:F2.length≤maxLen) (h1:HoldsO w (.slice x1 F1.length y1) F1) (h2:HoldsO w (.slice x2 F2.length y2) F2) (hEq:yd) :
  Calls prog 69 #[.agg (aA e (.slice x1 F1.length y1) (.slice x2 F2.length y2))] w fun r w'=>r=.returned (.bool (dJ e F1 F2))∧Below w.heap.size w w':=by
 have HEQ:=aa hEq;clear hEq;have C7:=aa fun W (hb:Below w.heap.size w W)=>lx _ F1 W l1 (h1.below hb rfl)
 have C8:=aa fun W (hb:Below w.heap.size w W)=>lx _ F2 W l2 (h2.below hb rfl)
 have CL1:=aa fun W (hb:Below w.heap.size w W)=>gy _ F1 W l1 (h1.below hb rfl)
 have CL2:=aa fun W (hb:Below w.heap.size w W)=>gy _ F2 W l2 (h2.below hb rfl)
 obtain ⟨m1,a1,g1,p1,c1,d1,m2,a2,g2,p2,c2,d2,st,tr,du,id,fl,up,i1,i2,i3,i4,i5,o1,o2,o3,o4,o5⟩:=e;have hA:=zF w (.cells (aA ⟨m1,a1,g1,p1,c1,d1,m2,a2,g2,p2,c2,d2,st,tr,du,id,fl,up,i1,i2,i3,i4,i5,o1,o2,o3,o4,o5⟩ (.slice x1 F1.length y1) (.slice x2 F2.length y2)) 32);have hbA:Below w.heap.size w (w.alloc (.cells (aA ⟨m1,a1,g1,p1,c1,d1,m2,a2,g2,p2,c2,d2,st,tr,du,id,fl,up,i1,i2,i3,i4,i5,o1,o2,o3,o4,o5⟩ (.slice x1 F1.length y1) (.slice x2 F2.length y2)) 32)):=(zC _ _).alloc (zD _) _;have CC1:=aa fun W=>dO m1 a1 g1 p1 c1 d1 W
 have CC2:=aa fun W=>dO m2 a2 g2 p2 c2 d2 W
 have CI1:=aa fun W=>dl st 0 9 W
 have CI2:=aa fun W=>dl tr 0 5 W
 have CI3:=aa fun W=>jh id W
 have CI4:=aa fun W=>dl fl 0 3 W
 have CR:=aa fun W=>lv st W
 have CD:=aa fun W=>dl du 0 1000000003 W
 obtain ⟨R,hR⟩:∃ R,dJ ⟨m1,a1,g1,p1,c1,d1,m2,a2,g2,p2,c2,d2,st,tr,du,id,fl,up,i1,i2,i3,i4,i5,o1,o2,o3,o4,o5⟩ F1 F2=R:=⟨_,rfl⟩;rw [hR];unfold dJ at hR;dsimp only at hR;unfold aA at hA hbA ⊢;dsimp only at hA hbA ⊢;generalize aK m1 a1 g1=b1 at *;generalize aK m2 a2 g2=b2 at *;generalize al 0 9 st=b3 at *;generalize al 0 5 tr=b4 at *;generalize (decide (0≤id) && decide (id≤255))=b5 at *;generalize al 0 3 fl=b6 at *;generalize cC F1=b7 at *;generalize cC F2=b8 at *;have HLF:=aa (zA (rfl:bc F1=bc F1) (rfl:bc F2=bc F2));generalize bc F1=L1 at *;generalize bc F2=L2 at *;have HR:=aa hR;have HA:=aa (zA hA hbA);clear hA hbA h1 h2 l1 l2 hR HLF;generalize F1.length=n1 at *;generalize F2.length=n2 at *;go_enter func69,ntmps69
 go_wp2_with fail
 refine (uh CC1 _).mono ?_;rintro r w1 ⟨rfl,hb1⟩;have hr1:=(hb1.block w.heap.size (ge.1 (uh HA).1).1).trans (uh HA).1;have hB1:=(uh HA).2.trans (hb1.mono (uh HA).2.size);have c6:w1.cell? ⟨w.heap.size,6,none⟩=some (.int .i64 m2):=by rw [cr hr1];rfl
 have c7:w1.cell? ⟨w.heap.size,7,none⟩=some (.int .i64 a2):=by rw [cr hr1];rfl
 have c8:w1.cell? ⟨w.heap.size,8,none⟩=some (.int .i64 g2):=by rw [cr hr1];rfl
 have c9:w1.cell? ⟨w.heap.size,9,none⟩=some (.bool p2):=by rw [cr hr1];rfl
 have c10:w1.cell? ⟨w.heap.size,10,none⟩=some (.bool c2):=by rw [cr hr1];rfl
 have c11:w1.cell? ⟨w.heap.size,11,none⟩=some (.bool d2):=by rw [cr hr1];rfl
 have H1:=aa (zA hr1 hB1);clear hr1 hB1 hb1 HA;cases b1
 ·rw [Bool.false_and] at HR;have e:=uh HR;subst e;clear HR;go_wp2
  go_ret
  exact ⟨rfl,(uh H1).2⟩
 rw [Bool.true_and] at HR;go_wp2_with fail
 clear c6 c7 c8 c9 c10 c11;refine (uh CC2 _).mono ?_;rintro r w2 ⟨rfl,hb2⟩;have hr2:=(hb2.block w.heap.size (ge.1 (uh H1).1).1).trans (uh H1).1;have hB2:=(uh H1).2.trans (hb2.mono (uh H1).2.size);have c12:w2.cell? ⟨w.heap.size,12,none⟩=some (.int .i64 st):=by rw [cr hr2];rfl
 have c13:w2.cell? ⟨w.heap.size,13,none⟩=some (.int .i64 tr):=by rw [cr hr2];rfl
 have c15:w2.cell? ⟨w.heap.size,15,none⟩=some (.int .i64 id):=by rw [cr hr2];rfl
 have c16:w2.cell? ⟨w.heap.size,16,none⟩=some (.int .i64 fl):=by rw [cr hr2];rfl
 have c17:w2.cell? ⟨w.heap.size,17,none⟩=some (.slice x1 n1 y1):=by rw [cr hr2];rfl
 have H2:=aa (zA hr2 hB2);clear hr2 hB2 hb2 H1;cases b2
 ·rw [Bool.false_and] at HR;have e:=uh HR;subst e;clear HR;go_wp2
  go_ret
  exact ⟨rfl,(uh H2).2⟩
 rw [Bool.true_and] at HR;go_wp2_with fail
 refine (uh CI1 _).mono ?_;rintro r ws3 ⟨rfl,hws⟩;replace hws:=hws.symm;subst hws;cases b3
 ·rw [Bool.false_and] at HR;have e:=uh HR;subst e;clear HR;go_wp2
  go_ret
  exact ⟨rfl,(uh H2).2⟩
 rw [Bool.true_and] at HR;go_wp2_with fail
 refine (uh CI2 _).mono ?_;rintro r ws4 ⟨rfl,hws⟩;replace hws:=hws.symm;subst hws;cases b4
 ·rw [Bool.false_and] at HR;have e:=uh HR;subst e;clear HR;go_wp2
  go_ret
  exact ⟨rfl,(uh H2).2⟩
 rw [Bool.true_and] at HR;go_wp2_with fail
 refine (uh CI3 _).mono ?_;rintro r ws5 ⟨rfl,hws⟩;replace hws:=hws.symm;subst hws;cases b5
 ·rw [Bool.false_and] at HR;have e:=uh HR;subst e;clear HR;go_wp2
  go_ret
  exact ⟨rfl,(uh H2).2⟩
 rw [Bool.true_and] at HR;go_wp2_with fail
 refine (uh CI4 _).mono ?_;rintro r ws6 ⟨rfl,hws⟩;replace hws:=hws.symm;subst hws;cases b6
 ·rw [Bool.false_and] at HR;have e:=uh HR;subst e;clear HR;go_wp2
  go_ret
  exact ⟨rfl,(uh H2).2⟩
 rw [Bool.true_and] at HR;go_wp2_with fail
 clear c12 c13 c15 c16 c17;clear CC1 CC2 CI1 CI2 CI3 CI4;refine (uh C7 _ (uh H2).2).mono ?_;rintro r w7 ⟨rfl,hb7⟩;have hr7:=(hb7.block w.heap.size (ge.1 (uh H2).1).1).trans (uh H2).1;have hB7:=(uh H2).2.trans (hb7.mono (uh H2).2.size);have c18:w7.cell? ⟨w.heap.size,18,none⟩=some (.slice x2 n2 y2):=by rw [cr hr7];rfl
 have H7:=aa (zA hr7 hB7);clear hr7 hB7 hb7 H2;cases b7
 ·rw [Bool.false_and] at HR;have e:=uh HR;subst e;clear HR;go_wp2
  go_ret
  exact ⟨rfl,(uh H7).2⟩
 rw [Bool.true_and] at HR;go_wp2_with fail
 clear c18;refine (uh C8 _ (uh H7).2).mono ?_;rintro r w8 ⟨rfl,hb8⟩;have hr8:=(hb8.block w.heap.size (ge.1 (uh H7).1).1).trans (uh H7).1;have hB8:=(uh H7).2.trans (hb8.mono (uh H7).2.size);have c12:w8.cell? ⟨w.heap.size,12,none⟩=some (.int .i64 st):=by rw [cr hr8];rfl
 have c14:w8.cell? ⟨w.heap.size,14,none⟩=some (.int .i64 du):=by rw [cr hr8];rfl
 have c19:w8.cell? ⟨w.heap.size,19,none⟩=some (.bool up):=by rw [cr hr8];rfl
 have H8:=aa (zA hr8 hB8);clear hr8 hB8 hb8 H7;cases b8
 ·rw [Bool.false_and] at HR;have e:=uh HR;subst e;clear HR;go_wp2
  go_ret
  exact ⟨rfl,(uh H8).2⟩
 rw [Bool.true_and] at HR;go_upto_region 3 with fail
 obtain ⟨G,hG⟩:∃ G,(if gj st=true then al 0 1000000003 du else du == -1)=G:=⟨_,rfl⟩;rw [hG] at HR;have HG:=aa hG;clear hG;go_cut [76] (fun v wx=>v=.bool (!(G && (up == (st == 9))))∧wx.heap[w.heap.size]?=some (.cells #[.int .i64 m1,.int .i64 a1,.int .i64 g1,.bool p1,.bool c1,.bool d1,.int .i64 m2,.int .i64 a2,.int .i64 g2,.bool p2,.bool c2,.bool d2,.int .i64 st,.int .i64 tr,.int .i64 du,.int .i64 id,.int .i64 fl,.slice x1 n1 y1,.slice x2 n2 y2,.bool up,.int .i64 i1,.int .i64 i2,.bool i3,.bool i4,.bool i5,.int .i64 o1,.int .i64 o2,.bool o3,.bool o4,.bool o5] 32)∧Below w.heap.size w wx)
 case first =>
  clear HR C7 C8 CL1 CL2;go_wp2_with fail
  refine (uh CR _).mono ?_;rintro r ws ⟨rfl,hws⟩;replace hws:=hws.symm;subst hws;cases hrr:gj st
  ·rw [hrr,if_neg (by decide)] at HG;rw [hrr] at CR;go_wp2_with fail
   refine (uh CR _).mono ?_;rintro r ws ⟨rfl,hws⟩;replace hws:=hws.symm;subst hws;cases hd:(du == -1)
   ·have hd2:(du != -1)=true:=by unfold bne;rw [hd];rfl
    rw [hd] at HG;have e:=uh HG;subst e;go_wp2_with fail
    go_meet;exact ⟨rfl,uh H8⟩
   ·have hd2:(du != -1)=false:=by unfold bne;rw [hd];rfl
    rw [hd] at HG;have e:=uh HG;subst e;go_wp2_with fail
    go_meet;exact ⟨by rw [Bool.true_and],uh H8⟩
  ·rw [hrr,if_pos rfl] at HG;rw [hrr] at CR;rw [uh HG] at CD;go_wp2_with fail
   refine (uh CD _).mono ?_;rintro r ws ⟨rfl,hws⟩;replace hws:=hws.symm;subst hws;cases G
   ·go_wp2_with fail
    go_meet;exact ⟨rfl,uh H8⟩
   ·go_wp2_with fail
    refine (uh CR _).mono ?_;rintro r ws ⟨rfl,hws⟩;replace hws:=hws.symm;subst hws;go_wp2_with fail
    go_meet;exact ⟨by rw [Bool.true_and],uh H8⟩
 case rest =>
  obtain ⟨hu76,hr9,hB9⟩:=hcut;subst hu76;clear H8 HG CR CD c12 c14 c19;have c17:wc.cell? ⟨w.heap.size,17,none⟩=some (.slice x1 n1 y1):=by rw [cr hr9];rfl
  have c18:wc.cell? ⟨w.heap.size,18,none⟩=some (.slice x2 n2 y2):=by rw [cr hr9];rfl
  have c19:wc.cell? ⟨w.heap.size,19,none⟩=some (.bool up):=by rw [cr hr9];rfl
  have c20:wc.cell? ⟨w.heap.size,20,none⟩=some (.int .i64 i1):=by rw [cr hr9];rfl
  have c21:wc.cell? ⟨w.heap.size,21,none⟩=some (.int .i64 i2):=by rw [cr hr9];rfl
  have c22:wc.cell? ⟨w.heap.size,22,none⟩=some (.bool i3):=by rw [cr hr9];rfl
  have c23:wc.cell? ⟨w.heap.size,23,none⟩=some (.bool i4):=by rw [cr hr9];rfl
  have c24:wc.cell? ⟨w.heap.size,24,none⟩=some (.bool i5):=by rw [cr hr9];rfl
  have c25:wc.cell? ⟨w.heap.size,25,none⟩=some (.int .i64 o1):=by rw [cr hr9];rfl
  have c26:wc.cell? ⟨w.heap.size,26,none⟩=some (.int .i64 o2):=by rw [cr hr9];rfl
  have c27:wc.cell? ⟨w.heap.size,27,none⟩=some (.bool o3):=by rw [cr hr9];rfl
  have c28:wc.cell? ⟨w.heap.size,28,none⟩=some (.bool o4):=by rw [cr hr9];rfl
  have c29:wc.cell? ⟨w.heap.size,29,none⟩=some (.bool o5):=by rw [cr hr9];rfl
  have H9:=aa (zA hr9 hB9);clear hr9 hB9;cases G
  ·rw [Bool.false_and] at HR ⊢;have e:=uh HR;subst e;clear HR;go_wp2
   go_ret
   exact ⟨rfl,(uh H9).2⟩
  rw [Bool.true_and] at HR ⊢;cases hup:(up == (st == 9))
  ·rw [hup,Bool.false_and] at HR;have e:=uh HR;subst e;clear HR;go_wp2
   go_ret
   exact ⟨rfl,(uh H9).2⟩
  rw [hup,Bool.true_and] at HR;clear hup;have hlA:w.heap.size<wc.heap.size:=(ge.1 (uh H9).1).1;cases up
  ·rw [if_neg (by decide)] at HR;have q1:∀ W,(binOp .eql 30 (.agg #[.int .i64 i1,.int .i64 i2,.bool i3,.bool i4,.bool i5]) (.agg #[.int .i64 0,.int .i64 0,.bool false,.bool false,.bool false])).run prog W=.ok (.bool (dQ i1 i2 i3 i4 i5 ⟨0,0,false,false,false⟩)) W:=fun W=>(uh HEQ).1 i1 i2 0 0 i3 i4 i5 false false false W
   have q2:∀ W,(binOp .eql 30 (.agg #[.int .i64 o1,.int .i64 o2,.bool o3,.bool o4,.bool o5]) (.agg #[.int .i64 0,.int .i64 0,.bool false,.bool false,.bool false])).run prog W=.ok (.bool (dQ o1 o2 o3 o4 o5 ⟨0,0,false,false,false⟩)) W:=fun W=>(uh HEQ).1 o1 o2 0 0 o3 o4 o5 false false false W
   have q3:=(uh HEQ).2;clear CL1 CL2 HEQ;generalize dQ i1 i2 i3 i4 i5 ⟨0,0,false,false,false⟩=bi at *;generalize dQ o1 o2 o3 o4 o5 ⟨0,0,false,false,false⟩=bo at *;cases bi
   ·rw [Bool.false_and] at HR;have e:=uh HR;subst e;clear HR;go_wp2
    go_ret
    exact ⟨rfl,(uh H9).2⟩
   ·rw [Bool.true_and] at HR;have e:=uh HR;subst e;clear HR;go_wp2
    go_ret
    exact ⟨rfl,(uh H9).2⟩
  ·rw [if_pos rfl] at HR;have q1:∀ W,(binOp .eql 30 (.agg #[.int .i64 i1,.int .i64 i2,.bool i3,.bool i4,.bool i5]) (.agg (gR L1))).run prog W=.ok (.bool (dQ i1 i2 i3 i4 i5 L1)) W:=fun W=>(uh HEQ).1 i1 i2 L1.m L1.a i3 i4 i5 L1.p L1.c L1.d W
   have q2:∀ W,(binOp .eql 30 (.agg #[.int .i64 o1,.int .i64 o2,.bool o3,.bool o4,.bool o5]) (.agg (gR L2))).run prog W=.ok (.bool (dQ o1 o2 o3 o4 o5 L2)) W:=fun W=>(uh HEQ).1 o1 o2 L2.m L2.a o3 o4 o5 L2.p L2.c L2.d W
   have q3:=(uh HEQ).2;clear HEQ;generalize dQ i1 i2 i3 i4 i5 L1=bi at *;generalize dQ o1 o2 o3 o4 o5 L2=bo at *;go_upto_region 6 with fail
   refine wp_region_held_drew (S:=fun z=>z.cell? ⟨w.heap.size,17,none⟩=some (.slice x1 n1 y1)∧z.cell? ⟨w.heap.size,18,none⟩=some (.slice x2 n2 y2)∧z.cell? ⟨w.heap.size,20,none⟩=some (.int .i64 i1)∧z.cell? ⟨w.heap.size,21,none⟩=some (.int .i64 i2)∧z.cell? ⟨w.heap.size,22,none⟩=some (.bool i3)∧z.cell? ⟨w.heap.size,23,none⟩=some (.bool i4)∧z.cell? ⟨w.heap.size,24,none⟩=some (.bool i5)∧z.cell? ⟨w.heap.size,25,none⟩=some (.int .i64 o1)∧z.cell? ⟨w.heap.size,26,none⟩=some (.int .i64 o2)∧z.cell? ⟨w.heap.size,27,none⟩=some (.bool o3)∧z.cell? ⟨w.heap.size,28,none⟩=some (.bool o4)∧z.cell? ⟨w.heap.size,29,none⟩=some (.bool o5)) (by kernel_rfl) ?_ (fun hHeld=>?_)
   ·exact ⟨c17,c18,c20,c21,c22,c23,c24,c25,c26,c27,c28,c29⟩
   cases bi
   ·rw [Bool.false_and] at HR;have e:=uh HR;subst e;clear HR;refine tq 0 1 2 3 ?_;refine r3 4 fun K hK=>?_
    go_simp;refine (uh CL1 _ ((uh H9).2.trans ((zC _ _).drew.mono (uh H9).2.size))).mono ?_;rintro r w10 ⟨rfl,hb⟩;have B10:Below wc.heap.size wc w10:=(zC _ _).drew.trans hb;clear hb;go_wp2_with fail
    refine hK.out _ _ ?_ (fun hHeld2=>?_)
    ·exact ⟨(B10.cell (p:=⟨w.heap.size,17,none⟩) hlA).trans c17,(B10.cell (p:=⟨w.heap.size,18,none⟩) hlA).trans c18,(B10.cell (p:=⟨w.heap.size,20,none⟩) hlA).trans c20,(B10.cell (p:=⟨w.heap.size,21,none⟩) hlA).trans c21,(B10.cell (p:=⟨w.heap.size,22,none⟩) hlA).trans c22,(B10.cell (p:=⟨w.heap.size,23,none⟩) hlA).trans c23,(B10.cell (p:=⟨w.heap.size,24,none⟩) hlA).trans c24,(B10.cell (p:=⟨w.heap.size,25,none⟩) hlA).trans c25,(B10.cell (p:=⟨w.heap.size,26,none⟩) hlA).trans c26,(B10.cell (p:=⟨w.heap.size,27,none⟩) hlA).trans c27,(B10.cell (p:=⟨w.heap.size,28,none⟩) hlA).trans c28,(B10.cell (p:=⟨w.heap.size,29,none⟩) hlA).trans c29⟩
    clear hK K;try simp only [Act.put,sA,sZ,sS,gA,gZ,gS]
    refine tt 5 6 ?_;refine t5 7 ?_;refine t5 8 ?_;refine t5 9 ?_;refine t5 10 ?_;refine t5 11 ?_;refine t5 12 ?_;refine tt 13 14 ?_;refine dn ?_ _;go_wp2
    go_ret
    exact ⟨rfl,(uh H9).2.trans (B10.mono (uh H9).2.size)⟩
   ·rw [Bool.true_and] at HR;have e:=uh HR;subst e;clear HR;refine tq 0 1 2 3 ?_;refine r3 4 fun K hK=>?_
    go_simp;refine (uh CL1 _ ((uh H9).2.trans ((zC _ _).drew.mono (uh H9).2.size))).mono ?_;rintro r w10 ⟨rfl,hb⟩;have B10:Below wc.heap.size wc w10:=(zC _ _).drew.trans hb;clear hb;go_wp2_with fail
    refine hK.out _ _ ?_ (fun hHeld2=>?_)
    ·exact ⟨(B10.cell (p:=⟨w.heap.size,17,none⟩) hlA).trans c17,(B10.cell (p:=⟨w.heap.size,18,none⟩) hlA).trans c18,(B10.cell (p:=⟨w.heap.size,20,none⟩) hlA).trans c20,(B10.cell (p:=⟨w.heap.size,21,none⟩) hlA).trans c21,(B10.cell (p:=⟨w.heap.size,22,none⟩) hlA).trans c22,(B10.cell (p:=⟨w.heap.size,23,none⟩) hlA).trans c23,(B10.cell (p:=⟨w.heap.size,24,none⟩) hlA).trans c24,(B10.cell (p:=⟨w.heap.size,25,none⟩) hlA).trans c25,(B10.cell (p:=⟨w.heap.size,26,none⟩) hlA).trans c26,(B10.cell (p:=⟨w.heap.size,27,none⟩) hlA).trans c27,(B10.cell (p:=⟨w.heap.size,28,none⟩) hlA).trans c28,(B10.cell (p:=⟨w.heap.size,29,none⟩) hlA).trans c29⟩
    clear hK K;try simp only [Act.put,sA,sZ,sS,gA,gZ,gS]
    refine tq 5 6 7 8 ?_;refine tt 9 10 ?_;refine r3 11 fun K hK=>?_
    go_simp;refine (uh CL2 _ ((uh H9).2.trans (B10.mono (uh H9).2.size))).mono ?_;rintro r w11 ⟨rfl,hb⟩;have B11:Below wc.heap.size wc w11:=B10.trans (hb.mono B10.size);clear hb;go_wp2_with fail
    refine hK.out _ _ ?_ (fun hHeld3=>?_)
    ·exact ⟨(B11.cell (p:=⟨w.heap.size,17,none⟩) hlA).trans c17,(B11.cell (p:=⟨w.heap.size,18,none⟩) hlA).trans c18,(B11.cell (p:=⟨w.heap.size,20,none⟩) hlA).trans c20,(B11.cell (p:=⟨w.heap.size,21,none⟩) hlA).trans c21,(B11.cell (p:=⟨w.heap.size,22,none⟩) hlA).trans c22,(B11.cell (p:=⟨w.heap.size,23,none⟩) hlA).trans c23,(B11.cell (p:=⟨w.heap.size,24,none⟩) hlA).trans c24,(B11.cell (p:=⟨w.heap.size,25,none⟩) hlA).trans c25,(B11.cell (p:=⟨w.heap.size,26,none⟩) hlA).trans c26,(B11.cell (p:=⟨w.heap.size,27,none⟩) hlA).trans c27,(B11.cell (p:=⟨w.heap.size,28,none⟩) hlA).trans c28,(B11.cell (p:=⟨w.heap.size,29,none⟩) hlA).trans c29⟩
    clear hK K;try simp only [Act.put,sA,sZ,sS,gA,gZ,gS]
    refine tt 12 13 ?_;refine t2 14 ?_;refine dn ?_ _;go_wp2
    go_ret
    exact ⟨rfl,(uh H9).2.trans (B11.mono (uh H9).2.size)⟩
end Go.Proofs.YtjdgiimfpkideaaGreatDoor
