/- EndRi WkJ WkF -/
import Derived.Test.YtahpjlbaagkdoaaGreatDoorS10
set_option maxHeartbeats 8000000
set_option maxRecDepth 100000
namespace Go.Proofs.YtahpjlbaagkdoaaGreatDoor
open Go.RowKit Go.Proofs.Tryz
theorem implWithin (x lo hi:Int) (w:World):Calls prog 78 #[.int .i64 x,.int .i64 lo,.int .i64 hi] w fun e w'=>e=.returned (.bool (within lo hi x))∧w'=w:=by
 unfold within;by_cases h1:lo≤x
 ·rw [decide_eq_true h1,Bool.true_and];go_enter func78,ntmps78
  go_wp2
  go_ret
  exact ⟨rfl,rfl⟩
 ·rw [decide_eq_false h1,Bool.false_and];go_enter func78,ntmps78
  go_wp2
  go_ret
  exact ⟨rfl,rfl⟩
theorem implWaits (B:Nat) (st:Int) (w:World) (c12:w.cell? ⟨B,12,none⟩=some (.int .i64 st)):Calls prog 111 #[.pointer (some ⟨B,0,none⟩)] w fun e w'=>e=.returned (.bool (runs st))∧w'=w:=by
 have C:=hide (implWithin st 4 8 w);have e:runs st=within 4 8 st:=rfl;rw [e];go_enter func111,ntmps111
 go_wp2_with fail
 refine (uh C).mono ?_;rintro r ws ⟨rfl,hws⟩;replace hws:=hws.symm;subst hws;go_wp2
 go_ret
 exact ⟨rfl,rfl⟩
theorem implDue (B:Nat) (st du:Int) (w:World) (c12:w.cell? ⟨B,12,none⟩=some (.int .i64 st)) (c14:w.cell? ⟨B,14,none⟩=some (.int .i64 du)):Calls prog 79 #[.pointer (some ⟨B,0,none⟩)] w fun e w'=>e=.returned (.bool (if runs st=true then within 0 1000000003 du else du == -1))∧w'=w:=by
 have C:=hide (implWaits B st w c12);have CD:=hide (implWithin du 0 1000000003 w);cases hr:runs st
 ·rw [hr] at C;rw [if_neg (by decide)];go_enter func79,ntmps79
  go_wp2_with fail
  refine (uh C).mono ?_;rintro r ws ⟨rfl,hws⟩;replace hws:=hws.symm;subst hws;go_wp2
  go_ret
  exact ⟨rfl,rfl⟩
 ·rw [hr] at C;rw [if_pos rfl];go_enter func79,ntmps79
  go_wp2_with fail
  refine (uh C).mono ?_;rintro r ws ⟨rfl,hws⟩;replace hws:=hws.symm;subst hws;go_wp2_with fail
  refine (uh CD).mono ?_;rintro r ws ⟨rfl,hws⟩;replace hws:=hws.symm;subst hws;go_wp2
  go_ret
  exact ⟨rfl,rfl⟩
theorem implFits (v:Value) (F:List Op.Opt) (w:World) (hm:F.length≤maxLen) (h:HoldsO w v F):Calls prog 81 #[v] w fun e w'=>e=.returned (.bool (opOk F))∧Below w.heap.size w w':=by
 have C1:=hide fun W (hb:Below w.heap.size w W)=>implRightAll v F W hm (h.below hb rfl)
 unfold opOk;cases hr:Op.right F
 ·rw [Bool.false_and];rw [hr] at C1;obtain ⟨ad,cp,rfl⟩:=h.form;clear h;go_enter func81,ntmps81
  go_wp2_with fail
  refine (uh C1 _ (Below.refl _ _)).mono ?_;rintro e w1 ⟨rfl,hb1⟩;go_wp2
  go_ret
  exact ⟨rfl,hb1⟩
 ·rw [Bool.true_and];rw [hr] at C1;have C2:=hide fun W (hb:Below w.heap.size w W)=>implBytesAll v F W hm (h.below hb rfl)
  rw [otV_yes hr] at C2;obtain ⟨ad,cp,rfl⟩:=h.form;have hsz:(txt (Op.bytes F)).size=(Op.bytes F).length:=by unfold txt;show (Op.bytes F).toArray.size=_;simp
  clear h;generalize txt (Op.bytes F)=tb at *;rw [← hsz];go_enter func81,ntmps81
  go_wp2_with fail
  refine (uh C1 _ (Below.refl _ _)).mono ?_;rintro e w1 ⟨rfl,hb1⟩;go_wp2_with fail
  refine (uh C2 _ hb1).mono ?_;rintro e w2 ⟨rfl,hb2⟩;go_wp2
  go_ret
  exact ⟨congrArg (fun b=>Ending.returned (.bool b)) (decide_eq_decide.2 (by omega)),hb1.trans (hb2.mono hb1.size)⟩
def linesOk (e:En) (F1 F2:List Op.Opt):Bool:=(e.up == (e.st == 9)) && (if e.up=true then lnIs e.i1 e.i2 e.i3 e.i4 e.i5 (lineOf F1) && lnIs e.o1 e.o2 e.o3 e.o4 e.o5 (lineOf F2) else lnIs e.i1 e.i2 e.i3 e.i4 e.i5 ⟨0,0,false,false,false⟩ && lnIs e.o1 e.o2 e.o3 e.o4 e.o5 ⟨0,0,false,false,false⟩)
theorem implLines_of (e:En) (B:Nat) (x1 x2:Option Addr) (y1 y2:Nat) (F1 F2:List Op.Opt) (w:World) (l1:F1.length≤maxLen) (l2:F2.length≤maxLen) (h1:HoldsO w (.slice x1 F1.length y1) F1) (h2:HoldsO w (.slice x2 F2.length y2) F2)
  (hB:w.heap[B]?=some (.cells (enC e (.slice x1 F1.length y1) (.slice x2 F2.length y2)) 29)) (hEq:EqL) :
  Calls prog 82 #[.pointer (some ⟨B,0,none⟩)] w fun r w'=>r=.returned (.bool (linesOk e F1 F2))∧Below w.heap.size w w':=by
 have HEQ:=hide hEq;clear hEq;have CL1:=hide fun W (hb:Below w.heap.size w W)=>implLine _ F1 W l1 (h1.below hb rfl)
 have CL2:=hide fun W (hb:Below w.heap.size w W)=>implLine _ F2 W l2 (h2.below hb rfl)
 obtain ⟨m1,a1,g1,p1,c1,d1,m2,a2,g2,p2,c2,d2,st,tr,du,id,fl,up,i1,i2,i3,i4,i5,o1,o2,o3,o4,o5⟩:=e;obtain ⟨R,hR⟩:∃ R,linesOk ⟨m1,a1,g1,p1,c1,d1,m2,a2,g2,p2,c2,d2,st,tr,du,id,fl,up,i1,i2,i3,i4,i5,o1,o2,o3,o4,o5⟩ F1 F2=R:=⟨_,rfl⟩;rw [hR];unfold linesOk at hR;dsimp only at hR;unfold enC at hB;dsimp only at hB;generalize lineOf F1=L1 at *;generalize lineOf F2=L2 at *;have HR:=hide hR;clear h1 h2 l1 l2 hR;generalize F1.length=n1 at *;generalize F2.length=n2 at *;have hlA:B<w.heap.size:=(ge.1 hB).1;have c12:w.cell? ⟨B,12,none⟩=some (.int .i64 st):=by rw [cr hB];rfl
 have c17:w.cell? ⟨B,17,none⟩=some (.slice x1 n1 y1):=by rw [cr hB];rfl
 have c18:w.cell? ⟨B,18,none⟩=some (.slice x2 n2 y2):=by rw [cr hB];rfl
 have c19:w.cell? ⟨B,19,none⟩=some (.bool up):=by rw [cr hB];rfl
 have c20:w.cell? ⟨B,20,none⟩=some (.int .i64 i1):=by rw [cr hB];rfl
 have c21:w.cell? ⟨B,21,none⟩=some (.int .i64 i2):=by rw [cr hB];rfl
 have c22:w.cell? ⟨B,22,none⟩=some (.bool i3):=by rw [cr hB];rfl
 have c23:w.cell? ⟨B,23,none⟩=some (.bool i4):=by rw [cr hB];rfl
 have c24:w.cell? ⟨B,24,none⟩=some (.bool i5):=by rw [cr hB];rfl
 have c25:w.cell? ⟨B,25,none⟩=some (.int .i64 o1):=by rw [cr hB];rfl
 have c26:w.cell? ⟨B,26,none⟩=some (.int .i64 o2):=by rw [cr hB];rfl
 have c27:w.cell? ⟨B,27,none⟩=some (.bool o3):=by rw [cr hB];rfl
 have c28:w.cell? ⟨B,28,none⟩=some (.bool o4):=by rw [cr hB];rfl
 have c29:w.cell? ⟨B,29,none⟩=some (.bool o5):=by rw [cr hB];rfl
 have HB:=hide hB;clear hB;cases hup:(up == (st == 9))
 ·rw [hup,Bool.false_and] at HR;have e:=uh HR;subst e;clear HR;have hn:(up != (st == 9))=true:=by unfold bne;rw [hup];rfl
  go_enter func82,ntmps82
  go_upto_region 1 with fail
  go_quiet (fail)
  go_wp2
  go_ret
  exact ⟨rfl,below_drewN (Below.refl _ _) _⟩
 have hn:(up != (st == 9))=false:=by unfold bne;rw [hup];rfl
 rw [hup,Bool.true_and] at HR;go_enter func82,ntmps82
 go_upto_region 1 with fail
 go_quiet (fail)
 go_upto_region 3 with fail
 clear c12 c17 c18 c19 c20 c21 c22 c23 c24 c25 c26 c27 c28 c29;refine gen_world (fun q=>q.heap[B]?=some (.cells #[.int .i64 m1,.int .i64 a1,.int .i64 g1,.bool p1,.bool c1,.bool d1,.int .i64 m2,.int .i64 a2,.int .i64 g2,.bool p2,.bool c2,.bool d2,.int .i64 st,.int .i64 tr,.int .i64 du,.int .i64 id,.int .i64 fl,.slice x1 n1 y1,.slice x2 n2 y2,.bool up,.int .i64 i1,.int .i64 i2,.bool i3,.bool i4,.bool i5,.int .i64 o1,.int .i64 o2,.bool o3,.bool o4,.bool o5] 29)∧Below w.heap.size w q) ?_ ?_
 ·exact ⟨uh HB,below_drewN (Below.refl _ _) _⟩
 rintro q ⟨hq,hbq⟩;have hlq:B<q.heap.size:=(ge.1 hq).1;have c17:q.cell? ⟨B,17,none⟩=some (.slice x1 n1 y1):=by rw [cr hq];rfl
 have c18:q.cell? ⟨B,18,none⟩=some (.slice x2 n2 y2):=by rw [cr hq];rfl
 have c19:q.cell? ⟨B,19,none⟩=some (.bool up):=by rw [cr hq];rfl
 have c20:q.cell? ⟨B,20,none⟩=some (.int .i64 i1):=by rw [cr hq];rfl
 have c21:q.cell? ⟨B,21,none⟩=some (.int .i64 i2):=by rw [cr hq];rfl
 have c22:q.cell? ⟨B,22,none⟩=some (.bool i3):=by rw [cr hq];rfl
 have c23:q.cell? ⟨B,23,none⟩=some (.bool i4):=by rw [cr hq];rfl
 have c24:q.cell? ⟨B,24,none⟩=some (.bool i5):=by rw [cr hq];rfl
 have c25:q.cell? ⟨B,25,none⟩=some (.int .i64 o1):=by rw [cr hq];rfl
 have c26:q.cell? ⟨B,26,none⟩=some (.int .i64 o2):=by rw [cr hq];rfl
 have c27:q.cell? ⟨B,27,none⟩=some (.bool o3):=by rw [cr hq];rfl
 have c28:q.cell? ⟨B,28,none⟩=some (.bool o4):=by rw [cr hq];rfl
 have c29:q.cell? ⟨B,29,none⟩=some (.bool o5):=by rw [cr hq];rfl
 have HQ:=hide (And.intro hq hbq);clear hq hbq HB;cases up
 ·rw [if_neg (by decide)] at HR;have q1:∀ W,(binOp .eql 27 (.agg #[.int .i64 i1,.int .i64 i2,.bool i3,.bool i4,.bool i5]) (.agg #[.int .i64 0,.int .i64 0,.bool false,.bool false,.bool false])).run prog W=.ok (.bool (lnIs i1 i2 i3 i4 i5 ⟨0,0,false,false,false⟩)) W:=fun W=>(uh HEQ).1 i1 i2 0 0 i3 i4 i5 false false false W
  have q2:∀ W,(binOp .eql 27 (.agg #[.int .i64 o1,.int .i64 o2,.bool o3,.bool o4,.bool o5]) (.agg #[.int .i64 0,.int .i64 0,.bool false,.bool false,.bool false])).run prog W=.ok (.bool (lnIs o1 o2 o3 o4 o5 ⟨0,0,false,false,false⟩)) W:=fun W=>(uh HEQ).1 o1 o2 0 0 o3 o4 o5 false false false W
  have q3:=(uh HEQ).2;clear CL1 CL2 HEQ;generalize lnIs i1 i2 i3 i4 i5 ⟨0,0,false,false,false⟩=bi at *;generalize lnIs o1 o2 o3 o4 o5 ⟨0,0,false,false,false⟩=bo at *;cases bi
  ·rw [Bool.false_and] at HR;have e:=uh HR;subst e;clear HR;go_wp2
   go_ret
   exact ⟨rfl,(uh HQ).2⟩
  ·rw [Bool.true_and] at HR;have e:=uh HR;subst e;clear HR;go_wp2
   go_ret
   exact ⟨rfl,(uh HQ).2⟩
 ·rw [if_pos rfl] at HR;have q1:∀ W,(binOp .eql 27 (.agg #[.int .i64 i1,.int .i64 i2,.bool i3,.bool i4,.bool i5]) (.agg (lnC L1))).run prog W=.ok (.bool (lnIs i1 i2 i3 i4 i5 L1)) W:=fun W=>(uh HEQ).1 i1 i2 L1.m L1.a i3 i4 i5 L1.p L1.c L1.d W
  have q2:∀ W,(binOp .eql 27 (.agg #[.int .i64 o1,.int .i64 o2,.bool o3,.bool o4,.bool o5]) (.agg (lnC L2))).run prog W=.ok (.bool (lnIs o1 o2 o3 o4 o5 L2)) W:=fun W=>(uh HEQ).1 o1 o2 L2.m L2.a o3 o4 o5 L2.p L2.c L2.d W
  have q3:=(uh HEQ).2;clear HEQ;generalize lnIs i1 i2 i3 i4 i5 L1=bi at *;generalize lnIs o1 o2 o3 o4 o5 L2=bo at *;go_upto_region 4 with fail
  refine wp_region_held_drew (S:=fun z=>z.cell? ⟨B,17,none⟩=some (.slice x1 n1 y1)∧z.cell? ⟨B,18,none⟩=some (.slice x2 n2 y2)∧z.cell? ⟨B,20,none⟩=some (.int .i64 i1)∧z.cell? ⟨B,21,none⟩=some (.int .i64 i2)∧z.cell? ⟨B,22,none⟩=some (.bool i3)∧z.cell? ⟨B,23,none⟩=some (.bool i4)∧z.cell? ⟨B,24,none⟩=some (.bool i5)∧z.cell? ⟨B,25,none⟩=some (.int .i64 o1)∧z.cell? ⟨B,26,none⟩=some (.int .i64 o2)∧z.cell? ⟨B,27,none⟩=some (.bool o3)∧z.cell? ⟨B,28,none⟩=some (.bool o4)∧z.cell? ⟨B,29,none⟩=some (.bool o5)) (by kernel_rfl) ?_ (fun hHeld=>?_)
  ·exact ⟨c17,c18,c20,c21,c22,c23,c24,c25,c26,c27,c28,c29⟩
  cases bi
  ·rw [Bool.false_and] at HR;have e:=uh HR;subst e;clear HR;refine t2 0 ?_;refine t2 1 ?_;refine t2 2 ?_;refine t2 3 ?_;refine t2 4 ?_;refine t2 5 ?_;refine t2 6 ?_;refine t2 7 ?_;refine r1 8 rfl (fun K hK=>?_);go_simp;refine (uh CL1 _ ((uh HQ).2.trans ((Below.refl _ _).drew.mono (uh HQ).2.size))).mono ?_;rintro r w10 ⟨rfl,hb⟩;have B10:Below q.heap.size q w10:=(Below.refl _ _).drew.trans hb;clear hb;go_wp2_with fail
   refine hK.out _ _ ?_ (fun hHeld10=>?_)
   ·exact ⟨(B10.cell (p:=⟨B,17,none⟩) hlq).trans c17,(B10.cell (p:=⟨B,18,none⟩) hlq).trans c18,(B10.cell (p:=⟨B,20,none⟩) hlq).trans c20,(B10.cell (p:=⟨B,21,none⟩) hlq).trans c21,(B10.cell (p:=⟨B,22,none⟩) hlq).trans c22,(B10.cell (p:=⟨B,23,none⟩) hlq).trans c23,(B10.cell (p:=⟨B,24,none⟩) hlq).trans c24,(B10.cell (p:=⟨B,25,none⟩) hlq).trans c25,(B10.cell (p:=⟨B,26,none⟩) hlq).trans c26,(B10.cell (p:=⟨B,27,none⟩) hlq).trans c27,(B10.cell (p:=⟨B,28,none⟩) hlq).trans c28,(B10.cell (p:=⟨B,29,none⟩) hlq).trans c29⟩
   clear hK K;try simp only [Act.put,sA,sZ,sS,gA,gZ,gS]
   refine t2 9 ?_;refine t2 10 ?_;refine t5 11 ?_;refine t5 12 ?_;refine t5 13 ?_;refine t5 14 ?_;refine t5 15 ?_;refine t5 16 ?_;refine t5 17 ?_;refine t5 18 ?_;refine t5 19 ?_;refine t5 20 ?_;refine t2 21 ?_;refine t2 22 ?_;refine dn ?_ _;go_wp2
   go_ret
   exact ⟨rfl,(uh HQ).2.trans (B10.mono (uh HQ).2.size)⟩
  ·rw [Bool.true_and] at HR;have e:=uh HR;subst e;clear HR;refine t2 0 ?_;refine t2 1 ?_;refine t2 2 ?_;refine t2 3 ?_;refine t2 4 ?_;refine t2 5 ?_;refine t2 6 ?_;refine t2 7 ?_;refine r1 8 rfl (fun K hK=>?_);go_simp;refine (uh CL1 _ ((uh HQ).2.trans ((Below.refl _ _).drew.mono (uh HQ).2.size))).mono ?_;rintro r w10 ⟨rfl,hb⟩;have B10:Below q.heap.size q w10:=(Below.refl _ _).drew.trans hb;clear hb;go_wp2_with fail
   refine hK.out _ _ ?_ (fun hHeld10=>?_)
   ·exact ⟨(B10.cell (p:=⟨B,17,none⟩) hlq).trans c17,(B10.cell (p:=⟨B,18,none⟩) hlq).trans c18,(B10.cell (p:=⟨B,20,none⟩) hlq).trans c20,(B10.cell (p:=⟨B,21,none⟩) hlq).trans c21,(B10.cell (p:=⟨B,22,none⟩) hlq).trans c22,(B10.cell (p:=⟨B,23,none⟩) hlq).trans c23,(B10.cell (p:=⟨B,24,none⟩) hlq).trans c24,(B10.cell (p:=⟨B,25,none⟩) hlq).trans c25,(B10.cell (p:=⟨B,26,none⟩) hlq).trans c26,(B10.cell (p:=⟨B,27,none⟩) hlq).trans c27,(B10.cell (p:=⟨B,28,none⟩) hlq).trans c28,(B10.cell (p:=⟨B,29,none⟩) hlq).trans c29⟩
   clear hK K;try simp only [Act.put,sA,sZ,sS,gA,gZ,gS]
   refine t2 9 ?_;refine t2 10 ?_;refine t2 11 ?_;refine t2 12 ?_;refine t2 13 ?_;refine t2 14 ?_;refine t2 15 ?_;refine t2 16 ?_;refine t2 17 ?_;refine t2 18 ?_;refine r1 19 rfl (fun K hK=>?_);go_simp;refine (uh CL2 _ ((uh HQ).2.trans (B10.mono (uh HQ).2.size))).mono ?_;rintro r w11 ⟨rfl,hb⟩;have B11:Below q.heap.size q w11:=B10.trans (hb.mono B10.size);clear hb;go_wp2_with fail
   refine hK.out _ _ ?_ (fun hHeld11=>?_)
   ·exact ⟨(B11.cell (p:=⟨B,17,none⟩) hlq).trans c17,(B11.cell (p:=⟨B,18,none⟩) hlq).trans c18,(B11.cell (p:=⟨B,20,none⟩) hlq).trans c20,(B11.cell (p:=⟨B,21,none⟩) hlq).trans c21,(B11.cell (p:=⟨B,22,none⟩) hlq).trans c22,(B11.cell (p:=⟨B,23,none⟩) hlq).trans c23,(B11.cell (p:=⟨B,24,none⟩) hlq).trans c24,(B11.cell (p:=⟨B,25,none⟩) hlq).trans c25,(B11.cell (p:=⟨B,26,none⟩) hlq).trans c26,(B11.cell (p:=⟨B,27,none⟩) hlq).trans c27,(B11.cell (p:=⟨B,28,none⟩) hlq).trans c28,(B11.cell (p:=⟨B,29,none⟩) hlq).trans c29⟩
   clear hK K;try simp only [Act.put,sA,sZ,sS,gA,gZ,gS]
   refine t2 20 ?_;refine t2 21 ?_;refine t2 22 ?_;refine dn ?_ _;go_wp2
   go_ret
   exact ⟨rfl,(uh HQ).2.trans (B11.mono (uh HQ).2.size)⟩
theorem implEndRight_of (e:En) (x1 x2:Option Addr) (y1 y2:Nat) (F1 F2:List Op.Opt) (w:World) (l1:F1.length≤maxLen) (l2:F2.length≤maxLen) (h1:HoldsO w (.slice x1 F1.length y1) F1) (h2:HoldsO w (.slice x2 F2.length y2) F2) (hEq:EqL) :
  Calls prog 35 #[.agg (enC e (.slice x1 F1.length y1) (.slice x2 F2.length y2))] w fun r w'=>r=.returned (.bool (enOk e F1 F2))∧Below w.heap.size w w':=by
 have C7:=hide fun W (hb:Below w.heap.size w W)=>implFits _ F1 W l1 (h1.below hb rfl)
 have C8:=hide fun W (hb:Below w.heap.size w W)=>implFits _ F2 W l2 (h2.below hb rfl)
 have C9:=hide fun W (hb:Below w.heap.size w W) (hB)=>implLines_of e w.heap.size x1 x2 y1 y2 F1 F2 W l1 l2 (h1.below hb rfl) (h2.below hb rfl) hB hEq
 obtain ⟨m1,a1,g1,p1,c1,d1,m2,a2,g2,p2,c2,d2,st,tr,du,id,fl,up,i1,i2,i3,i4,i5,o1,o2,o3,o4,o5⟩:=e;have hA:=heap_alloc_new w (.cells (enC ⟨m1,a1,g1,p1,c1,d1,m2,a2,g2,p2,c2,d2,st,tr,du,id,fl,up,i1,i2,i3,i4,i5,o1,o2,o3,o4,o5⟩ (.slice x1 F1.length y1) (.slice x2 F2.length y2)) 29);have hbA:Below w.heap.size w (w.alloc (.cells (enC ⟨m1,a1,g1,p1,c1,d1,m2,a2,g2,p2,c2,d2,st,tr,du,id,fl,up,i1,i2,i3,i4,i5,o1,o2,o3,o4,o5⟩ (.slice x1 F1.length y1) (.slice x2 F2.length y2)) 29)):=(Below.refl _ _).alloc (Nat.le_refl _) _;have CC1:=hide fun W=>implCfg m1 a1 g1 p1 c1 d1 W
 have CC2:=hide fun W=>implCfg m2 a2 g2 p2 c2 d2 W
 have CI1:=hide fun W=>implWithin st 0 9 W
 have CI2:=hide fun W=>implWithin tr 0 5 W
 have CI3:=hide fun W=>byteR id W
 have CI4:=hide fun W=>implWithin fl 0 3 W
 have CD:=hide fun W=>implDue w.heap.size st du W
 obtain ⟨R,hR⟩:∃ R,enOk ⟨m1,a1,g1,p1,c1,d1,m2,a2,g2,p2,c2,d2,st,tr,du,id,fl,up,i1,i2,i3,i4,i5,o1,o2,o3,o4,o5⟩ F1 F2=R:=⟨_,rfl⟩;rw [hR];have hR2:(cfgOk m1 a1 g1 && (cfgOk m2 a2 g2 && (within 0 9 st && (within 0 5 tr && ((if runs st=true then within 0 1000000003 du else du == -1) && ((decide (0≤id) && decide (id≤255)) && (within 0 3 fl && (opOk F1 && (opOk F2 && linesOk ⟨m1,a1,g1,p1,c1,d1,m2,a2,g2,p2,c2,d2,st,tr,du,id,fl,up,i1,i2,i3,i4,i5,o1,o2,o3,o4,o5⟩ F1 F2)))))))))=R:=by
  rw [← hR];unfold enOk linesOk;dsimp only;ac_rfl
 clear hR;unfold enC at hA hbA C9 ⊢;dsimp only at hA hbA C9 ⊢;generalize linesOk ⟨m1,a1,g1,p1,c1,d1,m2,a2,g2,p2,c2,d2,st,tr,du,id,fl,up,i1,i2,i3,i4,i5,o1,o2,o3,o4,o5⟩ F1 F2=b10 at *;generalize cfgOk m1 a1 g1=b1 at *;generalize cfgOk m2 a2 g2=b2 at *;generalize within 0 9 st=b3 at *;generalize within 0 5 tr=b4 at *;generalize (if runs st=true then within 0 1000000003 du else du == -1)=b5 at *;generalize (decide (0≤id) && decide (id≤255))=b6 at *;generalize within 0 3 fl=b7 at *;generalize opOk F1=b8 at *;generalize opOk F2=b9 at *;have HR:=hide hR2;have HA:=hide (And.intro hA hbA);clear hA hbA h1 h2 l1 l2 hR2 hEq;generalize F1.length=n1 at *;generalize F2.length=n2 at *;go_enter func35,ntmps35
 go_wp2_with fail
 refine (uh CC1 _).mono ?_;rintro r w1 ⟨rfl,hb1⟩;have hr1:=(hb1.block w.heap.size (ge.1 (uh HA).1).1).trans (uh HA).1;have hB1:=(uh HA).2.trans (hb1.mono (uh HA).2.size);have c6:w1.cell? ⟨w.heap.size,6,none⟩=some (.int .i64 m2):=by rw [cr hr1];rfl
 have c7:w1.cell? ⟨w.heap.size,7,none⟩=some (.int .i64 a2):=by rw [cr hr1];rfl
 have c8:w1.cell? ⟨w.heap.size,8,none⟩=some (.int .i64 g2):=by rw [cr hr1];rfl
 have c9:w1.cell? ⟨w.heap.size,9,none⟩=some (.bool p2):=by rw [cr hr1];rfl
 have c10:w1.cell? ⟨w.heap.size,10,none⟩=some (.bool c2):=by rw [cr hr1];rfl
 have c11:w1.cell? ⟨w.heap.size,11,none⟩=some (.bool d2):=by rw [cr hr1];rfl
 have H1:=hide (And.intro hr1 hB1);clear hr1 hB1 hb1 HA;cases b1
 ·rw [Bool.false_and] at HR;have e:=uh HR;subst e;clear HR;go_wp2
  go_ret
  exact ⟨rfl,(uh H1).2⟩
 rw [Bool.true_and] at HR;go_wp2_with fail
 refine (uh CC2 _).mono ?_;rintro r w2 ⟨rfl,hb2⟩;have hr2:=(hb2.block w.heap.size (ge.1 (uh H1).1).1).trans (uh H1).1;have hB2:=(uh H1).2.trans (hb2.mono (uh H1).2.size);clear c6 c7 c8 c9 c10 c11;have c12:w2.cell? ⟨w.heap.size,12,none⟩=some (.int .i64 st):=by rw [cr hr2];rfl
 have c13:w2.cell? ⟨w.heap.size,13,none⟩=some (.int .i64 tr):=by rw [cr hr2];rfl
 have c14:w2.cell? ⟨w.heap.size,14,none⟩=some (.int .i64 du):=by rw [cr hr2];rfl
 have c15:w2.cell? ⟨w.heap.size,15,none⟩=some (.int .i64 id):=by rw [cr hr2];rfl
 have c16:w2.cell? ⟨w.heap.size,16,none⟩=some (.int .i64 fl):=by rw [cr hr2];rfl
 have c17:w2.cell? ⟨w.heap.size,17,none⟩=some (.slice x1 n1 y1):=by rw [cr hr2];rfl
 have H2:=hide (And.intro hr2 hB2);clear hr2 hB2 hb2 H1;cases b2
 ·rw [Bool.false_and] at HR;have e:=uh HR;subst e;clear HR;go_wp2
  go_ret
  exact ⟨rfl,(uh H2).2⟩
 rw [Bool.true_and] at HR;go_wp2_with fail
 refine (uh CI1 _).mono ?_;rintro r ws ⟨rfl,hws⟩;replace hws:=hws.symm;subst hws;cases b3
 ·rw [Bool.false_and] at HR;have e:=uh HR;subst e;clear HR;go_wp2
  go_ret
  exact ⟨rfl,(uh H2).2⟩
 rw [Bool.true_and] at HR;go_wp2_with fail
 refine (uh CI2 _).mono ?_;rintro r ws ⟨rfl,hws⟩;replace hws:=hws.symm;subst hws;cases b4
 ·rw [Bool.false_and] at HR;have e:=uh HR;subst e;clear HR;go_wp2
  go_ret
  exact ⟨rfl,(uh H2).2⟩
 rw [Bool.true_and] at HR;go_wp2_with fail
 refine (uh CD _ c12 c14).mono ?_;rintro r ws ⟨rfl,hws⟩;replace hws:=hws.symm;subst hws;cases b5
 ·rw [Bool.false_and] at HR;have e:=uh HR;subst e;clear HR;go_wp2
  go_ret
  exact ⟨rfl,(uh H2).2⟩
 rw [Bool.true_and] at HR;go_wp2_with fail
 refine (uh CI3 _).mono ?_;rintro r ws ⟨rfl,hws⟩;replace hws:=hws.symm;subst hws;cases b6
 ·rw [Bool.false_and] at HR;have e:=uh HR;subst e;clear HR;go_wp2
  go_ret
  exact ⟨rfl,(uh H2).2⟩
 rw [Bool.true_and] at HR;go_wp2_with fail
 refine (uh CI4 _).mono ?_;rintro r ws ⟨rfl,hws⟩;replace hws:=hws.symm;subst hws;cases b7
 ·rw [Bool.false_and] at HR;have e:=uh HR;subst e;clear HR;go_wp2
  go_ret
  exact ⟨rfl,(uh H2).2⟩
 rw [Bool.true_and] at HR;go_wp2_with fail
 refine (uh C7 _ (uh H2).2).mono ?_;rintro r w8 ⟨rfl,hb8⟩;have hr8:=(hb8.block w.heap.size (ge.1 (uh H2).1).1).trans (uh H2).1;have hB8:=(uh H2).2.trans (hb8.mono (uh H2).2.size);clear c12 c13 c14 c15 c16 c17;have c18:w8.cell? ⟨w.heap.size,18,none⟩=some (.slice x2 n2 y2):=by rw [cr hr8];rfl
 have H8:=hide (And.intro hr8 hB8);clear hr8 hB8 hb8 H2;cases b8
 ·rw [Bool.false_and] at HR;have e:=uh HR;subst e;clear HR;go_wp2
  go_ret
  exact ⟨rfl,(uh H8).2⟩
 rw [Bool.true_and] at HR;go_wp2_with fail
 refine (uh C8 _ (uh H8).2).mono ?_;rintro r w9 ⟨rfl,hb9⟩;have hr9:=(hb9.block w.heap.size (ge.1 (uh H8).1).1).trans (uh H8).1;have hB9:=(uh H8).2.trans (hb9.mono (uh H8).2.size);clear c18;have H9:=hide (And.intro hr9 hB9);clear hr9 hB9 hb9 H8;cases b9
 ·rw [Bool.false_and] at HR;have e:=uh HR;subst e;clear HR;go_wp2
  go_ret
  exact ⟨rfl,(uh H9).2⟩
 rw [Bool.true_and] at HR;go_wp2_with fail
 refine (uh C9 _ (uh H9).2 (uh H9).1).mono ?_;rintro r w10 ⟨rfl,hb10⟩;have e:=uh HR;subst e;clear HR;go_wp2
 go_ret
 exact ⟨rfl,(uh H9).2.trans (hb10.mono (uh H9).2.size)⟩
end Go.Proofs.YtahpjlbaagkdoaaGreatDoor
namespace Go.Proofs.YtahpjlbaagkdoaaGreatDoor
open Go.RowKit Go.Proofs.Tryz
theorem aIrc (w:World):Calls prog 85 #[.string nIrc] w fun e w'=>e=.returned (.iface 133 (.agg #[.int .i64 5]))∧w'=w:=by
 go_enter func85,ntmps85
 go_wp2
 go_ret
 exact ⟨rfl,rfl⟩
theorem aZrc (w:World):Calls prog 85 #[.string nZrc] w fun e w'=>e=.returned (.iface 133 (.agg #[.int .i64 0]))∧w'=w:=by
 go_enter func85,ntmps85
 go_wp2
 go_ret
 exact ⟨rfl,rfl⟩
theorem aScr (w:World):Calls prog 85 #[.string nScr] w fun e w'=>e=.returned (.iface 158 (.agg #[]))∧w'=w:=by
 go_enter func85,ntmps85
 go_wp2
 go_ret
 exact ⟨rfl,rfl⟩
theorem aStr (w:World):Calls prog 85 #[.string nStr] w fun e w'=>e=.returned (.iface 159 (.agg #[]))∧w'=w:=by
 go_enter func85,ntmps85
 go_wp2
 go_ret
 exact ⟨rfl,rfl⟩
theorem aSca (w:World):Calls prog 85 #[.string nSca] w fun e w'=>e=.returned (.iface 160 (.agg #[]))∧w'=w:=by
 go_enter func85,ntmps85
 go_wp2
 go_ret
 exact ⟨rfl,rfl⟩
theorem aScn (w:World):Calls prog 85 #[.string nScn] w fun e w'=>e=.returned (.iface 160 (.agg #[]))∧w'=w:=by
 go_enter func85,ntmps85
 go_wp2
 go_ret
 exact ⟨rfl,rfl⟩
theorem aSta (w:World):Calls prog 85 #[.string nSta] w fun e w'=>e=.returned (.iface 161 (.agg #[]))∧w'=w:=by
 go_enter func85,ntmps85
 go_wp2
 go_ret
 exact ⟨rfl,rfl⟩
theorem aScj (w:World):Calls prog 85 #[.string nScj] w fun e w'=>e=.returned (.iface 162 (.agg #[]))∧w'=w:=by
 go_enter func85,ntmps85
 go_wp2
 go_ret
 exact ⟨rfl,rfl⟩
theorem aSer (w:World):Calls prog 85 #[.string nSer] w fun e w'=>e=.returned (.iface 163 (.agg #[]))∧w'=w:=by
 go_enter func85,ntmps85
 go_wp2
 go_ret
 exact ⟨rfl,rfl⟩
theorem aTls (w:World):Calls prog 85 #[.string nTls] w fun e w'=>e=.returned (.iface 135 (.agg #[.string nTls]))∧w'=w:=by
 go_enter func85,ntmps85
 go_wp2
 go_ret
 exact ⟨rfl,rfl⟩
theorem aTlf (w:World):Calls prog 85 #[.string nTlf] w fun e w'=>e=.returned (.iface 135 (.agg #[.string nTlf]))∧w'=w:=by
 go_enter func85,ntmps85
 go_wp2
 go_ret
 exact ⟨rfl,rfl⟩
theorem aTld (w:World):Calls prog 85 #[.string nTld] w fun e w'=>e=.returned (.iface 135 (.agg #[.string nTld]))∧w'=w:=by
 go_enter func85,ntmps85
 go_wp2
 go_ret
 exact ⟨rfl,rfl⟩
theorem aTlu (w:World):Calls prog 85 #[.string nTlu] w fun e w'=>e=.returned (.iface 135 (.agg #[.string nTlu]))∧w'=w:=by
 go_enter func85,ntmps85
 go_wp2
 go_ret
 exact ⟨rfl,rfl⟩
section
variable {w0 w1:World} {B:Nat} {c:Cx} {s:St} {v1 v2 vs vt:Value} {q:World}
theorem iTls (h:Lay 83 w0 w1 B c s v1 v2 vs vt q) :
  Calls prog 234 #[.agg #[.string nTls],.pointer (some ⟨B,0,none⟩)] q fun r q'=>r=.returned (.tuple #[])∧Lay 83 w0 w1 B c s v1 v2 vs vt q':=by
 have hb:Below q.heap.size q (q.alloc (.cells #[.string nTls] 135)):=(Below.refl _ _).alloc (Nat.le_refl _) _;have HL:=hide (h.step hb);clear h hb;go_enter func234,ntmps234
 go_wp2
 exact Great.bodyPost_end0 rfl rfl ⟨rfl,uh HL⟩
theorem iTlf (h:Lay 83 w0 w1 B c s v1 v2 vs vt q) :
  Calls prog 234 #[.agg #[.string nTlf],.pointer (some ⟨B,0,none⟩)] q fun r q'=>r=.returned (.tuple #[])∧Lay 83 w0 w1 B c s v1 v2 vs vt q':=by
 have hb:Below q.heap.size q (q.alloc (.cells #[.string nTlf] 135)):=(Below.refl _ _).alloc (Nat.le_refl _) _;have HL:=hide (h.step hb);clear h hb;go_enter func234,ntmps234
 go_wp2
 exact Great.bodyPost_end0 rfl rfl ⟨rfl,uh HL⟩
theorem iTld (h:Lay 83 w0 w1 B c s v1 v2 vs vt q) :
  Calls prog 234 #[.agg #[.string nTld],.pointer (some ⟨B,0,none⟩)] q fun r q'=>r=.returned (.tuple #[])∧Lay 83 w0 w1 B c { s with e:=downE s.e } v1 v2 vs vt q':=by
 have hb:Below q.heap.size q (q.alloc (.cells #[.string nTld] 135)):=(Below.refl _ _).alloc (Nat.le_refl _) _;have HL:=hide (h.step hb);clear h hb;go_enter func234,ntmps234
 go_wp2_with fail
 refine (iFall (uh HL)).mono ?_;rintro r q1 ⟨rfl,h1⟩;go_wp2
 exact Great.bodyPost_end0 rfl rfl ⟨rfl,h1⟩
def dueE (now:Int) (b:Bool) (e:En):En:={ e with du:=if runs e.st=true then (if (b || e.du == -1)=true then now+3 else e.du) else -1 }
theorem iDue (h:Lay 83 w0 w1 B c s v1 v2 vs vt q) (b:Bool) (hn:0≤c.now∧c.now≤1000000000) :
  Calls prog 86 #[.pointer (some ⟨B,0,none⟩),.bool b] q fun r q'=>r=.returned (.tuple #[])∧Lay 83 w0 w1 B c { s with e:=dueE c.now b s.e } v1 v2 vs vt q':=by
 have c12:=h.cell (i:=12) rfl;have c14:=h.cell (i:=14) rfl;have f14:=h.frz 14;have c30:=h.cell (i:=30) rfl;have C:=hide (implWaits B s.e.st q c12);obtain ⟨h3,h4⟩:=hn;have HL:=hide h;clear h c12;cases hr:runs s.e.st
 ·have HE:dueE c.now b s.e={ s.e with du:=-1 }:=by unfold dueE;rw [hr];rfl
  rw [hr] at C;go_enter func86,ntmps86
  go_wp2_with fail
  refine (uh C).mono ?_;rintro r ws ⟨rfl,hws⟩;replace hws:=hws.symm;subst hws;go_wp2
  refine Great.bodyPost_end0 rfl rfl ⟨rfl,?_⟩;rw [HE];exact (uh HL).setRaw 14 (.int .i64 (-1)) { s.e with du:=-1 } rfl
 ·rw [hr] at C;cases b
  ·by_cases hd:s.e.du=-1
   ·have HE:dueE c.now false s.e={ s.e with du:=c.now+3 }:=by unfold dueE;rw [hr,hd];rfl
    go_enter func86,ntmps86
    go_wp2_with fail
    refine (uh C).mono ?_;rintro r ws ⟨rfl,hws⟩;replace hws:=hws.symm;subst hws;go_wp2
    refine Great.bodyPost_end0 rfl rfl ⟨rfl,?_⟩;rw [HE];exact (uh HL).setRaw 14 (.int .i64 (c.now+3)) { s.e with du:=c.now+3 } rfl
   ·have hd2:(s.e.du == -1)=false:=beq_eq_false_iff_ne.2 hd;have HE:dueE c.now false s.e=s.e:=by unfold dueE;rw [hr,hd2];rfl
    go_enter func86,ntmps86
    go_wp2_with fail
    refine (uh C).mono ?_;rintro r ws ⟨rfl,hws⟩;replace hws:=hws.symm;subst hws;go_wp2
    refine Great.bodyPost_end0 rfl rfl ⟨rfl,?_⟩;rw [HE];exact uh HL
  ·have HE:dueE c.now true s.e={ s.e with du:=c.now+3 }:=by unfold dueE;rw [hr];rfl
   go_enter func86,ntmps86
   go_wp2_with fail
   refine (uh C).mono ?_;rintro r ws ⟨rfl,hws⟩;replace hws:=hws.symm;subst hws;go_wp2
   refine Great.bodyPost_end0 rfl rfl ⟨rfl,?_⟩;rw [HE];exact (uh HL).setRaw 14 (.int .i64 (c.now+3)) { s.e with du:=c.now+3 } rfl
end
end Go.Proofs.YtahpjlbaagkdoaaGreatDoor
namespace Go.Proofs.YtahpjlbaagkdoaaGreatDoor
open Go.RowKit Go.Proofs.Tryz
def ActOk (T:TypeId) (f:FuncId) (c:Cx) (a:ByteArray):Prop:=∀ (w0 w1:World) (B:Nat) (s:St) (v1 v2 vs vt:Value) (q:World) (n:Nat),Lay T w0 w1 B c s v1 v2 vs vt q→Fit n c s→n≤1000 →
 Calls prog f #[.pointer (some ⟨B,0,none⟩),.string a] q fun r q'=>r=.returned (.tuple #[])∧∃ v1 v2 vs vt,Lay T w0 w1 B c (actF c a s) v1 v2 vs vt q'
theorem infoEo:(prog.info? 42).map (·.size)=some 33:=by kernel_rfl
theorem loadEo {W:World} {E:Nat} {cs:Array Value} (h:W.heap[E]?=some (.cells cs 42)) (hs:cs.size=33:=by rfl):(loadVar 42 ⟨E,0,none⟩).run prog W=.ok (.agg cs) W :=
 run_loadVar_row (P:=prog) _ _ 42 42 cs (0,0) _ h underlying42 rfl (by rw [hs];exact infoEo)
abbrev eoZ:Array Value:=#[.int .i64 0,.int .i64 0,.int .i64 0,.bool false,.bool false,.bool false,.int .i64 0,.int .i64 0,.int .i64 0,.bool false,.bool false,.bool false,.int .i64 0,.int .i64 0,.int .i64 0,.int .i64 0,.int .i64 0,.slice none 0 0,.slice none 0 0,.bool false,.int .i64 0,.int .i64 0,.bool false,.bool false,.bool false,.int .i64 0,.int .i64 0,.bool false,.bool false,.bool false,.slice none 0 0,.slice none 0 0,.int .i64 0]
theorem setRow_other (w:World) (g k:Nat) (cs:Array Value) (h:k≠g):(w.setRow g cs).heap[k]?=w.heap[k]?:=by
 unfold World.setRow;simp [Array.getElem?_modify,Ne.symm h]
theorem own_setRow {w:World} {base:Nat} {e T:TypeId} {size:Nat} {v:Value} {n:Nat} {xs:List Value} (h:w.ownsRow base e size v n xs) {X:Nat} {old cs:Array Value} (hX:w.heap[X]?=some (.cells old T)) (hT:T≠e):(w.setRow X cs).ownsRow base e size v n xs :=
 own_other h fun g hg=>setRow_other w X g cs fun e=>own_ty h hX hT (e ▸ hg)
theorem evErr {w0 q:World} (hb:Below w0.heap.size w0 q) (cd:Int):EvA w0 (eoErr cd) (.returned (.agg (eoC enZero (.slice none 0 0) (.slice none 0 0) (.slice none 0 0) (.slice none 0 0) cd))) q :=
 ⟨_,_,_,_,rfl,World.ownsRow_nil _ _ _ _,World.ownsRow_nil _ _ _ _,World.ownsRow_nil _ _ _ _,World.ownsRow_nil _ _ _ _,Ap.none _ _ _,hb⟩
theorem range_lay {T:TypeId} {w0 w1:World} {B:Nat} {c:Cx} {s:St} {v1 v2 vs vt:Value} {q:World} (h:Lay T w0 w1 B c s v1 v2 vs vt q):q.rangeAt B 0 (enC s.e v1 v2).toList:=by
 intro j u hu;have hj:=(List.getElem?_eq_some_iff.1 hu).1;rw [Nat.zero_add];refine h.cell (i:=j) ?_;show ((enC s.e v1 v2).toList ++ [.int .i64 c.now,.int .i64 c.cc,.int .i64 c.ci,.string c.cd,c.vh,.int .i64 c.ac,c.va,vs,vt])[j]?=some u
 rw [List.getElem?_append_left hj];exact hu
theorem eoC_all (e:En) (a1 a2 a3 a4:Option Addr) (n1 n2 n3 n4 m1 m2 m3 m4:Nat) (cd:Int):(eoC e (.slice a1 n1 m1) (.slice a2 n2 m2) (.slice a3 n3 m3) (.slice a4 n4 m4) cd).all (·.oneCell')=true:=by kernel_rfl
theorem take_any (A:List ByteArray) (i:Nat) (hi:i<A.length):(A.take (i+1)).any setT=((A.take i).any setT || setT A[i]):=by
 rw [List.take_succ_eq_append_getElem hi,List.any_append,List.any_cons,List.any_nil,Bool.or_false]
theorem take_fold (c:Cx) (s:St) (A:List ByteArray) (i:Nat) (hi:i<A.length):(A.take (i+1)).foldl (fun s a=>actF c a s) s=actF c A[i] ((A.take i).foldl (fun s a=>actF c a s) s):=by
 rw [List.take_succ_eq_append_getElem hi,List.foldl_append];rfl
theorem ownT_at {w:World} {base:Nat} {v:Value} {L:List ByteArray} (h:w.ownsRow base 9 1 v L.length (scells L)) (i:Nat) (hi:i<L.length):∃ g cp,v=.slice (some ⟨g,0,none⟩) L.length cp∧g<w.heap.size∧w.cell? ⟨g,i,none⟩=some (.string L[i]):=by
 rcases h.2 with ⟨_,h0⟩ | ⟨g,cap,cur,hv,_,hg,_,_,_,ht⟩
 ·omega
 ·refine ⟨g,cap,hv,(ge.1 hg).1,?_⟩;rw [cr hg,← Array.getElem?_toList];have e:=scells_get L i L[i] (List.getElem?_eq_getElem hi);rw [← ht,List.getElem?_take,if_pos (by omega)] at e;exact e
end Go.Proofs.YtahpjlbaagkdoaaGreatDoor
