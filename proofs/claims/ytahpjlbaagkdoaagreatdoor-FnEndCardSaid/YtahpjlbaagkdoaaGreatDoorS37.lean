/- DrEn -/
import Derived.Test.YtahpjlbaagkdoaaGreatDoorS36
set_option maxHeartbeats 16000000
set_option maxRecDepth 100000
set_option linter.unusedSimpArgs false
namespace Go.Proofs.YtahpjlbaagkdoaaGreatDoor
open Go.RowKit Go.Proofs.Tryz
theorem src_end (w:World) (B:Nat) (sl:Value) (n:Nat) (hn:n≤maxLen) (hS:Src w B sl n) (hD:Dat w B sl n) :
  Calls prog 25 #[.pointer (some ⟨B,0,none⟩)] w fun r w'=>Dr9 w B sl n r w':=by
 have hB:=hS.lt;have DB:Hid (∀ W,Nigh B w W→Dat W B sl n):=hide fun W h=>hD.below (h.below (by omega))
 obtain ⟨hz0,hN0,hN1,hb0⟩:=start2r w (.cells enZ 29) (.cells #[.int .i64 0,.int .i64 0,.string ⟨#[]⟩] 35);have H0:Hid (L0 w B sl n ((w.alloc (.cells enZ 29)).alloc (.cells #[.int .i64 0,.int .i64 0,.string ⟨#[]⟩] 35))):=hide ⟨hS.same (hb0.block B hB),Nigh.of_below hb0,hN0,hN1⟩;clear hS hD hN0 hN1 hb0;go_enter func25,ntmps25
 go_wp2_with fail
 refine (src_config _ B sl n hn (uh H0).s (uh DB _ (uh H0).g)).mono ?_;rintro e w1 ⟨m1,a1,g1,p1,c1,d1,rfl,hS1,hn1⟩;have H1:=hide ((uh H0).nigh hn1 hS1);have hz1:=hn1.size;clear hS1 hn1 H0;go_wp2_with fail
 refine (specEndNew m1 a1 g1 p1 c1 d1 w1).mono ?_;rintro e w2 ⟨rfl,hb2⟩;have H2:=hide ((uh H1).below hb2);have hz2:w.heap.size+2≤w2.heap.size:=by have:=hb2.size;omega
 have R2:=hide (enR9_new w2 (enNew m1 a1 g1 p1 c1 d1));generalize enC (enNew m1 a1 g1 p1 c1 d1) (.slice none 0 0) (.slice none 0 0)=ca at *;have la:=(uh R2).size;have lo:=(uh R2).one;clear hb2 H1 hz1 hz0
 go_upto_region 2 with (first
  | (refine wpList_store_rowTo rfl 29 (.tmp 5) (.tmp 17) rfl rfl w2.heap.size ca rfl rfl 29 enZ (heap_alloc_new w2 _) (by rw [la];exact infoE) (by rw [la];rfl) lo ?_))
 refine gen_world (fun q=>L0 w B sl n q∧EnV q w2.heap.size∧q.heap.size=w2.heap.size+1) ⟨(uh H2).below (newEn (uh R2)).2,(newEn (uh R2)).1,size_put _ _ _ _⟩ ?_;intro q1 hq1;have HQ:=hide (And.intro hq1.1 hq1.2.1);have hzq:=hq1.2.2;generalize w2.heap.size=A at *;clear hq1 H2 R2 la lo;go_wp2_with fail
 refine (src_config _ B sl n hn (uh HQ).1.s (uh DB _ (uh HQ).1.g)).mono ?_;rintro e w3 ⟨m2,a2,g2,p2,c2,d2,rfl,hS3,hn3⟩;have H3:=hide (And.intro ((uh HQ).1.nigh hn3 hS3) ((uh HQ).2.nigh (uh HQ).1 hn3));have hz3:=hn3.size;clear hS3 hn3 HQ;go_wp2_with fail
 refine (specEndNew m2 a2 g2 p2 c2 d2 w3).mono ?_;rintro e w4 ⟨rfl,hb4⟩;have H4:=hide (And.intro ((uh H3).1.below hb4) ((uh H3).2.nigh (uh H3).1 (Nigh.of_below hb4)));have hz4:A+1≤w4.heap.size:=by have:=hb4.size;omega
 have R4:=hide (enR9_new w4 (enNew m2 a2 g2 p2 c2 d2));generalize enC (enNew m2 a2 g2 p2 c2 d2) (.slice none 0 0) (.slice none 0 0)=cc at *;have la:=(uh R4).size;have lo:=(uh R4).one;clear hb4 H3 hz3 hzq
 go_upto_region 3 with (first
  | (refine wpList_store_rowTo rfl 29 (.tmp 6) (.tmp 20) rfl rfl w4.heap.size cc rfl rfl 29 enZ (heap_alloc_new w4 _) (by rw [la];exact infoE) (by rw [la];rfl) lo ?_))
 refine gen_world (fun q=>(L0 w B sl n q∧EnV q A∧EnV q w4.heap.size)∧q.heap.size=w4.heap.size+1) ⟨⟨(uh H4).1.below (newEn (uh R4)).2,(uh H4).2.nigh (uh H4).1 (Nigh.of_below (newEn (uh R4)).2),(newEn (uh R4)).1⟩,size_put _ _ _ _⟩ ?_;intro q2 hq2;have HQ:=hide hq2.1;have hzq:=hq2.2;generalize w4.heap.size=C at *;clear hq2 H4 R4 la lo;go_wp2_with fail
 refine (src_n _ B sl n 9 (by decide) hn (uh HQ).1.s (uh DB _ (uh HQ).1.g)).mono ?_;rintro e w5 ⟨r5,rfl,hr5,hS5,ht5⟩;have H5:=hide (And.intro ((uh HQ).1.nigh (Nigh.of_touch ht5) hS5) (And.intro ((uh HQ).2.1.nigh (uh HQ).1 (Nigh.of_touch ht5)) ((uh HQ).2.2.nigh (uh HQ).1 (Nigh.of_touch ht5))));have hz5:w5.heap.size=C+1:=by rw [ht5.size];exact hzq
 clear hS5 ht5 HQ hr5 hzq;go_wp2_with fail
 refine (src_some _ B sl n hn (uh H5).1.s (uh DB _ (uh H5).1.g)).mono ?_;rintro e w6 ⟨p,rfl,_,hS6,hn6⟩;have H6:=hide (And.intro ((uh H5).1.nigh hn6 hS6) (And.intro ((uh H5).2.1.nigh (uh H5).1 hn6) ((uh H5).2.2.nigh (uh H5).1 hn6)));have hz6:C+1≤w6.heap.size:=by have:=hn6.size;omega
 clear hS6 hn6 H5;go_upto_region 5 with fail
 refine gen_world (fun q=>(L0 w B sl n q∧EnV q A∧EnV q C∧PkV q w6.heap.size)∧q.heap.size=w6.heap.size+1) ?_ ?_
 ·have hb:Below w6.heap.size w6 (w6.alloc (.cells #[.int .i64 p.code,.int .i64 p.id,.string p.data] 35)):=(Below.refl _ _).alloc (Nat.le_refl _) _;exact ⟨⟨(uh H6).1.below hb,(uh H6).2.1.nigh (uh H6).1 (Nigh.of_below hb),(uh H6).2.2.nigh (uh H6).1 (Nigh.of_below hb),p,heap_alloc_new w6 _⟩,by simp⟩
 intro q3 hq3;have HQ:=hide hq3.1;have hzq:=hq3.2;generalize w6.heap.size=P at *;clear hq3 H6 hz5;go_wp2_with fail
 refine (src_one _ B sl n 5 (by decide) hn (uh HQ).1.s (uh DB _ (uh HQ).1.g)).mono ?_;rintro e w7 ⟨b7,rfl,hS7,ht7⟩;have hL7:=(uh HQ).1.nigh (Nigh.of_touch ht7) hS7;have H7:=hide (And.intro hL7 (And.intro ((uh HQ).2.1.nigh (uh HQ).1 (Nigh.of_touch ht7)) (And.intro ((uh HQ).2.2.1.nigh (uh HQ).1 (Nigh.of_touch ht7)) ((uh HQ).2.2.2.nigh (uh HQ).1 (Nigh.of_touch ht7)))));have hz7:w7.heap.size=P+1:=by rw [ht7.size];exact hzq
 have nR:¬ (A=w.heap.size)∧¬ (A=w.heap.size+1)∧¬ (P=w.heap.size)∧¬ (P=w.heap.size+1):=by omega
 clear hS7 ht7 HQ hzq hL7;cases b7
 ·have HX:Hid (Lx w B (P+1) A C P):=hide ⟨hB,by omega,by omega,by omega,Nat.lt_succ_self _⟩;have HL0:Hid (Lz w B sl n (P+1) A C P 0 (.slice (some ⟨P+1,0,none⟩) 0 0) (w7.alloc (.cells #[] 35))):=by
   have hb:Below w7.heap.size w7 (w7.alloc (.cells #[] 35)):=(Below.refl _ _).alloc (Nat.le_refl _) _;have hl:=(uh H7).1.below hb;have hnn:=Nigh.of_below (B:=B) hb;have hq:=heap_alloc_new w7 (.cells #[] 35);rw [hz7] at hq;exact hide ⟨hl.s,hl.g,hl.r2,hl.r4,(uh H7).2.1.nigh (uh H7).1 hnn,(uh H7).2.2.1.nigh (uh H7).1 hnn,(uh H7).2.2.2.nigh (uh H7).1 hnn,⟨[],Or.inr ⟨P+1,0,0,#[],rfl,hq,Nat.le_refl _,Nat.le_refl _,Nat.le_refl _,fun j hj=>by simp at hj⟩,Nat.zero_le _⟩,by simp;omega⟩
  go_wp2_with fail
  clear H7 hz7 hz6 hz4 hz2;refine (src_n _ B sl n 12 (by decide) hn (uh HL0).s (uh DB _ (uh HL0).g)).mono ?_;rintro e w8 ⟨k8,rfl,hk8,hS8,ht8⟩;have H8:=hide ((uh HL0).nigh (Nigh.of_touch ht8) hS8);have hk12:k8≤12:=by omega
  clear hS8 ht8 hk8 HL0;go_upto_region 9 with fail
  go_loopg [7,9,10] k8 (fun k x7 x9 x10 wr=>x10=.int .i64 (k:Nat)∧k≤12∧(∃ nw,x7=.int .i64 nw)∧Lz w B sl n (P+1) A C P ((12 - k)*11000) x9 wr)
  case atStart=>exact ⟨rfl,hk12,⟨_,rfl⟩,(uh H8).mono (Nat.zero_le _)⟩
  case round =>
   obtain ⟨rfl,hk,⟨nw,rfl⟩,hls⟩:=hrel;have HQ0:=hide hls;clear hls H8;rcases gk with _ | k
   ·have d1:¬ ((0:Int)<((0:Nat):Int)):=by omega
    have hAw:w.heap.size<A:=by have:=(uh HX).a;omega
    have hPw:w.heap.size+1<P:=by have:=(uh HX).a;have:=(uh HX).c;have:=(uh HX).p;omega
    have hz:=uh HQ0;obtain ⟨Q,hq,_⟩:=hz.q;obtain ⟨qa,qc,rfl⟩:=hq.form;have HE0:Hid (L0 w B sl n wr∧EnV wr A∧PkV wr P):=hide ⟨⟨hz.s,hz.g,hz.r2,hz.r4⟩,hz.a,hz.p⟩;cases Q with
    | nil =>
     have HE:=HE0;clear hz hq HQ0 HE0;go_wp2_with fail
     refine (src_one _ B sl n 20 (by decide) hn (uh HE).1.s (uh DB _ (uh HE).1.g)).mono ?_;rintro e t1 ⟨b1,rfl,hS1,ht1⟩;have HT:=hide (t9n (uh HE) (Nigh.of_touch ht1) hS1);clear HE hS1 ht1;rename_i K2 hK2 K1 hK1
     refine hK1 _ _ ?_;show K2 _ _
     refine hK2 _ _ ?_;go_cut [] (fun wx=>L0 w B sl n wx∧EnV wx A∧PkV wx P)
     case first =>
      clear hK2 hK1 K2 K1;cases b1
      ·go_wp2_with fail
       go_meet;exact uh HT
      ·go_wp2_with fail
       refine (src_n t1 B sl n 4 (by decide) hn (uh HT).1.s (uh DB _ (uh HT).1.g)).mono ?_;rintro e t2 ⟨q4,rfl,hq4,hS2,ht2⟩;have HT2:=hide (t9n (uh HT) (Nigh.of_touch ht2) hS2);clear HT hS2 ht2 hq4;by_cases q0:q4=0
       ·subst q0;go_wp2_with fail
        have hb:Below t2.heap.size t2 (t2.alloc (.cells #[.int .i64 (-1),.int .i64 0,.int .i64 1000000003,.int .i64 1000000004] 2)):=(Below.refl _ _).alloc (Nat.le_refl _) _;have HT4:=hide (And.intro (t9n (uh HT2) (Nigh.of_below hb) ((uh HT2).1.s.same (hb.block _ (uh HT2).1.s.lt))) (heap_alloc_new t2 (.cells #[.int .i64 (-1),.int .i64 0,.int .i64 1000000003,.int .i64 1000000004] 2)));have hlt:=(uh HT2).1.s.lt;clear HT2 hb;refine (src_n _ B sl n 4 (by decide) hn (uh HT4).1.1.s (uh DB _ (uh HT4).1.1.g)).mono ?_;rintro e t3 ⟨r3,rfl,hr3,hS3,ht3⟩;have hr3':r3<4:=by omega
        have hr3i:(r3:Int)<4:=by omega
        obtain ⟨y,hy,_,_⟩:=lit_cell ((ht3.block t2.heap.size (by omega)).trans (uh HT4).2) (by decide) r3 (by simpa using hr3');have HT3:=hide (t9n (uh HT4).1 (Nigh.of_touch ht3) hS3);clear HT4 hS3 ht3 hr3;obtain ⟨ca,a1,e,F1,F2,x1,x2,y1,y2,rfl,h1,h2,l1,l2⟩:=(uh HT3).2.1;have ck:t3.cell? ⟨A,14,none⟩=some (_):=(cell_of_row _ _ 14 _ _ _ a1).trans rfl;have fk:=frz a1 14;have HF:=hide (st9 (k:=14) (v:=.int .i64 y) (uh HT3).1 a1 (uh HT3).2.2 hAw fun W' hW=>⟨{ e with du:=y },F1,F2,x1,x2,y1,y2,rfl,holdO_keep h1 hW,holdO_keep h2 hW,l1,l2⟩);clear a1 h1 h2 HT3;go_wp2_with fail
        go_meet;exact uh HF
       ·have e0:((q4:Int) == 0)=false:=beq_eq_false_iff_ne.2 (by omega);by_cases q1:q4=1
        ·subst q1;go_wp2_with fail
         refine (src_n t2 B sl n 11 (by decide) hn (uh HT2).1.s (uh DB _ (uh HT2).1.g)).mono ?_;rintro e t3 ⟨y,rfl,_,hS3,ht3⟩;have HT3:=hide (t9n (uh HT2) (Nigh.of_touch ht3) hS3);clear HT2 hS3 ht3;obtain ⟨ca,a1,e,F1,F2,x1,x2,y1,y2,rfl,h1,h2,l1,l2⟩:=(uh HT3).2.1;have ck:t3.cell? ⟨A,12,none⟩=some (_):=(cell_of_row _ _ 12 _ _ _ a1).trans rfl;have fk:=frz a1 12;have HF:=hide (st9 (k:=12) (v:=.int .i64 (y:Int)) (uh HT3).1 a1 (uh HT3).2.2 hAw fun W' hW=>⟨{ e with st:=(y:Int) },F1,F2,x1,x2,y1,y2,rfl,holdO_keep h1 hW,holdO_keep h2 hW,l1,l2⟩);clear a1 h1 h2 HT3;go_wp2_with fail
         go_meet;exact uh HF
        ·have e1:((q4:Int) == 1)=false:=beq_eq_false_iff_ne.2 (by omega);by_cases q2:q4=2
         ·subst q2;go_wp2_with fail
          refine (src_n t2 B sl n 7 (by decide) hn (uh HT2).1.s (uh DB _ (uh HT2).1.g)).mono ?_;rintro e t3 ⟨y,rfl,_,hS3,ht3⟩;have HT3:=hide (t9n (uh HT2) (Nigh.of_touch ht3) hS3);clear HT2 hS3 ht3;obtain ⟨ca,a1,e,F1,F2,x1,x2,y1,y2,rfl,h1,h2,l1,l2⟩:=(uh HT3).2.1;have ck:t3.cell? ⟨A,13,none⟩=some (_):=(cell_of_row _ _ 13 _ _ _ a1).trans rfl;have fk:=frz a1 13;have HF:=hide (st9 (k:=13) (v:=.int .i64 (y:Int)) (uh HT3).1 a1 (uh HT3).2.2 hAw fun W' hW=>⟨{ e with tr:=(y:Int) },F1,F2,x1,x2,y1,y2,rfl,holdO_keep h1 hW,holdO_keep h2 hW,l1,l2⟩);clear a1 h1 h2 HT3;go_wp2_with fail
          go_meet;exact uh HF
         ·have e2:((q4:Int) == 2)=false:=beq_eq_false_iff_ne.2 (by omega);have HT3:=HT2;clear HT2;obtain ⟨ca,a1,e,F1,F2,x1,x2,y1,y2,rfl,h1,h2,l1,l2⟩:=(uh HT3).2.1;have ck:t2.cell? ⟨A,20,none⟩=some (_):=(cell_of_row _ _ 20 _ _ _ a1).trans rfl;have fk:=frz a1 20;have HF:=hide (st9 (k:=20) (v:=.int .i64 5) (uh HT3).1 a1 (uh HT3).2.2 hAw fun W' hW=>⟨{ e with i1:=5 },F1,F2,x1,x2,y1,y2,rfl,holdO_keep h1 hW,holdO_keep h2 hW,l1,l2⟩);clear a1 h1 h2 HT3;go_wp2_with fail
          go_meet;exact uh HF
     case rest =>
      rename World=>w7
      have HR:=hide hcut;clear hcut HT hK2 hK1;go_upto_region 48 with fail
      obtain ⟨hl0,⟨ca,ha1,ha2⟩,⟨p,hp1⟩⟩:=uh HR;have la:=ha2.size;have lo:=ha2.one;have HY:Hid (L0 w B sl n w7∧EnR9 w7 ca∧w7.heap[A]?=some (.cells ca 29)∧w7.heap[P]?=some (.cells #[.int .i64 p.code,.int .i64 p.id,.string p.data] 35)):=hide ⟨hl0,ha2,ha1,hp1⟩;have SY:Hid (∀ z:World,z.heap[A]?=some (.cells ca 29)→z.heap[P]?=some (.cells #[.int .i64 p.code,.int .i64 p.id,.string p.data] 35)→(z.heap[A]?=some (.cells ca.toList.toArray 29)∧z.cell? ⟨P,0,none⟩=some (.int .i64 p.code)∧z.cell? ⟨P,1,none⟩=some (.int .i64 p.id)∧z.cell? ⟨P,2,none⟩=some (.string p.data))):=hide fun z h1 h2=>⟨h1,(row3d h2).1,(row3d h2).2.1,(row3d h2).2.2.1⟩
      clear hl0 ha1 ha2 hp1 HR;refine wp_region_held_drew (S:=fun z=>z.heap[A]?=some (.cells ca.toList.toArray 29)∧z.cell? ⟨P,0,none⟩=some (.int .i64 p.code)∧z.cell? ⟨P,1,none⟩=some (.int .i64 p.id)∧z.cell? ⟨P,2,none⟩=some (.string p.data)) (by kernel_rfl) (uh SY _ (uh HY).2.2.1 (uh HY).2.2.2) (fun hHeld=>?_);replace HY:Hid (L0 w B sl n w7.drew∧EnR9 w7.drew ca∧w7.drew.heap[A]?=some (.cells ca 29)∧w7.drew.heap[P]?=some (.cells #[.int .i64 p.code,.int .i64 p.id,.string p.data] 35)):=hide ⟨(uh HY).1.below ((Below.refl _ _).drew),(uh HY).2.1.keep fun _ _ _=>rfl,(uh HY).2.2.1,(uh HY).2.2.2⟩;generalize w7.drew=yy at HY hHeld ⊢;refine t4 0 (.agg ca) rfl (yieldsIf_load_mid (by rfl) 29 (.tmp 5) rfl A 0 rfl ca.toList _ (fun z hz=>rangeRow hz.1) underlying29 rfl (by rw [Array.length_toList,la];exact infoE)) ?_;try simp only [Act.put,sA,sZ,sS,gA,gZ]
      refine t2 1 ?_;refine t2 2 ?_;refine r1 3 rfl (fun K hK=>?_);rw [if_pos (by rfl)];refine wp_store_row 29 (.tmp 2) (.tmp 146) rfl w.heap.size ca rfl rfl 29 enZ (uh HY).1.r2 (by rw [la];exact infoE) (by rw [la];rfl) lo ?_;have H5:=hide (put9 (uh HY).1 (uh HY).2.1 (uh HY).2.2.1 (uh HY).2.2.2 nR.1 nR.2.2.1);refine ro hK (uh SY _ (uh H5).2.1 (uh H5).2.2.1) fun _=>?_
      clear hK K;generalize yy.setRow w.heap.size ca=yz at H5 ⊢;have hSz:=uh SY _ (uh H5).2.1 (uh H5).2.2.1;refine t2 4 ?_;refine r1 5 rfl (fun K hK=>?_);obtain ⟨k0,k1,k2,f0,f1,f2⟩:=row3d (uh H5).1.2.2.1;have H6:=hide (put9b (p:=p) (uh H5).1 nR.2.1 nR.2.2.2);go_simp;refine ro hK (uh SY _ ((uh H6).2.2 A _ (Or.inl nR.2.1) (uh H5).2.1) ((uh H6).2.2 P _ (Or.inl nR.2.2.2) (uh H5).2.2.1)) fun _=>?_
      clear hK K;refine dn ?_ _;go_wp2_with fail
      refine bodyPost_ret (v:=.tuple #[.agg ca,.int .i64 _,.agg #[.int .i64 p.code,.int .i64 p.id,.string p.data]]) (by simp [results,results25,asAddr,Act.put,(uh H6).1.2];first | exact ⟨rfl,rfl,rfl⟩ | exact ⟨rfl,rfl⟩ | rfl) rfl ⟨ca,_,p,rfl,(uh H6).2.1,(uh H6).1.1.1,(uh H6).1.1.2⟩
    | cons p Q1 =>
     obtain ⟨gq,oq,cq,cur,ev,hk1,hk2,hk3,hk4⟩:=hq.fst;rw [List.length_cons] at *;injection ev with e1 e9 e2;clear e9;subst e1 e2;have d2:(0:Int)<((Q1.length+1:Nat):Int):=by omega
     have g0:wr.cell? ⟨gq,oq,none⟩=some (.int .i64 p.code):=by rw [cr hk1];exact hk2
     have g1:wr.cell? ⟨gq,oq+1,none⟩=some (.int .i64 p.id):=by rw [cr hk1];exact hk3
     have g2:wr.cell? ⟨gq,oq+2,none⟩=some (.string p.data):=by rw [cr hk1];exact hk4
     obtain ⟨p0,hp0⟩:=hz.p;obtain ⟨k0,k1,k2,f0,f1,f2⟩:=row3d hp0;have HS:=hide (sp9 p (uh HE0).1 (uh HE0).2.1 (uh HE0).2.2 hPw);clear hz hq HQ0 HE0 hk1 hk2 hk3 hk4 hp0;go_upto_region 39 with fail
     refine gen_world (fun q=>L0 w B sl n q∧EnV q A∧PkV q P) (uh HS) ?_;intro z9 hz9;have HE:=hide hz9;clear hz9 HS g0 g1 g2 k0 k1 k2 f0 f1 f2;go_wp2_with fail
     refine (src_one _ B sl n 20 (by decide) hn (uh HE).1.s (uh DB _ (uh HE).1.g)).mono ?_;rintro e t1 ⟨b1,rfl,hS1,ht1⟩;have HT:=hide (t9n (uh HE) (Nigh.of_touch ht1) hS1);clear HE hS1 ht1;rename_i K2 hK2 K1 hK1
     refine hK1 _ _ ?_;show K2 _ _
     refine hK2 _ _ ?_;go_cut [] (fun wx=>L0 w B sl n wx∧EnV wx A∧PkV wx P)
     case first =>
      clear hK2 hK1 K2 K1;cases b1
      ·go_wp2_with fail
       go_meet;exact uh HT
      ·go_wp2_with fail
       refine (src_n t1 B sl n 4 (by decide) hn (uh HT).1.s (uh DB _ (uh HT).1.g)).mono ?_;rintro e t2 ⟨q4,rfl,hq4,hS2,ht2⟩;have HT2:=hide (t9n (uh HT) (Nigh.of_touch ht2) hS2);clear HT hS2 ht2 hq4;by_cases q0:q4=0
       ·subst q0;go_wp2_with fail
        have hb:Below t2.heap.size t2 (t2.alloc (.cells #[.int .i64 (-1),.int .i64 0,.int .i64 1000000003,.int .i64 1000000004] 2)):=(Below.refl _ _).alloc (Nat.le_refl _) _;have HT4:=hide (And.intro (t9n (uh HT2) (Nigh.of_below hb) ((uh HT2).1.s.same (hb.block _ (uh HT2).1.s.lt))) (heap_alloc_new t2 (.cells #[.int .i64 (-1),.int .i64 0,.int .i64 1000000003,.int .i64 1000000004] 2)));have hlt:=(uh HT2).1.s.lt;clear HT2 hb;refine (src_n _ B sl n 4 (by decide) hn (uh HT4).1.1.s (uh DB _ (uh HT4).1.1.g)).mono ?_;rintro e t3 ⟨r3,rfl,hr3,hS3,ht3⟩;have hr3':r3<4:=by omega
        have hr3i:(r3:Int)<4:=by omega
        obtain ⟨y,hy,_,_⟩:=lit_cell ((ht3.block t2.heap.size (by omega)).trans (uh HT4).2) (by decide) r3 (by simpa using hr3');have HT3:=hide (t9n (uh HT4).1 (Nigh.of_touch ht3) hS3);clear HT4 hS3 ht3 hr3;obtain ⟨ca,a1,e,F1,F2,x1,x2,y1,y2,rfl,h1,h2,l1,l2⟩:=(uh HT3).2.1;have ck:t3.cell? ⟨A,14,none⟩=some (_):=(cell_of_row _ _ 14 _ _ _ a1).trans rfl;have fk:=frz a1 14;have HF:=hide (st9 (k:=14) (v:=.int .i64 y) (uh HT3).1 a1 (uh HT3).2.2 hAw fun W' hW=>⟨{ e with du:=y },F1,F2,x1,x2,y1,y2,rfl,holdO_keep h1 hW,holdO_keep h2 hW,l1,l2⟩);clear a1 h1 h2 HT3;go_wp2_with fail
        go_meet;exact uh HF
       ·have e0:((q4:Int) == 0)=false:=beq_eq_false_iff_ne.2 (by omega);by_cases q1:q4=1
        ·subst q1;go_wp2_with fail
         refine (src_n t2 B sl n 11 (by decide) hn (uh HT2).1.s (uh DB _ (uh HT2).1.g)).mono ?_;rintro e t3 ⟨y,rfl,_,hS3,ht3⟩;have HT3:=hide (t9n (uh HT2) (Nigh.of_touch ht3) hS3);clear HT2 hS3 ht3;obtain ⟨ca,a1,e,F1,F2,x1,x2,y1,y2,rfl,h1,h2,l1,l2⟩:=(uh HT3).2.1;have ck:t3.cell? ⟨A,12,none⟩=some (_):=(cell_of_row _ _ 12 _ _ _ a1).trans rfl;have fk:=frz a1 12;have HF:=hide (st9 (k:=12) (v:=.int .i64 (y:Int)) (uh HT3).1 a1 (uh HT3).2.2 hAw fun W' hW=>⟨{ e with st:=(y:Int) },F1,F2,x1,x2,y1,y2,rfl,holdO_keep h1 hW,holdO_keep h2 hW,l1,l2⟩);clear a1 h1 h2 HT3;go_wp2_with fail
         go_meet;exact uh HF
        ·have e1:((q4:Int) == 1)=false:=beq_eq_false_iff_ne.2 (by omega);by_cases q2:q4=2
         ·subst q2;go_wp2_with fail
          refine (src_n t2 B sl n 7 (by decide) hn (uh HT2).1.s (uh DB _ (uh HT2).1.g)).mono ?_;rintro e t3 ⟨y,rfl,_,hS3,ht3⟩;have HT3:=hide (t9n (uh HT2) (Nigh.of_touch ht3) hS3);clear HT2 hS3 ht3;obtain ⟨ca,a1,e,F1,F2,x1,x2,y1,y2,rfl,h1,h2,l1,l2⟩:=(uh HT3).2.1;have ck:t3.cell? ⟨A,13,none⟩=some (_):=(cell_of_row _ _ 13 _ _ _ a1).trans rfl;have fk:=frz a1 13;have HF:=hide (st9 (k:=13) (v:=.int .i64 (y:Int)) (uh HT3).1 a1 (uh HT3).2.2 hAw fun W' hW=>⟨{ e with tr:=(y:Int) },F1,F2,x1,x2,y1,y2,rfl,holdO_keep h1 hW,holdO_keep h2 hW,l1,l2⟩);clear a1 h1 h2 HT3;go_wp2_with fail
          go_meet;exact uh HF
         ·have e2:((q4:Int) == 2)=false:=beq_eq_false_iff_ne.2 (by omega);have HT3:=HT2;clear HT2;obtain ⟨ca,a1,e,F1,F2,x1,x2,y1,y2,rfl,h1,h2,l1,l2⟩:=(uh HT3).2.1;have ck:t2.cell? ⟨A,20,none⟩=some (_):=(cell_of_row _ _ 20 _ _ _ a1).trans rfl;have fk:=frz a1 20;have HF:=hide (st9 (k:=20) (v:=.int .i64 5) (uh HT3).1 a1 (uh HT3).2.2 hAw fun W' hW=>⟨{ e with i1:=5 },F1,F2,x1,x2,y1,y2,rfl,holdO_keep h1 hW,holdO_keep h2 hW,l1,l2⟩);clear a1 h1 h2 HT3;go_wp2_with fail
          go_meet;exact uh HF
     case rest =>
      rename World=>w7
      have HR:=hide hcut;clear hcut HT hK2 hK1;go_upto_region 48 with fail
      obtain ⟨hl0,⟨ca,ha1,ha2⟩,⟨p,hp1⟩⟩:=uh HR;have la:=ha2.size;have lo:=ha2.one;have HY:Hid (L0 w B sl n w7∧EnR9 w7 ca∧w7.heap[A]?=some (.cells ca 29)∧w7.heap[P]?=some (.cells #[.int .i64 p.code,.int .i64 p.id,.string p.data] 35)):=hide ⟨hl0,ha2,ha1,hp1⟩;have SY:Hid (∀ z:World,z.heap[A]?=some (.cells ca 29)→z.heap[P]?=some (.cells #[.int .i64 p.code,.int .i64 p.id,.string p.data] 35)→(z.heap[A]?=some (.cells ca.toList.toArray 29)∧z.cell? ⟨P,0,none⟩=some (.int .i64 p.code)∧z.cell? ⟨P,1,none⟩=some (.int .i64 p.id)∧z.cell? ⟨P,2,none⟩=some (.string p.data))):=hide fun z h1 h2=>⟨h1,(row3d h2).1,(row3d h2).2.1,(row3d h2).2.2.1⟩
      clear hl0 ha1 ha2 hp1 HR;refine wp_region_held_drew (S:=fun z=>z.heap[A]?=some (.cells ca.toList.toArray 29)∧z.cell? ⟨P,0,none⟩=some (.int .i64 p.code)∧z.cell? ⟨P,1,none⟩=some (.int .i64 p.id)∧z.cell? ⟨P,2,none⟩=some (.string p.data)) (by kernel_rfl) (uh SY _ (uh HY).2.2.1 (uh HY).2.2.2) (fun hHeld=>?_);replace HY:Hid (L0 w B sl n w7.drew∧EnR9 w7.drew ca∧w7.drew.heap[A]?=some (.cells ca 29)∧w7.drew.heap[P]?=some (.cells #[.int .i64 p.code,.int .i64 p.id,.string p.data] 35)):=hide ⟨(uh HY).1.below ((Below.refl _ _).drew),(uh HY).2.1.keep fun _ _ _=>rfl,(uh HY).2.2.1,(uh HY).2.2.2⟩;generalize w7.drew=yy at HY hHeld ⊢;refine t4 0 (.agg ca) rfl (yieldsIf_load_mid (by rfl) 29 (.tmp 5) rfl A 0 rfl ca.toList _ (fun z hz=>rangeRow hz.1) underlying29 rfl (by rw [Array.length_toList,la];exact infoE)) ?_;try simp only [Act.put,sA,sZ,sS,gA,gZ]
      refine t2 1 ?_;refine t2 2 ?_;refine r1 3 rfl (fun K hK=>?_);rw [if_pos (by rfl)];refine wp_store_row 29 (.tmp 2) (.tmp 146) rfl w.heap.size ca rfl rfl 29 enZ (uh HY).1.r2 (by rw [la];exact infoE) (by rw [la];rfl) lo ?_;have H5:=hide (put9 (uh HY).1 (uh HY).2.1 (uh HY).2.2.1 (uh HY).2.2.2 nR.1 nR.2.2.1);refine ro hK (uh SY _ (uh H5).2.1 (uh H5).2.2.1) fun _=>?_
      clear hK K;generalize yy.setRow w.heap.size ca=yz at H5 ⊢;have hSz:=uh SY _ (uh H5).2.1 (uh H5).2.2.1;refine t2 4 ?_;refine r1 5 rfl (fun K hK=>?_);obtain ⟨k0,k1,k2,f0,f1,f2⟩:=row3d (uh H5).1.2.2.1;have H6:=hide (put9b (p:=p) (uh H5).1 nR.2.1 nR.2.2.2);go_simp;refine ro hK (uh SY _ ((uh H6).2.2 A _ (Or.inl nR.2.1) (uh H5).2.1) ((uh H6).2.2 P _ (Or.inl nR.2.2.2) (uh H5).2.2.1)) fun _=>?_
      clear hK K;refine dn ?_ _;go_wp2_with fail
      refine bodyPost_ret (v:=.tuple #[.agg ca,.int .i64 _,.agg #[.int .i64 p.code,.int .i64 p.id,.string p.data]]) (by simp [results,results25,asAddr,Act.put,(uh H6).1.2];first | exact ⟨rfl,rfl,rfl⟩ | exact ⟨rfl,rfl⟩ | rfl) rfl ⟨ca,_,p,rfl,(uh H6).2.1,(uh H6).1.1.1,(uh H6).1.1.2⟩
   ·have d1:(0:Int)<((k+1:Nat):Int):=by omega
    obtain ⟨M,hM⟩:∃ M,(12 - (k+1))*11000=M:=⟨_,rfl⟩;rw [hM] at HQ0;obtain ⟨Q,hq,hQl⟩:=(uh HQ0).q;obtain ⟨qa,qc,rfl⟩:=hq.form;have HQ:=hide (And.intro hq hQl);clear hq hQl;have hbX:=(uh HQ0).z
    go_upto_region 12 with (first
     | (refine wpList_buildTo rfl 42 _ rfl (some 37) rfl (eoC enZero (.slice none 0 0) (.slice none 0 0) (.slice none 0 0) (.slice none 0 0) 8) (by as_aux_lemma=>kernel_rfl) ?_)
     | (refine wpList_store_rowTo rfl 42 (.tmp 11) (.tmp 37) rfl rfl wr.heap.size (eoC enZero (.slice none 0 0) (.slice none 0 0) (.slice none 0 0) (.slice none 0 0) 8) rfl rfl 42 eoZ (heap_alloc_new wr _) infoEo rfl (eoC_all _ _ _ _ _ _ _ _ _ _ _ _ _ _) ?_))
    refine gen_world (fun q=>LJ w B sl n (P+1) A C P M wr.heap.size (eoC enZero (.slice none 0 0) (.slice none 0 0) (.slice none 0 0) (.slice none 0 0) 8) 8 none 0 [] (.slice qa Q.length qc) q∧HoldsK q (P+1) (.slice qa Q.length qc) Q) ?_ ?_
    ·have hbX2:Below wr.heap.size wr ((wr.alloc (.cells eoZ 42)).setRow wr.heap.size (eoC enZero (.slice none 0 0) (.slice none 0 0) (.slice none 0 0) (.slice none 0 0) 8)):=below_row ((Below.refl _ _).alloc (Nat.le_refl _) _) (Nat.le_refl _) _;exact ⟨⟨(uh HQ0).below hbX2,setRow_heap _ _ _ _ _ _ (heap_alloc_new wr _),anR9_zero _ _,fun h=>absurd rfl h,hbX⟩,(uh HQ).1.keep fun g cur _ _ hg=>hbX2.block g (lt_of_row hg)⟩
    intro q hqq;have H9':=hide hqq;generalize wr.heap.size=X at *;clear hqq HQ0;go_wp2_with fail
    refine (src_n _ B sl n 8 (by decide) hn (uh H9').1.z.s (uh DB _ (uh H9').1.z.g)).mono ?_;rintro e w9 ⟨r9,rfl,hr9',hS9,ht9⟩;have H9:=hide ((uh H9').1.nigh (Nigh.of_touch ht9) hS9);have HQ2:=hide (And.intro ((uh H9').2.keep fun g cur _ _ hg=>ht9.block g ((uh H9').1.z.s.ty hg (by decide))) (uh HQ).2);clear HQ;have HQ:=HQ2;have hr9:r9=0∨r9=1∨r9=2∨r9=3∨r9=4∨4<r9:=by omega
    clear hS9 ht9 hr9' H9' HQ2;obtain ⟨cs,cd,a5,c5,sn,hJ9⟩:LX w B sl n (P+1) A C P M X (.slice qa Q.length qc) w9:=⟨_,_,_,_,_,uh H9⟩;clear H9;have H9:=hide hJ9;clear hJ9;rename_i K2 hK2 K1 hK1
    refine hK1 _ _ ?_;show K2 _ _
    refine hK2 _ _ ?_;go_cut [7,9] (fun x7 x9 wx=>(∃ nw,x7=.int .i64 nw)∧LX w B sl n (P+1) A C P (M+100) X x9 wx)
    case first =>
     clear hK2 hK1 K2 K1;rcases hr9 with rfl | rfl | rfl | rfl | rfl | hr9
     ·go_upto_region 19 with fail
      obtain ⟨ca,ha1,ha2⟩:=(uh H9).z.a;have la:=ha2.size;have lo:=ha2.one;have EA:Hid (LA w B sl n (P+1) A C P M X cs cd a5 c5 sn (.slice qa Q.length qc) A ca (w.heap.size+1) #[.int .i64 0,.int .i64 0,.string ⟨#[]⟩] w9):=hide ⟨uh H9,ha1,ha2,(uh H9).z.r4⟩;clear ha1 ha2;have SY:Hid (∀ z:World,z.heap[A]?=some (.cells ca 29)→z.heap[A]?=some (.cells ca.toList.toArray 29)):=hide fun z h=>h
      have E0:=hide ((uh EA).below (Below.refl _ _).drew);refine wp_region_held_drew (S:=fun z=>z.heap[A]?=some (.cells ca.toList.toArray 29)) (by kernel_rfl) (uh SY _ (uh E0).a) (fun hHeld=>?_);generalize w9.drew=yy at E0 hHeld ⊢;refine t4 0 (.agg ca) rfl (yieldsIf_load_mid (by rfl) 29 (.tmp 5) rfl A 0 rfl ca.toList _ (fun z hz=>rangeRow hz) underlying29 rfl (by rw [Array.length_toList,la];exact infoE)) ?_;try simp only [Act.put,sA,sZ,sS,gA,gZ]
      refine t2 1 ?_;refine t2 4 ?_;refine r1 2 rfl (fun K hK=>?_);have hb21:Below yy.heap.size yy (yy.alloc (.cells #[.string ⟨#[85,112]⟩,.string ⟨#[79,112,101,110]⟩,.string ⟨#[85,112]⟩,.string ⟨#[79,112,101,110]⟩,.string ⟨#[67,108,111,115,101]⟩,.string ⟨#[68,111,119,110]⟩] 9)):=(Below.refl _ _).alloc (Nat.le_refl _) _;have E21:=hide ((uh E0).below hb21);have ltB21:B<yy.heap.size:=(uh E0).j.z.s.lt;have T21:=hide (heap_alloc_new yy (.cells #[.string ⟨#[85,112]⟩,.string ⟨#[79,112,101,110]⟩,.string ⟨#[85,112]⟩,.string ⟨#[79,112,101,110]⟩,.string ⟨#[67,108,111,115,101]⟩,.string ⟨#[68,111,119,110]⟩] 9));clear hb21;go_simp;refine ro hK (uh SY _ (uh E21).a) fun _=>?_
      clear hK K;generalize yy.heap.size=g21 at T21 ltB21 ⊢;generalize yy.alloc (.cells #[.string ⟨#[85,112]⟩,.string ⟨#[79,112,101,110]⟩,.string ⟨#[85,112]⟩,.string ⟨#[79,112,101,110]⟩,.string ⟨#[67,108,111,115,101]⟩,.string ⟨#[68,111,119,110]⟩] 9)=y21 at E21 T21 ⊢;have hS21:=uh SY _ (uh E21).a;refine r1 3 rfl (fun K hK=>?_);go_simp;refine (src_pick y21 B sl n (.slice (some ⟨g21,0,none⟩) 6 6) [⟨#[85,112]⟩,⟨#[79,112,101,110]⟩,⟨#[85,112]⟩,⟨#[79,112,101,110]⟩,⟨#[67,108,111,115,101]⟩,⟨#[68,111,119,110]⟩] hn (uh E21).j.z.s (uh DB _ (uh E21).j.z.g) (Or.inr ⟨g21,6,_,rfl,uh T21,by decide,fun j hj=>by
       have hj2:j<6:=hj;clear hj;match j,hj2 with
       | 0,_=>rfl
       | 1,_=>rfl
       | 2,_=>rfl
       | 3,_=>rfl
       | 4,_=>rfl
       | 5,_=>rfl⟩) (by decide) (by decide) (fun e=>Nat.ne_of_gt ltB21 (by injection e))).mono ?_
      rintro e y22 ⟨tt,rfl,_,hS9,ht22⟩;have E22:=hide ((uh E21).nigh (Nigh.of_touch ht22) hS9);clear ht22 hS9;go_wp2_with fail
      refine ro hK (uh SY _ (uh E22).a) fun _=>?_
      clear hK K;refine r1 5 rfl (fun K hK=>?_);go_simp;refine (dDo (uh E22).e tt nw).mono ?_;rintro e y23 ⟨ds,dd,b5,d5,tn,rfl,hA23,hs23,hb23⟩;have E23:=hide ((uh E22).below hb23);have A23:=hide (And.intro hA23 (And.intro hs23 hb23));clear hb23 hA23 hs23;go_wp2_with fail
      refine ro hK (uh SY _ (uh E23).a) fun _=>?_
      clear hK K;refine r1 6 rfl (fun K hK=>?_);have hX9:=(uh E22).put (uh HX) (uh A23).1 (uh A23).2.1 (uh A23).2.2;have ZF:=hide hX9.2;rw [if_pos (by rfl)];refine wp_store_row 42 (.tmp 11) (.tmp 60) rfl X ds rfl rfl 42 _ hX9.1 (by rw [(uh A23).1.sz];exact infoEo) (by rw [(uh A23).1.sz];exact (uh E22).j.r.sz) (uh A23).1.one ?_;clear hX9;refine ro hK (uh SY _ (uh ZF).a) fun _=>?_
      clear hK K;refine dn ?_ _;go_wp2_with fail
      go_meet;exact ⟨⟨_,rfl⟩,_,_,_,_,_,((uh ZF).j).mono (by omega)⟩
     ·go_upto_region 19 with fail
      obtain ⟨ca,ha1,ha2⟩:=(uh H9).z.a;have la:=ha2.size;have lo:=ha2.one;have EA:Hid (LA w B sl n (P+1) A C P M X cs cd a5 c5 sn (.slice qa Q.length qc) A ca (w.heap.size+1) #[.int .i64 0,.int .i64 0,.string ⟨#[]⟩] w9):=hide ⟨uh H9,ha1,ha2,(uh H9).z.r4⟩;clear ha1 ha2;have SY:Hid (∀ z:World,z.heap[A]?=some (.cells ca 29)→z.heap[A]?=some (.cells ca.toList.toArray 29)):=hide fun z h=>h
      have E0:=hide ((uh EA).below (Below.refl _ _).drew);refine wp_region_held_drew (S:=fun z=>z.heap[A]?=some (.cells ca.toList.toArray 29)) (by kernel_rfl) (uh SY _ (uh E0).a) (fun hHeld=>?_);generalize w9.drew=yy at E0 hHeld ⊢;refine t4 0 (.agg ca) rfl (yieldsIf_load_mid (by rfl) 29 (.tmp 5) rfl A 0 rfl ca.toList _ (fun z hz=>rangeRow hz) underlying29 rfl (by rw [Array.length_toList,la];exact infoE)) ?_;try simp only [Act.put,sA,sZ,sS,gA,gZ]
      refine t2 1 ?_;refine t2 4 ?_;refine r1 2 rfl (fun K hK=>?_);have hb21:Below yy.heap.size yy (yy.alloc (.cells #[.string ⟨#[85,112]⟩,.string ⟨#[79,112,101,110]⟩,.string ⟨#[85,112]⟩,.string ⟨#[79,112,101,110]⟩,.string ⟨#[67,108,111,115,101]⟩,.string ⟨#[68,111,119,110]⟩] 9)):=(Below.refl _ _).alloc (Nat.le_refl _) _;have E21:=hide ((uh E0).below hb21);have ltB21:B<yy.heap.size:=(uh E0).j.z.s.lt;have T21:=hide (heap_alloc_new yy (.cells #[.string ⟨#[85,112]⟩,.string ⟨#[79,112,101,110]⟩,.string ⟨#[85,112]⟩,.string ⟨#[79,112,101,110]⟩,.string ⟨#[67,108,111,115,101]⟩,.string ⟨#[68,111,119,110]⟩] 9));clear hb21;go_simp;refine ro hK (uh SY _ (uh E21).a) fun _=>?_
      clear hK K;generalize yy.heap.size=g21 at T21 ltB21 ⊢;generalize yy.alloc (.cells #[.string ⟨#[85,112]⟩,.string ⟨#[79,112,101,110]⟩,.string ⟨#[85,112]⟩,.string ⟨#[79,112,101,110]⟩,.string ⟨#[67,108,111,115,101]⟩,.string ⟨#[68,111,119,110]⟩] 9)=y21 at E21 T21 ⊢;have hS21:=uh SY _ (uh E21).a;refine r1 3 rfl (fun K hK=>?_);go_simp;refine (src_pick y21 B sl n (.slice (some ⟨g21,0,none⟩) 6 6) [⟨#[85,112]⟩,⟨#[79,112,101,110]⟩,⟨#[85,112]⟩,⟨#[79,112,101,110]⟩,⟨#[67,108,111,115,101]⟩,⟨#[68,111,119,110]⟩] hn (uh E21).j.z.s (uh DB _ (uh E21).j.z.g) (Or.inr ⟨g21,6,_,rfl,uh T21,by decide,fun j hj=>by
       have hj2:j<6:=hj;clear hj;match j,hj2 with
       | 0,_=>rfl
       | 1,_=>rfl
       | 2,_=>rfl
       | 3,_=>rfl
       | 4,_=>rfl
       | 5,_=>rfl⟩) (by decide) (by decide) (fun e=>Nat.ne_of_gt ltB21 (by injection e))).mono ?_
      rintro e y22 ⟨tt,rfl,_,hS9,ht22⟩;have E22:=hide ((uh E21).nigh (Nigh.of_touch ht22) hS9);clear ht22 hS9;go_wp2_with fail
      refine ro hK (uh SY _ (uh E22).a) fun _=>?_
      clear hK K;refine r1 5 rfl (fun K hK=>?_);go_simp;refine (dDo (uh E22).e tt nw).mono ?_;rintro e y23 ⟨ds,dd,b5,d5,tn,rfl,hA23,hs23,hb23⟩;have E23:=hide ((uh E22).below hb23);have A23:=hide (And.intro hA23 (And.intro hs23 hb23));clear hb23 hA23 hs23;go_wp2_with fail
      refine ro hK (uh SY _ (uh E23).a) fun _=>?_
      clear hK K;refine r1 6 rfl (fun K hK=>?_);have hX9:=(uh E22).put (uh HX) (uh A23).1 (uh A23).2.1 (uh A23).2.2;have ZF:=hide hX9.2;rw [if_pos (by rfl)];refine wp_store_row 42 (.tmp 11) (.tmp 60) rfl X ds rfl rfl 42 _ hX9.1 (by rw [(uh A23).1.sz];exact infoEo) (by rw [(uh A23).1.sz];exact (uh E22).j.r.sz) (uh A23).1.one ?_;clear hX9;refine ro hK (uh SY _ (uh ZF).a) fun _=>?_
      clear hK K;refine dn ?_ _;go_wp2_with fail
      go_meet;exact ⟨⟨_,rfl⟩,_,_,_,_,_,((uh ZF).j).mono (by omega)⟩
     ·go_upto_region 19 with fail
      obtain ⟨ca,ha1,ha2⟩:=(uh H9).z.a;have la:=ha2.size;have lo:=ha2.one;have EA:Hid (LA w B sl n (P+1) A C P M X cs cd a5 c5 sn (.slice qa Q.length qc) A ca (w.heap.size+1) #[.int .i64 0,.int .i64 0,.string ⟨#[]⟩] w9):=hide ⟨uh H9,ha1,ha2,(uh H9).z.r4⟩;clear ha1 ha2;have SY:Hid (∀ z:World,z.heap[A]?=some (.cells ca 29)→z.heap[A]?=some (.cells ca.toList.toArray 29)):=hide fun z h=>h
      have E0:=hide ((uh EA).below (Below.refl _ _).drew);refine wp_region_held_drew (S:=fun z=>z.heap[A]?=some (.cells ca.toList.toArray 29)) (by kernel_rfl) (uh SY _ (uh E0).a) (fun hHeld=>?_);generalize w9.drew=yy at E0 hHeld ⊢;refine t4 0 (.agg ca) rfl (yieldsIf_load_mid (by rfl) 29 (.tmp 5) rfl A 0 rfl ca.toList _ (fun z hz=>rangeRow hz) underlying29 rfl (by rw [Array.length_toList,la];exact infoE)) ?_;try simp only [Act.put,sA,sZ,sS,gA,gZ]
      refine t2 1 ?_;refine t2 4 ?_;refine r1 2 rfl (fun K hK=>?_);have hb21:Below yy.heap.size yy (yy.alloc (.cells #[.string ⟨#[85,112]⟩,.string ⟨#[79,112,101,110]⟩,.string ⟨#[85,112]⟩,.string ⟨#[79,112,101,110]⟩,.string ⟨#[67,108,111,115,101]⟩,.string ⟨#[68,111,119,110]⟩] 9)):=(Below.refl _ _).alloc (Nat.le_refl _) _;have E21:=hide ((uh E0).below hb21);have ltB21:B<yy.heap.size:=(uh E0).j.z.s.lt;have T21:=hide (heap_alloc_new yy (.cells #[.string ⟨#[85,112]⟩,.string ⟨#[79,112,101,110]⟩,.string ⟨#[85,112]⟩,.string ⟨#[79,112,101,110]⟩,.string ⟨#[67,108,111,115,101]⟩,.string ⟨#[68,111,119,110]⟩] 9));clear hb21;go_simp;refine ro hK (uh SY _ (uh E21).a) fun _=>?_
      clear hK K;generalize yy.heap.size=g21 at T21 ltB21 ⊢;generalize yy.alloc (.cells #[.string ⟨#[85,112]⟩,.string ⟨#[79,112,101,110]⟩,.string ⟨#[85,112]⟩,.string ⟨#[79,112,101,110]⟩,.string ⟨#[67,108,111,115,101]⟩,.string ⟨#[68,111,119,110]⟩] 9)=y21 at E21 T21 ⊢;have hS21:=uh SY _ (uh E21).a;refine r1 3 rfl (fun K hK=>?_);go_simp;refine (src_pick y21 B sl n (.slice (some ⟨g21,0,none⟩) 6 6) [⟨#[85,112]⟩,⟨#[79,112,101,110]⟩,⟨#[85,112]⟩,⟨#[79,112,101,110]⟩,⟨#[67,108,111,115,101]⟩,⟨#[68,111,119,110]⟩] hn (uh E21).j.z.s (uh DB _ (uh E21).j.z.g) (Or.inr ⟨g21,6,_,rfl,uh T21,by decide,fun j hj=>by
       have hj2:j<6:=hj;clear hj;match j,hj2 with
       | 0,_=>rfl
       | 1,_=>rfl
       | 2,_=>rfl
       | 3,_=>rfl
       | 4,_=>rfl
       | 5,_=>rfl⟩) (by decide) (by decide) (fun e=>Nat.ne_of_gt ltB21 (by injection e))).mono ?_
      rintro e y22 ⟨tt,rfl,_,hS9,ht22⟩;have E22:=hide ((uh E21).nigh (Nigh.of_touch ht22) hS9);clear ht22 hS9;go_wp2_with fail
      refine ro hK (uh SY _ (uh E22).a) fun _=>?_
      clear hK K;refine r1 5 rfl (fun K hK=>?_);go_simp;refine (dDo (uh E22).e tt nw).mono ?_;rintro e y23 ⟨ds,dd,b5,d5,tn,rfl,hA23,hs23,hb23⟩;have E23:=hide ((uh E22).below hb23);have A23:=hide (And.intro hA23 (And.intro hs23 hb23));clear hb23 hA23 hs23;go_wp2_with fail
      refine ro hK (uh SY _ (uh E23).a) fun _=>?_
      clear hK K;refine r1 6 rfl (fun K hK=>?_);have hX9:=(uh E22).put (uh HX) (uh A23).1 (uh A23).2.1 (uh A23).2.2;have ZF:=hide hX9.2;rw [if_pos (by rfl)];refine wp_store_row 42 (.tmp 11) (.tmp 60) rfl X ds rfl rfl 42 _ hX9.1 (by rw [(uh A23).1.sz];exact infoEo) (by rw [(uh A23).1.sz];exact (uh E22).j.r.sz) (uh A23).1.one ?_;clear hX9;refine ro hK (uh SY _ (uh ZF).a) fun _=>?_
      clear hK K;refine dn ?_ _;go_wp2_with fail
      go_meet;exact ⟨⟨_,rfl⟩,_,_,_,_,_,((uh ZF).j).mono (by omega)⟩
     ·go_wp2_with fail
      refine (src_n w9 B sl n 5 (by decide) hn (uh H9).z.s (uh DB _ (uh H9).z.g)).mono ?_;rintro e y1 ⟨r,rfl,hr,hS1,ht1⟩;have H10:=hide ((uh H9).nigh (Nigh.of_touch ht1) hS1);clear hS1 ht1 hr;obtain ⟨ca,ha1,ha2⟩:=(uh H10).z.a;have la:=ha2.size;have HE:=hide (And.intro ha1 ha2);clear ha1 ha2
      go_wp2_with (first
       | (refine wpList_load_row rfl 29 (.tmp 5) rfl A rfl 29 ca (0,0) _ (uh HE).1 underlying29 rfl (by rw [la];exact infoE) ?_))
      refine (dTick (uh HE).2 _).mono ?_;rintro e y2 ⟨ds,dd,b5,d5,tn,rfl,hA2,hs2,hb2⟩;have hX9:=LJ.put (uh H10).z (uh HX) (uh H10).x (uh H10).b hA2 hs2 hb2;have ZF:=hide hX9;have hsz:=hA2.sz;have hone:=hA2.one;clear hX9 hA2 hs2 hb2
      go_wp2_with (first
       | (refine wpList_store_rowTo rfl 42 (.tmp 11) (.tmp 69) rfl rfl X ds rfl rfl 42 _ (uh ZF).1 (by rw [hsz];exact infoEo) (by rw [hsz];exact (uh H10).r.sz) hone ?_))
      go_meet;exact ⟨⟨_,rfl⟩,_,_,_,_,_,(uh ZF).2.mono (by omega)⟩
     ·go_upto_region 24 with fail
      obtain ⟨ca,ha1,ha2⟩:=(uh H9).z.c;have la:=ha2.size;have lo:=ha2.one;have EA:Hid (LA w B sl n (P+1) A C P M X cs cd a5 c5 sn (.slice qa Q.length qc) C ca (w.heap.size+1) #[.int .i64 0,.int .i64 0,.string ⟨#[]⟩] w9):=hide ⟨uh H9,ha1,ha2,(uh H9).z.r4⟩;clear ha1 ha2;go_cut [12] (fun v wx=>LY w B sl n (P+1) A C P (M) X cs cd a5 c5 sn (.slice qa Q.length qc) v wx)
      case first =>
       have SY:Hid (∀ z:World,z.heap[C]?=some (.cells ca 29)→z.heap[C]?=some (.cells ca.toList.toArray 29)):=hide fun z h=>h
       have E0:=hide ((uh EA).below (Below.refl _ _).drew);refine wp_region_held_drew (S:=fun z=>z.heap[C]?=some (.cells ca.toList.toArray 29)) (by kernel_rfl) (uh SY _ (uh E0).a) (fun hHeld=>?_);generalize w9.drew=yy at E0 hHeld ⊢;refine t4 0 (.agg ca) rfl (yieldsIf_load_mid (by rfl) 29 (.tmp 6) rfl C 0 rfl ca.toList _ (fun z hz=>rangeRow hz) underlying29 rfl (by rw [Array.length_toList,la];exact infoE)) ?_;try simp only [Act.put,sA,sZ,sS,gA,gZ]
       refine t2 1 ?_;refine t2 4 ?_;refine wpAnyH_ready (rs:=[2,6]) (by kernel_rfl) (by simp) ?_;refine AllReadyH.cons rfl (fun K hK=>?_) (AllReadyH.cons rfl (fun K hK=>?_) (AllReadyH.nil))
       ·have hb21:Below yy.heap.size yy (yy.alloc (.cells #[.string ⟨#[85,112]⟩,.string ⟨#[79,112,101,110]⟩] 9)):=(Below.refl _ _).alloc (Nat.le_refl _) _;have E21:=hide ((uh E0).below hb21);have ltB21:B<yy.heap.size:=(uh E0).j.z.s.lt;have T21:=hide (heap_alloc_new yy (.cells #[.string ⟨#[85,112]⟩,.string ⟨#[79,112,101,110]⟩] 9));clear hb21;go_simp;refine ro hK (uh SY _ (uh E21).a) fun _=>?_
        clear hK K;generalize yy.heap.size=g21 at T21 ltB21 ⊢;generalize yy.alloc (.cells #[.string ⟨#[85,112]⟩,.string ⟨#[79,112,101,110]⟩] 9)=y21 at E21 T21 ⊢;have hS21:=uh SY _ (uh E21).a;refine wpAnyH_ready (rs:=[3,6]) (by kernel_rfl) (by simp) ?_;refine AllReadyH.cons rfl (fun K hK=>?_) (AllReadyH.cons rfl (fun K hK=>?_) (AllReadyH.nil))
        ·go_simp;refine (src_pick y21 B sl n (.slice (some ⟨g21,0,none⟩) 2 2) [⟨#[85,112]⟩,⟨#[79,112,101,110]⟩] hn (uh E21).j.z.s (uh DB _ (uh E21).j.z.g) (Or.inr ⟨g21,2,_,rfl,uh T21,by decide,fun j hj=>by
          have hj2:j<2:=hj;clear hj;match j,hj2 with
          | 0,_=>rfl
          | 1,_=>rfl⟩) (by decide) (by decide) (fun e=>Nat.ne_of_gt ltB21 (by injection e))).mono ?_
         rintro e y22 ⟨tt,rfl,_,hS9,ht22⟩;have E22:=hide ((uh E21).nigh (Nigh.of_touch ht22) hS9);clear ht22 hS9;go_wp2_with fail
         refine ro hK (uh SY _ (uh E22).a) fun _=>?_
         clear hK K;refine wpAnyH_ready (rs:=[5,6]) (by kernel_rfl) (by simp) ?_;refine AllReadyH.cons rfl (fun K hK=>?_) (AllReadyH.cons rfl (fun K hK=>?_) (AllReadyH.nil))
         ·go_simp;refine (dDo (uh E22).e tt nw).mono ?_;rintro e y23 ⟨ds,dd,b5,d5,tn,rfl,hA23,hs23,hb23⟩;have E23:=hide ((uh E22).below hb23);have AX23:=hide hA23;clear hb23 hA23 hs23;go_wp2_with fail
          refine ro hK (uh SY _ (uh E23).a) fun _=>?_
          clear hK K;refine r1 6 rfl (fun K hK=>?_);have hb24:Below y23.heap.size y23 (y23.alloc (.cells eoZ 42)):=(Below.refl _ _).alloc (Nat.le_refl _) _;have E24:=hide ((uh E23).below hb24);have hMB:Hid (X<y23.heap.size∧B<y23.heap.size):=hide ⟨lt_of_row (uh E23).j.x,(uh E23).j.z.s.lt⟩;have AN24:=hide ((uh AX23).keep (fun g _ hg=>hb24.block g (lt_of_row hg)) fun _ g _ _ hg=>hb24.block g (lt_of_row hg));have M24:=hide (heap_alloc_new y23 (.cells eoZ 42));clear hb24;go_simp;refine ro hK (uh SY _ (uh E24).a) fun _=>?_
          clear hK K;generalize y23.heap.size=N24 at M24 hMB ⊢;generalize (y23.alloc (.cells eoZ 42))=y24 at E24 M24 AN24 ⊢;have hS24:=uh SY _ (uh E24).a;refine r1 7 rfl (fun K hK=>?_);rw [if_pos (by rfl)];refine wp_store_row 42 (.tmp 12) (.tmp 77) rfl N24 ds rfl rfl 42 eoZ (uh M24) (by rw [(uh AN24).sz];exact infoEo) (by rw [(uh AN24).sz];rfl) (uh AN24).one ?_;have ZF:=hide (And.intro ((uh E24).row (uh HX) (uh M24) (uh hMB).1 ds) (And.intro (setRow_heap _ _ _ ds _ _ (uh M24)) ((uh AN24).row (d:=ds) (uh M24))));refine ro hK (uh SY _ (uh ZF).1.a) fun _=>?_
          clear hK K;refine dn ?_ _;go_wp2_with fail
          go_meet;exact ⟨_,ds,dd,b5,d5,tn,rfl,(uh ZF).1.j,(uh ZF).2.1,(uh ZF).2.2⟩
         ·have hb23:Below y22.heap.size y22 (y22.alloc (.cells eoZ 42)):=(Below.refl _ _).alloc (Nat.le_refl _) _;have E23:=hide ((uh E22).below hb23);have hMB:Hid (X<y22.heap.size∧B<y22.heap.size):=hide ⟨lt_of_row (uh E22).j.x,(uh E22).j.z.s.lt⟩;have M23:=hide (heap_alloc_new y22 (.cells eoZ 42));clear hb23;go_simp;refine ro hK (uh SY _ (uh E23).a) fun _=>?_
          clear hK K;generalize y22.heap.size=N23 at M23 hMB ⊢;generalize (y22.alloc (.cells eoZ 42))=y23 at E23 M23 ⊢;have hS23:=uh SY _ (uh E23).a;refine r1 5 rfl (fun K hK=>?_);go_simp;refine (dDo (uh E23).e tt nw).mono ?_;rintro e y24 ⟨ds,dd,b5,d5,tn,rfl,hA24,hs24,hb24⟩;have E24:=hide ((uh E23).below hb24);have M24:=hide ((hb24.block N23 (lt_of_row (uh M23))).trans (uh M23));have AX24:=hide hA24;clear hb24 hA24 hs24;go_wp2_with fail
          refine ro hK (uh SY _ (uh E24).a) fun _=>?_
          clear hK K;refine r1 7 rfl (fun K hK=>?_);rw [if_pos (by rfl)];refine wp_store_row 42 (.tmp 12) (.tmp 77) rfl N23 ds rfl rfl 42 eoZ (uh M24) (by rw [(uh AX24).sz];exact infoEo) (by rw [(uh AX24).sz];rfl) (uh AX24).one ?_;have ZF:=hide (And.intro ((uh E24).row (uh HX) (uh M24) (uh hMB).1 ds) (And.intro (setRow_heap _ _ _ ds _ _ (uh M24)) ((uh AX24).row (d:=ds) (uh M24))));refine ro hK (uh SY _ (uh ZF).1.a) fun _=>?_
          clear hK K;refine dn ?_ _;go_wp2_with fail
          go_meet;exact ⟨_,ds,dd,b5,d5,tn,rfl,(uh ZF).1.j,(uh ZF).2.1,(uh ZF).2.2⟩
        ·have hb22:Below y21.heap.size y21 (y21.alloc (.cells eoZ 42)):=(Below.refl _ _).alloc (Nat.le_refl _) _;have E22:=hide ((uh E21).below hb22);have hMB:Hid (X<y21.heap.size∧B<y21.heap.size):=hide ⟨lt_of_row (uh E21).j.x,(uh E21).j.z.s.lt⟩;have T22:=hide ((hb22.block g21 (lt_of_row (uh T21))).trans (uh T21));have M22:=hide (heap_alloc_new y21 (.cells eoZ 42));clear hb22;go_simp;refine ro hK (uh SY _ (uh E22).a) fun _=>?_
         clear hK K;generalize y21.heap.size=N22 at M22 hMB ⊢;generalize (y21.alloc (.cells eoZ 42))=y22 at E22 M22 T22 ⊢;have hS22:=uh SY _ (uh E22).a;refine r1 3 rfl (fun K hK=>?_);go_simp;refine (src_pick y22 B sl n (.slice (some ⟨g21,0,none⟩) 2 2) [⟨#[85,112]⟩,⟨#[79,112,101,110]⟩] hn (uh E22).j.z.s (uh DB _ (uh E22).j.z.g) (Or.inr ⟨g21,2,_,rfl,uh T22,by decide,fun j hj=>by
          have hj2:j<2:=hj;clear hj;match j,hj2 with
          | 0,_=>rfl
          | 1,_=>rfl⟩) (by decide) (by decide) (fun e=>Nat.ne_of_gt ltB21 (by injection e))).mono ?_
         rintro e y23 ⟨tt,rfl,_,hS9,ht23⟩;have E23:=hide ((uh E22).nigh (Nigh.of_touch ht23) hS9);have M23:=hide ((ht23.block N22 (by have:=(uh hMB).2;omega)).trans (uh M22));clear ht23 hS9;go_wp2_with fail
         refine ro hK (uh SY _ (uh E23).a) fun _=>?_
         clear hK K;refine r1 5 rfl (fun K hK=>?_);go_simp;refine (dDo (uh E23).e tt nw).mono ?_;rintro e y24 ⟨ds,dd,b5,d5,tn,rfl,hA24,hs24,hb24⟩;have E24:=hide ((uh E23).below hb24);have M24:=hide ((hb24.block N22 (lt_of_row (uh M23))).trans (uh M23));have AX24:=hide hA24;clear hb24 hA24 hs24;go_wp2_with fail
         refine ro hK (uh SY _ (uh E24).a) fun _=>?_
         clear hK K;refine r1 7 rfl (fun K hK=>?_);rw [if_pos (by rfl)];refine wp_store_row 42 (.tmp 12) (.tmp 77) rfl N22 ds rfl rfl 42 eoZ (uh M24) (by rw [(uh AX24).sz];exact infoEo) (by rw [(uh AX24).sz];rfl) (uh AX24).one ?_;have ZF:=hide (And.intro ((uh E24).row (uh HX) (uh M24) (uh hMB).1 ds) (And.intro (setRow_heap _ _ _ ds _ _ (uh M24)) ((uh AX24).row (d:=ds) (uh M24))));refine ro hK (uh SY _ (uh ZF).1.a) fun _=>?_
         clear hK K;refine dn ?_ _;go_wp2_with fail
         go_meet;exact ⟨_,ds,dd,b5,d5,tn,rfl,(uh ZF).1.j,(uh ZF).2.1,(uh ZF).2.2⟩
       ·have hb21:Below yy.heap.size yy (yy.alloc (.cells eoZ 42)):=(Below.refl _ _).alloc (Nat.le_refl _) _;have E21:=hide ((uh E0).below hb21);have hMB:Hid (X<yy.heap.size∧B<yy.heap.size):=hide ⟨lt_of_row (uh E0).j.x,(uh E0).j.z.s.lt⟩;have M21:=hide (heap_alloc_new yy (.cells eoZ 42));clear hb21;go_simp;refine ro hK (uh SY _ (uh E21).a) fun _=>?_
        clear hK K;generalize yy.heap.size=N21 at M21 hMB ⊢;generalize (yy.alloc (.cells eoZ 42))=y21 at E21 M21 ⊢;have hS21:=uh SY _ (uh E21).a;refine r1 2 rfl (fun K hK=>?_);have hb22:Below y21.heap.size y21 (y21.alloc (.cells #[.string ⟨#[85,112]⟩,.string ⟨#[79,112,101,110]⟩] 9)):=(Below.refl _ _).alloc (Nat.le_refl _) _;have E22:=hide ((uh E21).below hb22);have ltB22:B<y21.heap.size:=(uh E21).j.z.s.lt;have M22:=hide ((hb22.block N21 (lt_of_row (uh M21))).trans (uh M21));have T22:=hide (heap_alloc_new y21 (.cells #[.string ⟨#[85,112]⟩,.string ⟨#[79,112,101,110]⟩] 9));clear hb22;go_simp;refine ro hK (uh SY _ (uh E22).a) fun _=>?_
        clear hK K;generalize y21.heap.size=g22 at T22 ltB22 ⊢;generalize y21.alloc (.cells #[.string ⟨#[85,112]⟩,.string ⟨#[79,112,101,110]⟩] 9)=y22 at E22 T22 M22 ⊢;have hS22:=uh SY _ (uh E22).a;refine r1 3 rfl (fun K hK=>?_);go_simp;refine (src_pick y22 B sl n (.slice (some ⟨g22,0,none⟩) 2 2) [⟨#[85,112]⟩,⟨#[79,112,101,110]⟩] hn (uh E22).j.z.s (uh DB _ (uh E22).j.z.g) (Or.inr ⟨g22,2,_,rfl,uh T22,by decide,fun j hj=>by
         have hj2:j<2:=hj;clear hj;match j,hj2 with
         | 0,_=>rfl
         | 1,_=>rfl⟩) (by decide) (by decide) (fun e=>Nat.ne_of_gt ltB22 (by injection e))).mono ?_
        rintro e y23 ⟨tt,rfl,_,hS9,ht23⟩;have E23:=hide ((uh E22).nigh (Nigh.of_touch ht23) hS9);have M23:=hide ((ht23.block N21 (by have:=(uh hMB).2;omega)).trans (uh M22));clear ht23 hS9;go_wp2_with fail
        refine ro hK (uh SY _ (uh E23).a) fun _=>?_
        clear hK K;refine r1 5 rfl (fun K hK=>?_);go_simp;refine (dDo (uh E23).e tt nw).mono ?_;rintro e y24 ⟨ds,dd,b5,d5,tn,rfl,hA24,hs24,hb24⟩;have E24:=hide ((uh E23).below hb24);have M24:=hide ((hb24.block N21 (lt_of_row (uh M23))).trans (uh M23));have AX24:=hide hA24;clear hb24 hA24 hs24;go_wp2_with fail
        refine ro hK (uh SY _ (uh E24).a) fun _=>?_
        clear hK K;refine r1 7 rfl (fun K hK=>?_);rw [if_pos (by rfl)];refine wp_store_row 42 (.tmp 12) (.tmp 77) rfl N21 ds rfl rfl 42 eoZ (uh M24) (by rw [(uh AX24).sz];exact infoEo) (by rw [(uh AX24).sz];rfl) (uh AX24).one ?_;have ZF:=hide (And.intro ((uh E24).row (uh HX) (uh M24) (uh hMB).1 ds) (And.intro (setRow_heap _ _ _ ds _ _ (uh M24)) ((uh AX24).row (d:=ds) (uh M24))));refine ro hK (uh SY _ (uh ZF).1.a) fun _=>?_
        clear hK K;refine dn ?_ _;go_wp2_with fail
        go_meet;exact ⟨_,ds,dd,b5,d5,tn,rfl,(uh ZF).1.j,(uh ZF).2.1,(uh ZF).2.2⟩
      case rest =>
       obtain ⟨Y,ds,dd,b5,d5,tn,rfl,hJ,hY,hR⟩:=hcut;rename World=>z1
       have k32:z1.cell? ⟨Y,32,none⟩=some (.int .i64 dd):=by rw [cr hY];exact hR.kc
       have H11:=hide (And.intro hJ (And.intro hY hR));clear hJ hY hR;by_cases hdd:dd=0
       ·subst hdd;have rY:=World.rangeAt_of_block (uh H11).2.1 0 30;have h30:((ds.extract 0 30).toList).length=30:=by rw [Array.length_toList];exact (uh H11).2.2.en.size
        have hone:=(uh H11).2.2.en.one;have hen:=(uh H11).2.2.en.size;obtain ⟨cc,hc1,hc2⟩:=(uh H11).1.z.c;have hcz:=hc2.size;clear hc2;have k30:z1.cell? ⟨Y,30,none⟩=some (.slice b5 tn.length d5):=by rw [cr (uh H11).2.1];exact (uh H11).2.2.ks
        have nYC:Y≠C:=ne_ty (uh H11).2.1 hc1 (by decide);have k30b:(z1.setRow C (ds.extract 0 30)).cell? ⟨Y,30,none⟩=some (.slice b5 tn.length d5):=by rw [← k30];unfold World.cell?;rw [setRow_ne z1 C Y _ nYC]
        have HS:=hide (And.intro ((uh H11).1.setC (uh HX) (uh H11).2.2.en) (And.intro ((uh H11).2.2.rowE (d:=ds.extract 0 30) hc1) k30b));have HC1:=hide hc1;clear hc1 k30 nYC k30b
        go_upto_region 27 with (first
         | (refine wpList_load_mid rfl 29 (.tmp 81) rfl Y 0 rfl _ _ rY underlying29 rfl (by rw [h30];exact infoE) ?_)
         | (refine wpList_store_rowTo rfl 29 (.tmp 6) (.tmp 82) rfl rfl C (ds.extract 0 30) rfl rfl 29 cc (uh HC1) (by rw [hen];exact infoE) (by rw [hen];exact hcz) hone ?_))
        refine gen_world (fun q=>LJ w B sl n (P+1) A C P (M) X cs cd a5 c5 sn (.slice qa Q.length qc) q∧AnR9 q ds 0 b5 d5 tn∧q.cell? ⟨Y,30,none⟩=some (.slice b5 tn.length d5)) (uh HS) ?_;intro z2 hz2;clear HS HC1 H11 rY k32;have k30:=hz2.2.2;have H12:=hide (And.intro hz2.1 hz2.2.1);clear hz2;obtain ⟨Q9,q91,q92⟩:=(uh H12).1.z.q;have HQ9:=hide (And.intro q91 q92);have ltn:=(uh H12).2.le;clear q91 q92
        go_wp2_with (first
         | (refine append_k rfl _ _ rfl (P+1) (.slice qa Q.length qc) (.slice b5 tn.length d5) Q9 tn rfl rfl (uh HQ9).1 (uh H12).2.hp (by have:=(uh HQ9).2;omega) (by omega) (uh H12).1.z.z ?_;rintro v' z3 hq3 hg3 hv3;have H13:=hide ((uh H12).1.app (uh HX) (uh HQ9).2 hq3 (uh HQ9).1 hg3 hv3 (M+100) (by omega));clear hq3 hg3 hv3))
        go_meet;exact ⟨⟨_,rfl⟩,_,_,_,_,_,uh H13⟩
       ·have hd2:(dd == 0)=false:=beq_eq_false_iff_ne.2 hdd;have H13:=hide ((uh H11).1.mono (show M≤M+100 by omega));clear H11;go_wp2_with fail
        go_meet;exact ⟨⟨_,rfl⟩,_,_,_,_,_,uh H13⟩
     ·have b0:((r9:Int) == 0)=false:=beq_eq_false_iff_ne.2 (by omega);have b1:((r9:Int) == 1)=false:=beq_eq_false_iff_ne.2 (by omega);have b2:((r9:Int) == 2)=false:=beq_eq_false_iff_ne.2 (by omega);have b3:((r9:Int) == 3)=false:=beq_eq_false_iff_ne.2 (by omega);have b4:((r9:Int) == 4)=false:=beq_eq_false_iff_ne.2 (by omega);cases Q with
      | nil =>
       go_wp2_with fail
       go_meet;exact ⟨⟨_,rfl⟩,_,_,_,_,_,(uh H9).mono (by omega)⟩
      | cons p Q1 =>
       obtain ⟨gq,oq,cq,cur,ev,hk1,hk2,hk3,hk4⟩:=(uh HQ).1.fst;rw [List.length_cons] at *;injection ev with e1 e9 e2;clear e9;subst e1 e2;have d2:(0:Int)<((Q1.length+1:Nat):Int):=by omega
       go_upto_region 14 with fail
       obtain ⟨ca,ha1,ha2⟩:=(uh H9).z.a;have la:=ha2.size;have lo:=ha2.one;have EA:Hid (LA w B sl n (P+1) A C P M X cs cd a5 c5 sn (.slice (some ⟨gq,oq,none⟩) (Q1.length+1) (cq+1)) A ca gq cur w9):=hide ⟨uh H9,ha1,ha2,hk1⟩;clear ha1 ha2;have SY:Hid (∀ z:World,z.heap[A]?=some (.cells ca 29)→z.heap[gq]?=some (.cells cur 35)→z.heap[A]?=some (.cells ca.toList.toArray 29)∧z.cell? ⟨gq,oq,none⟩=some (.int .i64 p.code)∧z.cell? ⟨gq,oq+1,none⟩=some (.int .i64 p.id)∧z.cell? ⟨gq,oq+2,none⟩=some (.string p.data)):=hide fun z h k=>⟨h,by rw [cr k];exact hk2,by rw [cr k];exact hk3,by rw [cr k];exact hk4⟩
       clear hk1 hk2 hk3 hk4;go_cut [] (fun wx=>LX w B sl n (P+1) A C P M X (.slice (some ⟨gq,oq,none⟩) (Q1.length+1) (cq+1)) wx)
       case first =>
        have E0:=hide ((uh EA).below (Below.refl _ _).drew);refine wp_region_held_drew (S:=fun z=>z.heap[A]?=some (.cells ca.toList.toArray 29)∧z.cell? ⟨gq,oq,none⟩=some (.int .i64 p.code)∧z.cell? ⟨gq,oq+1,none⟩=some (.int .i64 p.id)∧z.cell? ⟨gq,oq+2,none⟩=some (.string p.data)) (by kernel_rfl) (uh SY _ (uh E0).a (uh E0).k) (fun hHeld=>?_);generalize w9.drew=yy at E0 hHeld ⊢;refine t4 0 (.agg ca) rfl (yieldsIf_load_mid (by rfl) 29 (.tmp 5) rfl A 0 rfl ca.toList _ (fun z hz=>rangeRow hz.1) underlying29 rfl (by rw [Array.length_toList,la];exact infoE)) ?_;try simp only [Act.put,sA,sZ,sS,gA,gZ]
        refine t2 1 ?_;refine t2 2 ?_;refine t2 3 ?_;refine t2 4 ?_;refine r1 5 rfl (fun K hK=>?_);go_simp;refine (dHear (uh E0).e p nw).mono ?_;rintro e y21 ⟨ds,dd,b5,d5,tn,rfl,hA21,hs21,hb21⟩;have E21:=hide ((uh E0).below hb21);have A21:=hide (And.intro hA21 (And.intro hs21 hb21));clear hb21 hA21 hs21;go_wp2_with fail
        refine ro hK (uh SY _ (uh E21).a (uh E21).k) fun _=>?_
        clear hK K;refine r1 6 rfl (fun K hK=>?_);have hX9:=(uh E0).put (uh HX) (uh A21).1 (uh A21).2.1 (uh A21).2.2;have ZF:=hide hX9.2;rw [if_pos (by rfl)];refine wp_store_row 42 (.tmp 11) (.tmp 48) rfl X ds rfl rfl 42 _ hX9.1 (by rw [(uh A21).1.sz];exact infoEo) (by rw [(uh A21).1.sz];exact (uh E0).j.r.sz) (uh A21).1.one ?_;clear hX9;refine ro hK (uh SY _ (uh ZF).a (uh ZF).k) fun _=>?_
        clear hK K;refine dn ?_ _;go_wp2_with fail
        go_meet;exact ⟨_,_,_,_,_,(uh ZF).j⟩
       case rest =>
        obtain ⟨ds,dd,b5,d5,tn,hJ⟩:=hcut;rename World=>z1
        obtain ⟨b9,hb9,hb8,hsl⟩:=slice_k gq oq Q1.length cq;have H10:=hide hJ;clear hJ EA;go_wp2_with fail
        go_meet;exact ⟨⟨_,rfl⟩,_,_,_,_,_,((uh H10).tail hb9 hb8).mono (by omega)⟩
    case rest =>
     obtain ⟨⟨nw,rfl⟩,cs,cd,a5,c5,sn,hJ⟩:=hcut;rename World=>z0
     have k32:z0.cell? ⟨X,32,none⟩=some (.int .i64 cd):=by rw [cr hJ.x];exact hJ.r.kc
     have H13:=hide hJ;have hle:=hJ.r.le;clear hJ H9;by_cases hcd:cd=0
     ·subst hcd;have rX:=World.rangeAt_of_block (uh H13).x 0 30;have h30:((cs.extract 0 30).toList).length=30:=by rw [Array.length_toList];exact (uh H13).r.en.size
      have hone:=(uh H13).r.en.one;have hen:=(uh H13).r.en.size;obtain ⟨cc,hc1,hc2⟩:=(uh H13).z.a;have hcz:=hc2.size;clear hc2;have HS:=hide ((uh H13).setA (uh HX) (uh H13).r.en);have HC1:=hide hc1;clear hc1
      go_upto_region 31 with (first
       | (refine wpList_load_mid rfl 29 (.tmp 90) rfl X 0 rfl _ _ rX underlying29 rfl (by rw [h30];exact infoE) ?_)
       | (refine wpList_store_rowTo rfl 29 (.tmp 5) (.tmp 91) rfl rfl A (cs.extract 0 30) rfl rfl 29 cc (uh HC1) (by rw [hen];exact infoE) (by rw [hen];exact hcz) hone ?_))
      refine gen_world (fun q=>LJ w B sl n (P+1) A C P (M+100) X cs 0 a5 c5 sn u9 q) (uh HS) ?_;intro z2 hz2;have H14:=hide hz2;clear hz2 HS HC1 H13 rX k32;go_loopw [9,13] (fun x9 x13 wr=>∃ i:Nat,i≤sn.length∧x13=.int .i64 (i:Nat)∧LJ w B sl n (P+1) A C P (M+100+i*100) X cs 0 a5 c5 sn x9 wr) (fun _ x13 _=>sn.length - (intOf x13).toNat)
      case atStart=>exact ⟨0,Nat.zero_le _,rfl,by rw [Nat.zero_mul,Nat.add_zero];exact uh H14⟩
      case round =>
       obtain ⟨i,hi,rfl,hj⟩:=hrel;have HI:=hide hj;have k30:wr.cell? ⟨X,30,none⟩=some (.slice a5 sn.length c5):=by rw [cr hj.x];exact hj.r.ks
       have hle:=hj.r.le;clear hj H14;by_cases hlt:i<sn.length
       ·have d3:(i:Int)<(sn.length:Int):=by omega
        obtain ⟨gs,cur,p,ea,hk1,hk2,hk3,hk4⟩:=HoldsP.ith (uh HI).r.hp hlt;subst ea;go_upto_region 33 with fail
        obtain ⟨ca,ha1,ha2⟩:=(uh HI).z.c;have la:=ha2.size;have lo:=ha2.one;have EA:Hid (LA w B sl n (P+1) A C P (M+100+i*100) X cs 0 (some ⟨gs,0,none⟩) c5 sn u9 C ca gs cur wr):=hide ⟨uh HI,ha1,ha2,hk1⟩;clear ha1 ha2;have ks9:=(uh HI).r.ks;have SY:Hid (∀ z:World,z.heap[C]?=some (.cells ca 29)→z.heap[gs]?=some (.cells cur 35)→z.heap[X]?=some (.cells cs 42)→z.heap[C]?=some (.cells ca.toList.toArray 29)∧z.cell? ⟨X,30,none⟩=some (.slice (some ⟨gs,0,none⟩) sn.length c5)∧z.cell? ⟨gs,i*3,none⟩=some (.int .i64 p.code)∧z.cell? ⟨gs,i*3+1,none⟩=some (.int .i64 p.id)∧z.cell? ⟨gs,i*3+2,none⟩=some (.string p.data)):=hide fun z h k m=>⟨h,by rw [cr m];exact ks9,by rw [cr k];exact hk2,by rw [cr k];exact hk3,by rw [cr k];exact hk4⟩
        clear hk1 hk2 hk3 hk4 ks9 k30;go_cut [14] (fun v wx=>LY w B sl n (P+1) A C P (M+100+i*100) X cs 0 (some ⟨gs,0,none⟩) c5 sn u9 v wx)
        case first =>
         have E0:=hide ((uh EA).below (Below.refl _ _).drew);refine wp_region_held_drew (S:=fun z=>z.heap[C]?=some (.cells ca.toList.toArray 29)∧z.cell? ⟨X,30,none⟩=some (.slice (some ⟨gs,0,none⟩) sn.length c5)∧z.cell? ⟨gs,i*3,none⟩=some (.int .i64 p.code)∧z.cell? ⟨gs,i*3+1,none⟩=some (.int .i64 p.id)∧z.cell? ⟨gs,i*3+2,none⟩=some (.string p.data)) (by kernel_rfl) (uh SY _ (uh E0).a (uh E0).k (uh E0).j.x) (fun hHeld=>?_);generalize wr.drew=yy at E0 hHeld ⊢;refine t4 0 (.agg ca) rfl (yieldsIf_load_mid (by rfl) 29 (.tmp 6) rfl C 0 rfl ca.toList _ (fun z hz=>rangeRow hz.1) underlying29 rfl (by rw [Array.length_toList,la];exact infoE)) ?_;try simp only [Act.put,sA,sZ,sS,gA,gZ]
         refine t2 1 ?_;refine t2 2 ?_;refine t2 3 ?_;refine t2 4 ?_;refine t2 5 ?_;refine t2 6 ?_;refine wpAnyH_ready (rs:=[7,8]) (by kernel_rfl) (by simp) ?_;refine AllReadyH.cons rfl (fun K hK=>?_) (AllReadyH.cons rfl (fun K hK=>?_) (AllReadyH.nil))
         ·go_simp;refine (dHear (uh E0).e p nw).mono ?_;rintro e y21 ⟨ds,dd,b5,d5,tn,rfl,hA21,hs21,hb21⟩;have E21:=hide ((uh E0).below hb21);have AX21:=hide hA21;clear hb21 hA21 hs21;go_wp2_with fail
          refine ro hK (uh SY _ (uh E21).a (uh E21).k (uh E21).j.x) fun _=>?_
          clear hK K;refine r1 8 rfl (fun K hK=>?_);have hb22:Below y21.heap.size y21 (y21.alloc (.cells eoZ 42)):=(Below.refl _ _).alloc (Nat.le_refl _) _;have E22:=hide ((uh E21).below hb22);have hMB:Hid (X<y21.heap.size∧B<y21.heap.size):=hide ⟨lt_of_row (uh E21).j.x,(uh E21).j.z.s.lt⟩;have AN22:=hide ((uh AX21).keep (fun g _ hg=>hb22.block g (lt_of_row hg)) fun _ g _ _ hg=>hb22.block g (lt_of_row hg));have M22:=hide (heap_alloc_new y21 (.cells eoZ 42));clear hb22;go_simp;refine ro hK (uh SY _ (uh E22).a (uh E22).k (uh E22).j.x) fun _=>?_
          clear hK K;generalize y21.heap.size=N22 at M22 hMB ⊢;generalize (y21.alloc (.cells eoZ 42))=y22 at E22 M22 AN22 ⊢;have hS22:=uh SY _ (uh E22).a (uh E22).k (uh E22).j.x;refine r1 9 rfl (fun K hK=>?_);rw [if_pos (by rfl)];refine wp_store_row 42 (.tmp 14) (.tmp 106) rfl N22 ds rfl rfl 42 eoZ (uh M22) (by rw [(uh AN22).sz];exact infoEo) (by rw [(uh AN22).sz];rfl) (uh AN22).one ?_;have ZF:=hide (And.intro ((uh E22).row (uh HX) (uh M22) (uh hMB).1 ds) (And.intro (setRow_heap _ _ _ ds _ _ (uh M22)) ((uh AN22).row (d:=ds) (uh M22))));refine ro hK (uh SY _ (uh ZF).1.a (uh ZF).1.k (uh ZF).1.j.x) fun _=>?_
          clear hK K;refine dn ?_ _;go_wp2_with fail
          go_meet;exact ⟨_,ds,dd,b5,d5,tn,rfl,(uh ZF).1.j,(uh ZF).2.1,(uh ZF).2.2⟩
         ·have hb21:Below yy.heap.size yy (yy.alloc (.cells eoZ 42)):=(Below.refl _ _).alloc (Nat.le_refl _) _;have E21:=hide ((uh E0).below hb21);have hMB:Hid (X<yy.heap.size∧B<yy.heap.size):=hide ⟨lt_of_row (uh E0).j.x,(uh E0).j.z.s.lt⟩;have M21:=hide (heap_alloc_new yy (.cells eoZ 42));clear hb21;go_simp;refine ro hK (uh SY _ (uh E21).a (uh E21).k (uh E21).j.x) fun _=>?_
          clear hK K;generalize yy.heap.size=N21 at M21 hMB ⊢;generalize (yy.alloc (.cells eoZ 42))=y21 at E21 M21 ⊢;have hS21:=uh SY _ (uh E21).a (uh E21).k (uh E21).j.x;refine r1 7 rfl (fun K hK=>?_);go_simp;refine (dHear (uh E21).e p nw).mono ?_;rintro e y22 ⟨ds,dd,b5,d5,tn,rfl,hA22,hs22,hb22⟩;have E22:=hide ((uh E21).below hb22);have M22:=hide ((hb22.block N21 (lt_of_row (uh M21))).trans (uh M21));have AX22:=hide hA22;clear hb22 hA22 hs22;go_wp2_with fail
          refine ro hK (uh SY _ (uh E22).a (uh E22).k (uh E22).j.x) fun _=>?_
          clear hK K;refine r1 9 rfl (fun K hK=>?_);rw [if_pos (by rfl)];refine wp_store_row 42 (.tmp 14) (.tmp 106) rfl N21 ds rfl rfl 42 eoZ (uh M22) (by rw [(uh AX22).sz];exact infoEo) (by rw [(uh AX22).sz];rfl) (uh AX22).one ?_;have ZF:=hide (And.intro ((uh E22).row (uh HX) (uh M22) (uh hMB).1 ds) (And.intro (setRow_heap _ _ _ ds _ _ (uh M22)) ((uh AX22).row (d:=ds) (uh M22))));refine ro hK (uh SY _ (uh ZF).1.a (uh ZF).1.k (uh ZF).1.j.x) fun _=>?_
          clear hK K;refine dn ?_ _;go_wp2_with fail
          go_meet;exact ⟨_,ds,dd,b5,d5,tn,rfl,(uh ZF).1.j,(uh ZF).2.1,(uh ZF).2.2⟩
        case rest =>
         clear EA HI SY;obtain ⟨Y,ds,dd,b5,d5,tn,rfl,hJ,hY,hR⟩:=hcut;rename World=>z1
         have k32:z1.cell? ⟨Y,32,none⟩=some (.int .i64 dd):=by rw [cr hY];exact hR.kc
         have H11:=hide (And.intro hJ (And.intro hY hR));clear hJ hY hR;by_cases hdd:dd=0
         ·subst hdd;have rY:=World.rangeAt_of_block (uh H11).2.1 0 30;have h30:((ds.extract 0 30).toList).length=30:=by rw [Array.length_toList];exact (uh H11).2.2.en.size
          have hone:=(uh H11).2.2.en.one;have hen:=(uh H11).2.2.en.size;obtain ⟨cc,hc1,hc2⟩:=(uh H11).1.z.c;have hcz:=hc2.size;clear hc2;have k30:z1.cell? ⟨Y,30,none⟩=some (.slice b5 tn.length d5):=by rw [cr (uh H11).2.1];exact (uh H11).2.2.ks
          have nYC:Y≠C:=ne_ty (uh H11).2.1 hc1 (by decide);have k30b:(z1.setRow C (ds.extract 0 30)).cell? ⟨Y,30,none⟩=some (.slice b5 tn.length d5):=by rw [← k30];unfold World.cell?;rw [setRow_ne z1 C Y _ nYC]
          have HS:=hide (And.intro ((uh H11).1.setC (uh HX) (uh H11).2.2.en) (And.intro ((uh H11).2.2.rowE (d:=ds.extract 0 30) hc1) k30b));have HC1:=hide hc1;clear hc1 k30 nYC k30b
          go_upto_region 36 with (first
           | (refine wpList_load_mid rfl 29 (.tmp 110) rfl Y 0 rfl _ _ rY underlying29 rfl (by rw [h30];exact infoE) ?_)
           | (refine wpList_store_rowTo rfl 29 (.tmp 6) (.tmp 111) rfl rfl C (ds.extract 0 30) rfl rfl 29 cc (uh HC1) (by rw [hen];exact infoE) (by rw [hen];exact hcz) hone ?_))
          refine gen_world (fun q=>LJ w B sl n (P+1) A C P (M+100+i*100) X cs 0 (some ⟨gs,0,none⟩) c5 sn u9 q∧AnR9 q ds 0 b5 d5 tn∧q.cell? ⟨Y,30,none⟩=some (.slice b5 tn.length d5)) (uh HS) ?_;intro z2 hz2;clear HS HC1 H11 rY k32;have k30:=hz2.2.2;have H12:=hide (And.intro hz2.1 hz2.2.1);clear hz2;obtain ⟨Q9,q91,q92⟩:=(uh H12).1.z.q;have HQ9:=hide (And.intro q91 q92);have ltn:=(uh H12).2.le;clear q91 q92
          go_wp2_with (first
           | (refine append_k rfl _ _ rfl (P+1) u9 (.slice b5 tn.length d5) Q9 tn rfl rfl (uh HQ9).1 (uh H12).2.hp (by have:=(uh HQ9).2;omega) (by omega) (uh H12).1.z.z ?_;rintro v' z3 hq3 hg3 hv3;have H13:=hide ((uh H12).1.app (uh HX) (uh HQ9).2 hq3 (uh HQ9).1 hg3 hv3 (M+100+i*100+100) (by omega));clear hq3 hg3 hv3))
          go_roundw
          case rel=>exact ⟨i+1,by omega,by go_num,by rw [show M+100+(i+1)*100=M+100+i*100+100 by omega];exact uh H13⟩
          case measure=>simp [intOf];omega
         ·have hd2:(dd == 0)=false:=beq_eq_false_iff_ne.2 hdd;have H13:=hide ((uh H11).1.mono (show M+100+i*100≤M+100+i*100+100 by omega));clear H11;go_wp2_with fail
          go_roundw
          case rel=>exact ⟨i+1,by omega,by go_num,by rw [show M+100+(i+1)*100=M+100+i*100+100 by omega];exact uh H13⟩
          case measure=>simp [intOf];omega
       ·have d3:¬ ((i:Int)<(sn.length:Int)):=by omega
        go_wp2_with fail
        go_roundg k
        case rel=>exact ⟨rfl,by omega,⟨nw,rfl⟩,((uh HI).z.mono (by omega))⟩
        case measure=>exact Nat.lt_succ_self _
     ·have hc2:(cd != 0)=true:=bne_iff_ne.2 hcd;go_wp2_with fail
      go_roundg k
      case rel=>exact ⟨rfl,by omega,⟨nw,rfl⟩,((uh H13).z.mono (by omega))⟩
      case measure=>exact Nat.lt_succ_self _
 ·go_upto_region 6 with fail
  have HR:=hide (And.intro (uh H7).1 (And.intro (uh H7).2.1 (uh H7).2.2.2));obtain ⟨hl0,⟨ca,ha1,ha2⟩,⟨p,hp1⟩⟩:=uh HR;have la:=ha2.size;have lo:=ha2.one;have HY:Hid (L0 w B sl n w7∧EnR9 w7 ca∧w7.heap[A]?=some (.cells ca 29)∧w7.heap[P]?=some (.cells #[.int .i64 p.code,.int .i64 p.id,.string p.data] 35)):=hide ⟨hl0,ha2,ha1,hp1⟩;have SY:Hid (∀ z:World,z.heap[A]?=some (.cells ca 29)→z.heap[P]?=some (.cells #[.int .i64 p.code,.int .i64 p.id,.string p.data] 35)→(z.heap[A]?=some (.cells ca.toList.toArray 29)∧z.cell? ⟨P,0,none⟩=some (.int .i64 p.code)∧z.cell? ⟨P,1,none⟩=some (.int .i64 p.id)∧z.cell? ⟨P,2,none⟩=some (.string p.data))):=hide fun z h1 h2=>⟨h1,(row3d h2).1,(row3d h2).2.1,(row3d h2).2.2.1⟩
  clear hl0 ha1 ha2 hp1 HR;refine wp_region_held_drew (S:=fun z=>z.heap[A]?=some (.cells ca.toList.toArray 29)∧z.cell? ⟨P,0,none⟩=some (.int .i64 p.code)∧z.cell? ⟨P,1,none⟩=some (.int .i64 p.id)∧z.cell? ⟨P,2,none⟩=some (.string p.data)) (by kernel_rfl) (uh SY _ (uh HY).2.2.1 (uh HY).2.2.2) (fun hHeld=>?_);replace HY:Hid (L0 w B sl n w7.drew∧EnR9 w7.drew ca∧w7.drew.heap[A]?=some (.cells ca 29)∧w7.drew.heap[P]?=some (.cells #[.int .i64 p.code,.int .i64 p.id,.string p.data] 35)):=hide ⟨(uh HY).1.below ((Below.refl _ _).drew),(uh HY).2.1.keep fun _ _ _=>rfl,(uh HY).2.2.1,(uh HY).2.2.2⟩;generalize w7.drew=yy at HY hHeld ⊢;refine t4 0 (.agg ca) rfl (yieldsIf_load_mid (by rfl) 29 (.tmp 5) rfl A 0 rfl ca.toList _ (fun z hz=>rangeRow hz.1) underlying29 rfl (by rw [Array.length_toList,la];exact infoE)) ?_;try simp only [Act.put,sA,sZ,sS,gA,gZ]
  refine t2 1 ?_;refine t2 2 ?_;refine r1 3 rfl (fun K hK=>?_);rw [if_pos (by rfl)];refine wp_store_row 29 (.tmp 2) (.tmp 27) rfl w.heap.size ca rfl rfl 29 enZ (uh HY).1.r2 (by rw [la];exact infoE) (by rw [la];rfl) lo ?_;have H5:=hide (put9 (uh HY).1 (uh HY).2.1 (uh HY).2.2.1 (uh HY).2.2.2 nR.1 nR.2.2.1);refine ro hK (uh SY _ (uh H5).2.1 (uh H5).2.2.1) fun _=>?_
  clear hK K;generalize yy.setRow w.heap.size ca=yz at H5 ⊢;have hSz:=uh SY _ (uh H5).2.1 (uh H5).2.2.1;refine t2 4 ?_;refine r1 5 rfl (fun K hK=>?_);obtain ⟨k0,k1,k2,f0,f1,f2⟩:=row3d (uh H5).1.2.2.1;have H6:=hide (put9b (p:=p) (uh H5).1 nR.2.1 nR.2.2.2);go_simp;refine ro hK (uh SY _ ((uh H6).2.2 A _ (Or.inl nR.2.1) (uh H5).2.1) ((uh H6).2.2 P _ (Or.inl nR.2.2.2) (uh H5).2.2.1)) fun _=>?_
  clear hK K;refine dn ?_ _;go_wp2_with fail
  refine bodyPost_ret (v:=.tuple #[.agg ca,.int .i64 _,.agg #[.int .i64 p.code,.int .i64 p.id,.string p.data]]) (by simp [results,results25,asAddr,Act.put,(uh H6).1.2];first | exact ⟨rfl,rfl,rfl⟩ | exact ⟨rfl,rfl⟩ | rfl) rfl ⟨ca,_,p,rfl,(uh H6).2.1,(uh H6).1.1.1,(uh H6).1.1.2⟩
end Go.Proofs.YtahpjlbaagkdoaaGreatDoor
