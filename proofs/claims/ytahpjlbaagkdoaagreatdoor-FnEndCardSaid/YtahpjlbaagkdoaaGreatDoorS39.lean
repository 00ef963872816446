/- DrDr -/
import Derived.Test.YtahpjlbaagkdoaaGreatDoorS37
import Derived.Test.YtahpjlbaagkdoaaGreatDoorS38
set_option maxHeartbeats 16000000
set_option maxRecDepth 100000
set_option linter.unusedSimpArgs false
namespace Go.Proofs.YtahpjlbaagkdoaaGreatDoor
open Go.RowKit Go.Proofs.Tryz
structure Ld (w:World) (B:Nat) (sl:Value) (n A P:Nat) (ca:Array Value) (W:World):Prop where
 s:Src W B sl n
 d:Dat W B sl n
 r:W.heap[w.heap.size]?=some (.cells enZ 29)
 a:W.heap[A]?=some (.cells ca 29)
 e:EnR9 W ca
 p:PkV W P
 lo:Below w.heap.size w W
 bb:w.heap.size<B
theorem Ld.nigh {w:World} {B:Nat} {sl:Value} {n A P:Nat} {ca:Array Value} {W W':World} (h:Ld w B sl n A P ca W) (hn:Nigh B W W') (hs:Src W' B sl n):Ld w B sl n A P ca W':=by
 obtain ⟨p,hp⟩:=h.p;have hb:=hn.below (Nat.le_of_lt h.s.lt);exact ⟨hs,h.d.below hb,(hn.block _ (lt_of_row h.r) (h.s.ty h.r (by decide))).trans h.r,(hn.block _ (lt_of_row h.a) (h.s.ty h.a (by decide))).trans h.a,h.e.keep fun g _ hg=>hn.block g (lt_of_row hg) (h.s.ty hg (by decide)),⟨p,(hn.block _ (lt_of_row hp) (h.s.ty hp (by decide))).trans hp⟩,h.lo.trans (hb.mono (Nat.le_of_lt h.bb)),h.bb⟩
theorem Ld.below {w:World} {B:Nat} {sl:Value} {n A P:Nat} {ca:Array Value} {W W':World} (h:Ld w B sl n A P ca W) (hb:Below W.heap.size W W'):Ld w B sl n A P ca W':=h.nigh (Nigh.of_below hb) (h.s.same (hb.block _ h.s.lt))
theorem Ld.put {w:World} {B:Nat} {sl:Value} {n A P:Nat} {ca:Array Value} {W:World} (h:Ld w B sl n A P ca W) (hA:A≠w.heap.size):(W.setRow w.heap.size ca).heap[A]?=some (.cells ca 29)∧(loadVar 29 ⟨w.heap.size,0,none⟩).run prog (W.setRow w.heap.size ca)=.ok (.agg ca) (W.setRow w.heap.size ca)∧EnR9 (W.setRow w.heap.size ca) ca∧Below w.heap.size w (W.setRow w.heap.size ca) :=
 ⟨(setRow_ne W _ A ca hA).trans h.a,run_loadVar_row (P:=prog) _ _ 29 29 ca (0,0) _ (setRow_heap W _ _ ca _ _ h.r) underlying29 rfl (by rw [h.e.size];exact infoE),h.e.keep (rowO h.r),below_row h.lo (Nat.le_refl _) ca⟩
theorem newEp {W:World} {ca x:Array Value} (h:EnR9 W ca):(((W.alloc (.cells enZ 29)).alloc (.cells #[.int .i64 0,.int .i64 0,.string ⟨#[]⟩] 35)).setRow W.heap.size ca).heap[W.heap.size+1]?=some (.cells #[.int .i64 0,.int .i64 0,.string ⟨#[]⟩] 35) ∧
  ((((W.alloc (.cells enZ 29)).alloc (.cells #[.int .i64 0,.int .i64 0,.string ⟨#[]⟩] 35)).setRow W.heap.size ca).setRow (W.heap.size+1) x).heap[W.heap.size]?=some (.cells ca 29) ∧
  ((((W.alloc (.cells enZ 29)).alloc (.cells #[.int .i64 0,.int .i64 0,.string ⟨#[]⟩] 35)).setRow W.heap.size ca).setRow (W.heap.size+1) x).heap[W.heap.size+1]?=some (.cells x 35) ∧
  EnR9 ((((W.alloc (.cells enZ 29)).alloc (.cells #[.int .i64 0,.int .i64 0,.string ⟨#[]⟩] 35)).setRow W.heap.size ca).setRow (W.heap.size+1) x) ca ∧
  Below W.heap.size W ((((W.alloc (.cells enZ 29)).alloc (.cells #[.int .i64 0,.int .i64 0,.string ⟨#[]⟩] 35)).setRow W.heap.size ca).setRow (W.heap.size+1) x):=by
 obtain ⟨_,h1,h2,h3⟩:=start2r W (.cells enZ 29) (.cells #[.int .i64 0,.int .i64 0,.string ⟨#[]⟩] 35);have k1:=(setRow_ne ((W.alloc (.cells enZ 29)).alloc (.cells #[.int .i64 0,.int .i64 0,.string ⟨#[]⟩] 35)) W.heap.size (W.heap.size+1) ca (by omega)).trans h2;have hb:=below_row (below_row h3 (Nat.le_refl _) ca) (Nat.le_succ _) x;exact ⟨k1,(setRow_ne _ _ _ x (by omega)).trans (setRow_heap _ _ _ ca _ _ h1),setRow_heap _ _ _ x _ _ k1,h.keep fun g cur hg=>hb.block g (lt_of_row hg),hb⟩
theorem drawDo (w:World) (sl:Value) (n:Nat) (hn:n≤maxLen) (hD:Dat w w.heap.size sl n) :
  Calls prog 5 #[sl] w fun r w'=>∃ (ca:Array Value) (t:ByteArray) (nw:Int),r=.returned (.tuple #[.agg ca,.string t,.int .i64 nw])∧EnR9 w' ca∧Below w.heap.size w w':=by
 have hb0:Below w.heap.size w (w.alloc (.cells enZ 29)):=(Below.refl _ _).alloc (Nat.le_refl _) _;have hs0:(w.alloc (.cells enZ 29)).heap.size=w.heap.size+1:=by simp
 have hr0:(w.alloc (.cells enZ 29)).heap[w.heap.size]?=some (.cells enZ 29):=heap_alloc_new w _;have c:=src_new (w.alloc (.cells enZ 29)) sl n hn ((hD.below hb0).mono (by omega));rw [hs0] at c;have HD:=hide ((hD.below hb0).mono (show w.heap.size≤w.heap.size+1 by omega));have H0:=hide (And.intro hb0 hr0);clear hD hb0 hr0;go_enter func5,ntmps5
 go_wp2_with fail
 refine c.mono ?_;rintro e w1 ⟨rfl,hS1,hb1⟩;have hl1:=hS1.lt;have HS1:=hide (And.intro hS1 ((uh HD).below hb1));have H1:=hide (And.intro ((uh H0).1.trans (hb1.mono (by omega))) ((hb1.block _ (by omega)).trans (uh H0).2));clear hS1 c hb1 H0 HD;go_wp2_with fail
 refine (src_end w1 (w.heap.size+1) sl n hn (uh HS1).1 (uh HS1).2).mono ?_;rintro e w2 ⟨ca,nw,p,rfl,he2,hS2,hn2⟩;have la:=he2.size;have lo:=he2.one;have hz2:=hn2.size;obtain ⟨q1,q2,q3,q4,q5⟩:=newEp (x:=#[.int .i64 p.code,.int .i64 p.id,.string p.data]) he2;have HN:=hide (And.intro q1 (start2r w2 (.cells enZ 29) (.cells #[.int .i64 0,.int .i64 0,.string ⟨#[]⟩] 35)).2.1);have hbn:=hn2.below (Nat.le_of_lt (uh HS1).1.lt);have HL:Hid (Ld w (w.heap.size+1) sl n w2.heap.size (w2.heap.size+1) ca ((((w2.alloc (.cells enZ 29)).alloc (.cells #[.int .i64 0,.int .i64 0,.string ⟨#[]⟩] 35)).setRow w2.heap.size ca).setRow (w2.heap.size+1) #[.int .i64 p.code,.int .i64 p.id,.string p.data])):=hide ⟨hS2.same (q5.block _ hS2.lt),((uh HS1).2.below hbn).below (q5.mono (Nat.le_of_lt hS2.lt)),(q5.block _ (by omega)).trans ((hn2.block _ (by omega) (by omega)).trans (uh H1).2),q2,q4,⟨p,q3⟩,((uh H1).1.trans (hbn.mono (by omega))).trans (q5.mono (by omega)),by omega⟩;clear q1 q2 q3 q4 q5 hbn hn2 hS2 he2 H1 HS1
 go_upto_region 3 with (first
  | (refine wpList_store_rowTo rfl 29 (.tmp 6) (.tmp 14) rfl rfl w2.heap.size ca rfl rfl 29 enZ (uh HN).2 (by rw [la];exact infoE) (by rw [la];rfl) lo ?_)
  | (refine wpList_store_rowTo rfl 35 (.tmp 8) (.tmp 16) rfl rfl (w2.heap.size+1) #[.int .i64 p.code,.int .i64 p.id,.string p.data] rfl rfl 35 #[.int .i64 0,.int .i64 0,.string ⟨#[]⟩] (uh HN).1 infoPkt rfl (by kernel_rfl) ?_))
 refine gen_world (fun q=>Ld w (w.heap.size+1) sl n w2.heap.size (w2.heap.size+1) ca q) (uh HL) ?_;intro w3 hL3;have H3:=hide hL3;have nA:w2.heap.size≠w.heap.size:=by omega
 have nA1:w2.heap.size≠w.heap.size+1∧w2.heap.size+1≠w.heap.size+1∧w2.heap.size+1≠w.heap.size:=by omega
 generalize w2.heap.size=A at *;clear hL3 HL HN;go_wp2_with fail
 refine (src_one w3 (w.heap.size+1) sl n 10 (by decide) hn (uh H3).s (uh H3).d).mono ?_;rintro e z9 ⟨b9,rfl,hS9,ht9⟩;have H9:=hide ((uh H3).nigh (Nigh.of_touch ht9) hS9);clear hS9 ht9 H3;cases b9
 ·go_upto_region 5 with fail
  have SY:Hid (∀ z:World,z.heap[A]?=some (.cells ca 29)→z.heap[A]?=some (.cells ca.toList.toArray 29)):=hide fun z h=>h
  have E0:=hide ((uh H9).below (Below.refl _ _).drew);clear H9;refine wp_region_held_drew (S:=fun z=>z.heap[A]?=some (.cells ca.toList.toArray 29)) (by kernel_rfl) (uh SY _ (uh E0).a) (fun hHeld=>?_);generalize z9.drew=yy at E0 hHeld ⊢;refine t4 0 (.agg ca) rfl (yieldsIf_load_mid (by rfl) 29 (.tmp 6) rfl A 0 rfl ca.toList _ (fun z hz=>rangeRow hz) underlying29 rfl (by rw [Array.length_toList,la];exact infoE)) ?_;try simp only [Act.put,sA,sZ,sS,gA,gZ]
  refine t2 1 ?_;refine t2 4 ?_;refine r1 2 rfl (fun K hK=>?_);have hb21:Below yy.heap.size yy (yy.alloc (.cells #[.string ⟨#[85,112]⟩,.string ⟨#[68,111,119,110]⟩,.string ⟨#[79,112,101,110]⟩,.string ⟨#[67,108,111,115,101]⟩,.string ⟨#[84,79,43]⟩,.string ⟨#[]⟩] 9)):=(Below.refl _ _).alloc (Nat.le_refl _) _;have E21:=hide ((uh E0).below hb21);have ltB21:w.heap.size+1<yy.heap.size:=(uh E0).s.lt;have T21:=hide (heap_alloc_new yy (.cells #[.string ⟨#[85,112]⟩,.string ⟨#[68,111,119,110]⟩,.string ⟨#[79,112,101,110]⟩,.string ⟨#[67,108,111,115,101]⟩,.string ⟨#[84,79,43]⟩,.string ⟨#[]⟩] 9));clear hb21;go_simp;refine ro hK (uh SY _ (uh E21).a) fun _=>?_
  clear hK K;generalize yy.heap.size=g21 at T21 ltB21 ⊢;generalize yy.alloc (.cells #[.string ⟨#[85,112]⟩,.string ⟨#[68,111,119,110]⟩,.string ⟨#[79,112,101,110]⟩,.string ⟨#[67,108,111,115,101]⟩,.string ⟨#[84,79,43]⟩,.string ⟨#[]⟩] 9)=y21 at E21 T21 ⊢;have hS21:=uh SY _ (uh E21).a;refine r1 3 rfl (fun K hK=>?_);go_simp;refine (src_pick y21 (w.heap.size+1) sl n (.slice (some ⟨g21,0,none⟩) 6 6) [⟨#[85,112]⟩,⟨#[68,111,119,110]⟩,⟨#[79,112,101,110]⟩,⟨#[67,108,111,115,101]⟩,⟨#[84,79,43]⟩,⟨#[]⟩] hn (uh E21).s (uh E21).d (Or.inr ⟨g21,6,_,rfl,uh T21,by decide,fun j hj=>by
   have hj2:j<6:=hj;clear hj;match j,hj2 with
   | 0,_=>rfl
   | 1,_=>rfl
   | 2,_=>rfl
   | 3,_=>rfl
   | 4,_=>rfl
   | 5,_=>rfl⟩) (by decide) (by decide) (fun e=>Nat.ne_of_gt ltB21 (by injection e))).mono ?_
  rintro e y22 ⟨tt,rfl,_,hS9,ht22⟩;have E22:=hide ((uh E21).nigh (Nigh.of_touch ht22) hS9);clear ht22 hS9;go_wp2_with fail
  refine ro hK (uh SY _ (uh E22).a) fun _=>?_
  clear hK K;refine r1 5 rfl (fun K hK=>?_);rw [if_pos (by rfl)];refine wp_store_row 29 (.tmp 2) (.tmp 21) rfl w.heap.size ca rfl rfl 29 enZ (uh E22).r (by rw [la];exact infoE) (by rw [la];rfl) lo ?_;have ZF:=hide ((uh E22).put nA);refine ro hK (uh SY _ (uh ZF).1) fun _=>?_
  clear hK K;refine t2 6 ?_;refine t2 7 ?_;refine dn ?_ _;go_wp2_with fail
  refine bodyPost_ret (v:=.tuple #[.agg ca,.string tt,.int .i64 _]) (by simp [results,results5,asAddr,Act.put,(uh ZF).2.1];first | exact ⟨rfl,rfl⟩ | rfl) rfl ⟨ca,tt,_,rfl,(uh ZF).2.2.1,(uh ZF).2.2.2⟩
 ·go_wp2_with fail
  refine (src_edge_n z9 (w.heap.size+1) sl n hn (uh H9).s (uh H9).d).mono ?_;rintro e z10 ⟨nx,rfl,_,_,hS9,hn9⟩;have H10:=hide ((uh H9).nigh hn9 hS9);clear hS9 hn9 H9;go_upto_region 5 with fail
  have SY:Hid (∀ z:World,z.heap[A]?=some (.cells ca 29)→z.heap[A]?=some (.cells ca.toList.toArray 29)):=hide fun z h=>h
  have E0:=hide ((uh H10).below (Below.refl _ _).drew);clear H10;refine wp_region_held_drew (S:=fun z=>z.heap[A]?=some (.cells ca.toList.toArray 29)) (by kernel_rfl) (uh SY _ (uh E0).a) (fun hHeld=>?_);generalize z10.drew=yy at E0 hHeld ⊢;refine t4 0 (.agg ca) rfl (yieldsIf_load_mid (by rfl) 29 (.tmp 6) rfl A 0 rfl ca.toList _ (fun z hz=>rangeRow hz) underlying29 rfl (by rw [Array.length_toList,la];exact infoE)) ?_;try simp only [Act.put,sA,sZ,sS,gA,gZ]
  refine t2 1 ?_;refine t2 4 ?_;refine r1 2 rfl (fun K hK=>?_);have hb21:Below yy.heap.size yy (yy.alloc (.cells #[.string ⟨#[85,112]⟩,.string ⟨#[68,111,119,110]⟩,.string ⟨#[79,112,101,110]⟩,.string ⟨#[67,108,111,115,101]⟩,.string ⟨#[84,79,43]⟩,.string ⟨#[]⟩] 9)):=(Below.refl _ _).alloc (Nat.le_refl _) _;have E21:=hide ((uh E0).below hb21);have ltB21:w.heap.size+1<yy.heap.size:=(uh E0).s.lt;have T21:=hide (heap_alloc_new yy (.cells #[.string ⟨#[85,112]⟩,.string ⟨#[68,111,119,110]⟩,.string ⟨#[79,112,101,110]⟩,.string ⟨#[67,108,111,115,101]⟩,.string ⟨#[84,79,43]⟩,.string ⟨#[]⟩] 9));clear hb21;go_simp;refine ro hK (uh SY _ (uh E21).a) fun _=>?_
  clear hK K;generalize yy.heap.size=g21 at T21 ltB21 ⊢;generalize yy.alloc (.cells #[.string ⟨#[85,112]⟩,.string ⟨#[68,111,119,110]⟩,.string ⟨#[79,112,101,110]⟩,.string ⟨#[67,108,111,115,101]⟩,.string ⟨#[84,79,43]⟩,.string ⟨#[]⟩] 9)=y21 at E21 T21 ⊢;have hS21:=uh SY _ (uh E21).a;refine r1 3 rfl (fun K hK=>?_);go_simp;refine (src_pick y21 (w.heap.size+1) sl n (.slice (some ⟨g21,0,none⟩) 6 6) [⟨#[85,112]⟩,⟨#[68,111,119,110]⟩,⟨#[79,112,101,110]⟩,⟨#[67,108,111,115,101]⟩,⟨#[84,79,43]⟩,⟨#[]⟩] hn (uh E21).s (uh E21).d (Or.inr ⟨g21,6,_,rfl,uh T21,by decide,fun j hj=>by
   have hj2:j<6:=hj;clear hj;match j,hj2 with
   | 0,_=>rfl
   | 1,_=>rfl
   | 2,_=>rfl
   | 3,_=>rfl
   | 4,_=>rfl
   | 5,_=>rfl⟩) (by decide) (by decide) (fun e=>Nat.ne_of_gt ltB21 (by injection e))).mono ?_
  rintro e y22 ⟨tt,rfl,_,hS9,ht22⟩;have E22:=hide ((uh E21).nigh (Nigh.of_touch ht22) hS9);clear ht22 hS9;go_wp2_with fail
  refine ro hK (uh SY _ (uh E22).a) fun _=>?_
  clear hK K;refine r1 5 rfl (fun K hK=>?_);rw [if_pos (by rfl)];refine wp_store_row 29 (.tmp 2) (.tmp 21) rfl w.heap.size ca rfl rfl 29 enZ (uh E22).r (by rw [la];exact infoE) (by rw [la];rfl) lo ?_;have ZF:=hide ((uh E22).put nA);refine ro hK (uh SY _ (uh ZF).1) fun _=>?_
  clear hK K;refine t2 6 ?_;refine t2 7 ?_;refine dn ?_ _;go_wp2_with fail
  refine bodyPost_ret (v:=.tuple #[.agg ca,.string tt,.int .i64 _]) (by simp [results,results5,asAddr,Act.put,(uh ZF).2.1];first | exact ⟨rfl,rfl⟩ | rfl) rfl ⟨ca,tt,_,rfl,(uh ZF).2.2.1,(uh ZF).2.2.2⟩
theorem drawTick (w:World) (sl:Value) (n:Nat) (hn:n≤maxLen) (hD:Dat w w.heap.size sl n) :
  Calls prog 6 #[sl] w fun r w'=>∃ (ca:Array Value) (nw:Int),r=.returned (.tuple #[.agg ca,.int .i64 nw])∧EnR9 w' ca∧Below w.heap.size w w':=by
 have hb0:Below w.heap.size w (w.alloc (.cells enZ 29)):=(Below.refl _ _).alloc (Nat.le_refl _) _;have hs0:(w.alloc (.cells enZ 29)).heap.size=w.heap.size+1:=by simp
 have hr0:(w.alloc (.cells enZ 29)).heap[w.heap.size]?=some (.cells enZ 29):=heap_alloc_new w _;have c:=src_new (w.alloc (.cells enZ 29)) sl n hn ((hD.below hb0).mono (by omega));rw [hs0] at c;have HD:=hide ((hD.below hb0).mono (show w.heap.size≤w.heap.size+1 by omega));have H0:=hide (And.intro hb0 hr0);clear hD hb0 hr0;go_enter func6,ntmps6
 go_wp2_with fail
 refine c.mono ?_;rintro e w1 ⟨rfl,hS1,hb1⟩;have hl1:=hS1.lt;have HS1:=hide (And.intro hS1 ((uh HD).below hb1));have H1:=hide (And.intro ((uh H0).1.trans (hb1.mono (by omega))) ((hb1.block _ (by omega)).trans (uh H0).2));clear hS1 c hb1 H0 HD;go_wp2_with fail
 refine (src_end w1 (w.heap.size+1) sl n hn (uh HS1).1 (uh HS1).2).mono ?_;rintro e w2 ⟨ca,nw,p,rfl,he2,hS2,hn2⟩;have la:=he2.size;have lo:=he2.one;have hz2:=hn2.size;obtain ⟨q1,q2,q3,q4,q5⟩:=newEp (x:=#[.int .i64 p.code,.int .i64 p.id,.string p.data]) he2;have HN:=hide (And.intro q1 (start2r w2 (.cells enZ 29) (.cells #[.int .i64 0,.int .i64 0,.string ⟨#[]⟩] 35)).2.1);have hbn:=hn2.below (Nat.le_of_lt (uh HS1).1.lt);have HL:Hid (Ld w (w.heap.size+1) sl n w2.heap.size (w2.heap.size+1) ca ((((w2.alloc (.cells enZ 29)).alloc (.cells #[.int .i64 0,.int .i64 0,.string ⟨#[]⟩] 35)).setRow w2.heap.size ca).setRow (w2.heap.size+1) #[.int .i64 p.code,.int .i64 p.id,.string p.data])):=hide ⟨hS2.same (q5.block _ hS2.lt),((uh HS1).2.below hbn).below (q5.mono (Nat.le_of_lt hS2.lt)),(q5.block _ (by omega)).trans ((hn2.block _ (by omega) (by omega)).trans (uh H1).2),q2,q4,⟨p,q3⟩,((uh H1).1.trans (hbn.mono (by omega))).trans (q5.mono (by omega)),by omega⟩;clear q1 q2 q3 q4 q5 hbn hn2 hS2 he2 H1 HS1
 go_upto_region 3 with (first
  | (refine wpList_store_rowTo rfl 29 (.tmp 5) (.tmp 13) rfl rfl w2.heap.size ca rfl rfl 29 enZ (uh HN).2 (by rw [la];exact infoE) (by rw [la];rfl) lo ?_)
  | (refine wpList_store_rowTo rfl 35 (.tmp 7) (.tmp 15) rfl rfl (w2.heap.size+1) #[.int .i64 p.code,.int .i64 p.id,.string p.data] rfl rfl 35 #[.int .i64 0,.int .i64 0,.string ⟨#[]⟩] (uh HN).1 infoPkt rfl (by kernel_rfl) ?_))
 refine gen_world (fun q=>Ld w (w.heap.size+1) sl n w2.heap.size (w2.heap.size+1) ca q) (uh HL) ?_;intro w3 hL3;have H3:=hide hL3;have nA:w2.heap.size≠w.heap.size:=by omega
 have nA1:w2.heap.size≠w.heap.size+1∧w2.heap.size+1≠w.heap.size+1∧w2.heap.size+1≠w.heap.size:=by omega
 generalize w2.heap.size=A at *;clear hL3 HL HN;go_wp2_with fail
 refine (src_one w3 (w.heap.size+1) sl n 10 (by decide) hn (uh H3).s (uh H3).d).mono ?_;rintro e z9 ⟨b9,rfl,hS9,ht9⟩;have H9:=hide ((uh H3).nigh (Nigh.of_touch ht9) hS9);clear hS9 ht9 H3;cases b9
 ·go_upto_region 5 with fail
  have SY:Hid (∀ z:World,z.heap[A]?=some (.cells ca 29)→z.heap[A]?=some (.cells ca.toList.toArray 29)):=hide fun z h=>h
  have E0:=hide ((uh H9).below (Below.refl _ _).drew);clear H9;refine wp_region_held_drew (S:=fun z=>z.heap[A]?=some (.cells ca.toList.toArray 29)) (by kernel_rfl) (uh SY _ (uh E0).a) (fun hHeld=>?_);generalize z9.drew=yy at E0 hHeld ⊢;refine t4 0 (.agg ca) rfl (yieldsIf_load_mid (by rfl) 29 (.tmp 5) rfl A 0 rfl ca.toList _ (fun z hz=>rangeRow hz) underlying29 rfl (by rw [Array.length_toList,la];exact infoE)) ?_;try simp only [Act.put,sA,sZ,sS,gA,gZ]
  refine t2 1 ?_;refine t2 2 ?_;refine r1 3 rfl (fun K hK=>?_);go_simp;refine (src_n yy (w.heap.size+1) sl n 6 (by decide) hn (uh E0).s (uh E0).d).mono ?_;rintro e y21 ⟨tt,rfl,_,hS9,ht21⟩;have E21:=hide ((uh E0).nigh (Nigh.of_touch ht21) hS9);clear ht21 hS9;go_wp2_with fail
  refine ro hK (uh SY _ (uh E21).a) fun _=>?_
  clear hK K;refine t2 4 ?_;refine r1 5 rfl (fun K hK=>?_);rw [if_pos (by rfl)];refine wp_store_row 29 (.tmp 2) (.tmp 21) rfl w.heap.size ca rfl rfl 29 enZ (uh E21).r (by rw [la];exact infoE) (by rw [la];rfl) lo ?_;have ZF:=hide ((uh E21).put nA);refine ro hK (uh SY _ (uh ZF).1) fun _=>?_
  clear hK K;refine t2 6 ?_;refine dn ?_ _;go_wp2_with fail
  refine bodyPost_ret (v:=.tuple #[.agg ca,.int .i64 _]) (by simp [results,results6,asAddr,Act.put,(uh ZF).2.1];first | exact ⟨rfl,rfl⟩ | rfl) rfl ⟨ca,_,rfl,(uh ZF).2.2.1,(uh ZF).2.2.2⟩
 ·go_upto_region 4 with fail
  have SY:Hid (∀ z:World,z.heap[A]?=some (.cells ca 29)→z.heap[A]?=some (.cells ca.toList.toArray 29)):=hide fun z h=>h
  have E0:=hide ((uh H9).below (Below.refl _ _).drew);clear H9;refine wp_region_held_drew (S:=fun z=>z.heap[A]?=some (.cells ca.toList.toArray 29)) (by kernel_rfl) (uh SY _ (uh E0).a) (fun hHeld=>?_);generalize z9.drew=yy at E0 hHeld ⊢;refine t4 0 (.agg ca) rfl (yieldsIf_load_mid (by rfl) 29 (.tmp 5) rfl A 0 rfl ca.toList _ (fun z hz=>rangeRow hz) underlying29 rfl (by rw [Array.length_toList,la];exact infoE)) ?_;try simp only [Act.put,sA,sZ,sS,gA,gZ]
  refine t2 1 ?_;refine r1 2 rfl (fun K hK=>?_);go_simp;refine (src_edge_n yy (w.heap.size+1) sl n hn (uh E0).s (uh E0).d).mono ?_;rintro e y21 ⟨tt,rfl,_,_,hS9,hn21⟩;have E21:=hide ((uh E0).nigh hn21 hS9);clear hn21 hS9;go_wp2_with fail
  refine ro hK (uh SY _ (uh E21).a) fun _=>?_
  clear hK K;refine r1 3 rfl (fun K hK=>?_);rw [if_pos (by rfl)];refine wp_store_row 29 (.tmp 2) (.tmp 18) rfl w.heap.size ca rfl rfl 29 enZ (uh E21).r (by rw [la];exact infoE) (by rw [la];rfl) lo ?_;have ZF:=hide ((uh E21).put nA);refine ro hK (uh SY _ (uh ZF).1) fun _=>?_
  clear hK K;refine t2 4 ?_;refine dn ?_ _;go_wp2_with fail
  refine bodyPost_ret (v:=.tuple #[.agg ca,.int .i64 _]) (by simp [results,results6,asAddr,Act.put,(uh ZF).2.1];first | exact ⟨rfl,rfl⟩ | rfl) rfl ⟨ca,_,rfl,(uh ZF).2.2.1,(uh ZF).2.2.2⟩
theorem t7n {w:World} {B:Nat} {sl:Value} {n A P:Nat} {W W':World} {ca:Array Value} {v:Value} {F:List Op.Opt} (h:(L0 w B sl n W∧EnV W A∧PkV W P)∧W.heap[A]?=some (.cells ca 29)∧HoldsO W v F) (hn:Nigh B W W') (hs:Src W' B sl n):(L0 w B sl n W'∧EnV W' A∧PkV W' P)∧W'.heap[A]?=some (.cells ca 29)∧HoldsO W' v F :=
 ⟨t9n h.1 hn hs,(hn.block _ (lt_of_row h.2.1) (h.1.1.s.ty h.2.1 (by decide))).trans h.2.1,holdO_keep h.2.2 fun g cur hg=>hn.block g (lt_of_row hg) (h.1.1.s.ty hg (by decide))⟩
theorem t7b {w:World} {B:Nat} {sl:Value} {n A P:Nat} {W W':World} {ca:Array Value} {v:Value} {F:List Op.Opt} (h:(L0 w B sl n W∧EnV W A∧PkV W P)∧W.heap[A]?=some (.cells ca 29)∧HoldsO W v F) (hb:Below W.heap.size W W'):(L0 w B sl n W'∧EnV W' A∧PkV W' P)∧W'.heap[A]?=some (.cells ca 29)∧HoldsO W' v F :=
 t7n h (Nigh.of_below hb) (h.1.1.s.same (hb.block _ h.1.1.s.lt))
theorem sp9a {A P:Nat} {W:World} {o:Obj} {p:Op.Pk} (h:W.heap[A]?=some o) (hA:A≠P):(((W.setCell ⟨P,0,none⟩ (.int .i64 p.code)).setCell ⟨P,1,none⟩ (.int .i64 p.id)).setCell ⟨P,2,none⟩ (.string p.data)).heap[A]?=some o :=
 (Below.heap_setCell _ ⟨P,2,none⟩ _ A hA).trans ((Below.heap_setCell _ ⟨P,1,none⟩ _ A hA).trans ((Below.heap_setCell _ ⟨P,0,none⟩ _ A hA).trans h))
theorem drawHear (w:World) (sl:Value) (n:Nat) (hn:n≤maxLen) (hD:Dat w w.heap.size sl n) :
  Calls prog 7 #[sl] w fun r w'=>∃ (ca:Array Value) (p:Op.Pk) (nw:Int),r=.returned (.tuple #[.agg ca,.agg #[.int .i64 p.code,.int .i64 p.id,.string p.data],.int .i64 nw])∧EnR9 w' ca∧Below w.heap.size w w':=by
 have NB:Hid (∀ W,Nigh (w.heap.size+2) w W→Below w.heap.size w W):=hide fun W h=>⟨h.os,h.tape,h.output,h.size,fun g hg=>h.block g hg (by omega)⟩
 have DB:Hid (∀ W,Nigh (w.heap.size+2) w W→Dat W (w.heap.size+2) sl n):=hide fun W h=>(hD.below (uh NB W h)).mono (by omega)
 have hb0:Below w.heap.size w ((w.alloc (.cells enZ 29)).alloc (.cells #[.int .i64 0,.int .i64 0,.string ⟨#[]⟩] 35)):=(start2r w _ _).2.2.2;have hs0:((w.alloc (.cells enZ 29)).alloc (.cells #[.int .i64 0,.int .i64 0,.string ⟨#[]⟩] 35)).heap.size=w.heap.size+2:=by simp
 have hr0:((w.alloc (.cells enZ 29)).alloc (.cells #[.int .i64 0,.int .i64 0,.string ⟨#[]⟩] 35)).heap[w.heap.size]?=some (.cells enZ 29):=(start2r w _ _).2.1;have hr1:((w.alloc (.cells enZ 29)).alloc (.cells #[.int .i64 0,.int .i64 0,.string ⟨#[]⟩] 35)).heap[w.heap.size+1]?=some (.cells #[.int .i64 0,.int .i64 0,.string ⟨#[]⟩] 35):=(start2r w _ _).2.2.1;have c:=src_new ((w.alloc (.cells enZ 29)).alloc (.cells #[.int .i64 0,.int .i64 0,.string ⟨#[]⟩] 35)) sl n hn ((hD.below hb0).mono (by omega));rw [hs0] at c;have HD:=hide ((hD.below hb0).mono (show w.heap.size≤w.heap.size+2 by omega));have H0:=hide (And.intro hb0 (And.intro hr0 hr1));clear hD hb0 hr0 hr1;go_enter func7,ntmps7
 go_wp2_with fail
 refine c.mono ?_;rintro e w1 ⟨rfl,hS1,hb1⟩;have hl1:=hS1.lt;have HS1:=hide (And.intro hS1 ((uh HD).below hb1));have H1:=hide (And.intro ((uh H0).1.trans (hb1.mono (by omega))) (And.intro ((hb1.block _ (by omega)).trans (uh H0).2.1) ((hb1.block _ (by omega)).trans (uh H0).2.2)));clear hS1 c hb1 H0 HD;go_wp2_with fail
 refine (src_end w1 (w.heap.size+2) sl n hn (uh HS1).1 (uh HS1).2).mono ?_;rintro e w2 ⟨ca,nw,p,rfl,he2,hS2,hn2⟩;have la:=he2.size;have lo:=he2.one;have hz2:=hn2.size;obtain ⟨q1,q2,q3,q4,q5⟩:=newEp (x:=#[.int .i64 p.code,.int .i64 p.id,.string p.data]) he2;have HN:=hide (And.intro q1 (start2r w2 (.cells enZ 29) (.cells #[.int .i64 0,.int .i64 0,.string ⟨#[]⟩] 35)).2.1);have hbn:=hn2.below (Nat.le_of_lt (uh HS1).1.lt);have HL:Hid (Ld w (w.heap.size+2) sl n w2.heap.size (w2.heap.size+1) ca ((((w2.alloc (.cells enZ 29)).alloc (.cells #[.int .i64 0,.int .i64 0,.string ⟨#[]⟩] 35)).setRow w2.heap.size ca).setRow (w2.heap.size+1) #[.int .i64 p.code,.int .i64 p.id,.string p.data])∧((((w2.alloc (.cells enZ 29)).alloc (.cells #[.int .i64 0,.int .i64 0,.string ⟨#[]⟩] 35)).setRow w2.heap.size ca).setRow (w2.heap.size+1) #[.int .i64 p.code,.int .i64 p.id,.string p.data]).heap[w.heap.size+1]?=some (.cells #[.int .i64 0,.int .i64 0,.string ⟨#[]⟩] 35)):=hide ⟨⟨hS2.same (q5.block _ hS2.lt),((uh HS1).2.below hbn).below (q5.mono (Nat.le_of_lt hS2.lt)),(q5.block _ (by omega)).trans ((hn2.block _ (by omega) (by omega)).trans (uh H1).2.1),q2,q4,⟨p,q3⟩,((uh H1).1.trans (hbn.mono (by omega))).trans (q5.mono (by omega)),by omega⟩,(q5.block _ (by omega)).trans ((hn2.block _ (by omega) (by omega)).trans (uh H1).2.2)⟩;clear q1 q2 q3 q4 q5 hbn hn2 hS2 he2 H1 HS1
 go_upto_region 3 with (first
  | (refine wpList_store_rowTo rfl 29 (.tmp 6) (.tmp 14) rfl rfl w2.heap.size ca rfl rfl 29 enZ (uh HN).2 (by rw [la];exact infoE) (by rw [la];rfl) lo ?_)
  | (refine wpList_store_rowTo rfl 35 (.tmp 8) (.tmp 16) rfl rfl (w2.heap.size+1) #[.int .i64 p.code,.int .i64 p.id,.string p.data] rfl rfl 35 #[.int .i64 0,.int .i64 0,.string ⟨#[]⟩] (uh HN).1 infoPkt rfl (by kernel_rfl) ?_))
 refine gen_world (fun q=>Ld w (w.heap.size+2) sl n w2.heap.size (w2.heap.size+1) ca q∧q.heap[w.heap.size+1]?=some (.cells #[.int .i64 0,.int .i64 0,.string ⟨#[]⟩] 35)) (uh HL) ?_;intro w3 hL3;have H3:=hide hL3;have nA:w2.heap.size≠w.heap.size:=by omega
 have nA1:w2.heap.size≠w.heap.size+1∧w2.heap.size+1≠w.heap.size+1∧w2.heap.size+1≠w.heap.size:=by omega
 generalize w2.heap.size=A at *;clear hL3 HL HN;have HT:Hid (L0 w (w.heap.size+2) sl n w3∧EnV w3 A∧PkV w3 (A+1)):=hide ⟨⟨(uh H3).1.s,Nigh.of_below (uh H3).1.lo,(uh H3).1.r,(uh H3).2⟩,⟨ca,(uh H3).1.a,(uh H3).1.e⟩,(uh H3).1.p⟩;have hPw:w.heap.size+1<A+1:=by omega
 have nAP:A≠A+1:=by omega
 clear H3;go_wp2_with fail
 refine (src_n w3 (w.heap.size+2) sl n 5 (by decide) hn (uh HT).1.s (uh DB _ (uh HT).1.g)).mono ?_;rintro e tw ⟨q5,rfl,hq5,hS2,ht2⟩;have HT2:=hide (t9n (uh HT) (Nigh.of_touch ht2) hS2);clear HT hS2 ht2 hq5;rename_i K2 hK2 K1 hK1
 refine hK1 _ _ ?_;show K2 _ _
 refine hK2 _ _ ?_;go_cut [] (fun wx=>L0 w (w.heap.size+2) sl n wx∧EnV wx A∧PkV wx (A+1))
 case first =>
  clear hK2 hK1 K2 K1;by_cases q0:q5=0
  ·subst q0;go_wp2_with fail
   refine (src_some tw (w.heap.size+2) sl n hn (uh HT2).1.s (uh DB _ (uh HT2).1.g)).mono ?_;rintro e t3 ⟨px,rfl,_,hS3,hn3⟩;have HT3:=hide (t9n (uh HT2) hn3 hS3);clear HT2 hS3 hn3;obtain ⟨p0,hp0⟩:=(uh HT3).2.2;obtain ⟨k0,k1,k2,f0,f1,f2⟩:=row3d hp0;have HS:=hide (sp9 px (uh HT3).1 (uh HT3).2.1 (uh HT3).2.2 hPw);clear hp0 HT3;go_wp2_with fail
   go_meet;exact uh HS
  ·have e0:((q5:Int) == 0)=false:=beq_eq_false_iff_ne.2 (by omega);by_cases q1:q5=1
   ·subst q1;go_upto_region 7 with fail
    obtain ⟨ca,ha1,e,F1,F2,x1,x2,y1,y2,hca,h1,h2,l1,l2⟩:=(uh HT2).2.1;have c15:ca[15]?=some (.int .i64 e.id):=by rw [hca];rfl
    have c17:ca[17]?=some (.slice x1 F1.length y1):=by rw [hca];rfl
    have SY:Hid (∀ z:World,z.heap[A]?=some (.cells ca 29)→(z.cell? ⟨A,15,none⟩=some (.int .i64 e.id)∧z.cell? ⟨A,17,none⟩=some (.slice x1 F1.length y1))):=hide fun z h=>⟨(cell_of_row _ _ 15 _ _ _ h).trans c15,(cell_of_row _ _ 17 _ _ _ h).trans c17⟩
    have E0:Hid ((L0 w (w.heap.size+2) sl n tw.drew∧EnV tw.drew A∧PkV tw.drew (A+1))∧tw.drew.heap[A]?=some (.cells ca 29)∧HoldsO tw.drew (.slice x1 F1.length y1) F1):=hide (t7b ⟨uh HT2,ha1,h1⟩ (Below.refl _ _).drew);clear ha1 h1 h2 hca c15 c17 l2 HT2;refine wp_region_held_drew (S:=fun z=>z.cell? ⟨A,15,none⟩=some (.int .i64 e.id)∧z.cell? ⟨A,17,none⟩=some (.slice x1 F1.length y1)) (by kernel_rfl) (uh SY _ (uh E0).2.1) (fun hHeld=>?_);generalize tw.drew=yy at E0 hHeld ⊢;refine t2 1 ?_;refine t2 5 ?_;refine t2 6 ?_;refine t2 7 ?_;refine t2 8 ?_;refine wpAnyH_ready (rs:=[0,2]) (by kernel_rfl) (by simp) ?_;refine AllReadyH.cons rfl (fun K hK=>?_) (AllReadyH.cons rfl (fun K hK=>?_) (AllReadyH.nil))
    ·have hb21:Below yy.heap.size yy (yy.alloc (.cells #[.int .i64 2,.int .i64 3,.int .i64 4] 2)):=(Below.refl _ _).alloc (Nat.le_refl _) _;have ltB21:w.heap.size+2<yy.heap.size:=(uh E0).1.1.s.lt;have E21:=hide (t7b (uh E0) hb21);have G21:=hide (heap_alloc_new yy (.cells #[.int .i64 2,.int .i64 3,.int .i64 4] 2));clear hb21;go_simp;refine ro hK (uh SY _ (uh E21).2.1) fun _=>?_
     clear hK K;generalize yy.heap.size=g21 at G21 ltB21 ⊢;generalize yy.alloc (.cells #[.int .i64 2,.int .i64 3,.int .i64 4] 2)=y21 at E21 G21 ⊢;have hS21:=uh SY _ (uh E21).2.1;refine r1 2 rfl (fun K hK=>?_);go_simp;refine (src_n y21 (w.heap.size+2) sl n 3 (by decide) hn (uh E21).1.1.s (uh DB _ (uh E21).1.1.g)).mono ?_;rintro r y22 ⟨r3,rfl,hr3,hS9,ht22⟩;have hr3':r3<3:=by omega
     have hr3i:(r3:Int)<3:=by omega
     have E22:=hide (t7n (uh E21) (Nigh.of_touch ht22) hS9);have G22:=hide ((ht22.block g21 (by omega)).trans (uh G21));clear ht22 hS9 hr3;go_wp2_with fail
     refine ro hK (uh SY _ (uh E22).2.1) fun _=>?_
     clear hK K;refine t2 3 ?_;refine wpAnyH_ready (rs:=[4,9]) (by kernel_rfl) (by simp) ?_;refine AllReadyH.cons rfl (fun K hK=>?_) (AllReadyH.cons rfl (fun K hK=>?_) (AllReadyH.nil))
     ·obtain ⟨yv,hyv,_,_⟩:=lit_cell (uh G22) (by decide) r3 (by simpa using hr3');go_simp;clear hyv;refine ro hK (uh SY _ (uh E22).2.1) fun _=>?_
      clear hK K;refine r1 9 rfl (fun K hK=>?_);go_simp;refine (specBytesAll (.slice x1 F1.length y1) F1 y22 (by unfold maxLen;omega) (uh E22).2.2).mono ?_;rintro r y24 ⟨rfl,hb24⟩;have E24:=hide (t7b (uh E22) hb24);have G24:=hide ((hb24.block g21 (lt_of_row (uh G22))).trans (uh G22));clear hb24;go_wp2_with fail
      refine ro hK (uh SY _ (uh E24).2.1) fun _=>?_
      clear hK K;refine t2 10 ?_;refine r1 11 rfl (fun K hK=>?_);obtain ⟨p0,hp0⟩:=(uh E24).1.2.2;obtain ⟨k0,k1,k2,f0,f1,f2⟩:=row3d hp0;have HS:=hide (sp9 ⟨yv,e.id,otV F1⟩ (uh E24).1.1 (uh E24).1.2.1 (uh E24).1.2.2 hPw);have HA9:=hide (sp9a (p:=⟨yv,e.id,otV F1⟩) (uh E24).2.1 nAP);clear hp0;go_simp;clear k0 k1 k2 f0 f1 f2;refine ro hK (uh SY _ (uh HA9)) fun _=>?_
      clear hK K;refine dn ?_ _;go_wp2_with fail
      go_meet;exact uh HS
     ·go_simp;refine (specBytesAll (.slice x1 F1.length y1) F1 y22 (by unfold maxLen;omega) (uh E22).2.2).mono ?_;rintro r y23 ⟨rfl,hb23⟩;have E23:=hide (t7b (uh E22) hb23);have G23:=hide ((hb23.block g21 (lt_of_row (uh G22))).trans (uh G22));clear hb23;go_wp2_with fail
      refine ro hK (uh SY _ (uh E23).2.1) fun _=>?_
      clear hK K;refine r1 4 rfl (fun K hK=>?_);obtain ⟨yv,hyv,_,_⟩:=lit_cell (uh G23) (by decide) r3 (by simpa using hr3');go_simp;clear hyv;refine ro hK (uh SY _ (uh E23).2.1) fun _=>?_
      clear hK K;refine t2 10 ?_;refine r1 11 rfl (fun K hK=>?_);obtain ⟨p0,hp0⟩:=(uh E23).1.2.2;obtain ⟨k0,k1,k2,f0,f1,f2⟩:=row3d hp0;have HS:=hide (sp9 ⟨yv,e.id,otV F1⟩ (uh E23).1.1 (uh E23).1.2.1 (uh E23).1.2.2 hPw);have HA9:=hide (sp9a (p:=⟨yv,e.id,otV F1⟩) (uh E23).2.1 nAP);clear hp0;go_simp;clear k0 k1 k2 f0 f1 f2;refine ro hK (uh SY _ (uh HA9)) fun _=>?_
      clear hK K;refine dn ?_ _;go_wp2_with fail
      go_meet;exact uh HS
    ·go_simp;refine (src_n yy (w.heap.size+2) sl n 3 (by decide) hn (uh E0).1.1.s (uh DB _ (uh E0).1.1.g)).mono ?_;rintro r y21 ⟨r3,rfl,hr3,hS9,ht21⟩;have hr3':r3<3:=by omega
     have hr3i:(r3:Int)<3:=by omega
     have E21:=hide (t7n (uh E0) (Nigh.of_touch ht21) hS9);clear ht21 hS9 hr3;go_wp2_with fail
     refine ro hK (uh SY _ (uh E21).2.1) fun _=>?_
     clear hK K;refine wpAnyH_ready (rs:=[0,9]) (by kernel_rfl) (by simp) ?_;refine AllReadyH.cons rfl (fun K hK=>?_) (AllReadyH.cons rfl (fun K hK=>?_) (AllReadyH.nil))
     ·have hb22:Below y21.heap.size y21 (y21.alloc (.cells #[.int .i64 2,.int .i64 3,.int .i64 4] 2)):=(Below.refl _ _).alloc (Nat.le_refl _) _;have ltB22:w.heap.size+2<y21.heap.size:=(uh E21).1.1.s.lt;have E22:=hide (t7b (uh E21) hb22);have G22:=hide (heap_alloc_new y21 (.cells #[.int .i64 2,.int .i64 3,.int .i64 4] 2));clear hb22;go_simp;refine ro hK (uh SY _ (uh E22).2.1) fun _=>?_
      clear hK K;generalize y21.heap.size=g22 at G22 ltB22 ⊢;generalize y21.alloc (.cells #[.int .i64 2,.int .i64 3,.int .i64 4] 2)=y22 at E22 G22 ⊢;have hS22:=uh SY _ (uh E22).2.1;refine t2 3 ?_;refine wpAnyH_ready (rs:=[4,9]) (by kernel_rfl) (by simp) ?_;refine AllReadyH.cons rfl (fun K hK=>?_) (AllReadyH.cons rfl (fun K hK=>?_) (AllReadyH.nil))
      ·obtain ⟨yv,hyv,_,_⟩:=lit_cell (uh G22) (by decide) r3 (by simpa using hr3');go_simp;clear hyv;refine ro hK (uh SY _ (uh E22).2.1) fun _=>?_
       clear hK K;refine r1 9 rfl (fun K hK=>?_);go_simp;refine (specBytesAll (.slice x1 F1.length y1) F1 y22 (by unfold maxLen;omega) (uh E22).2.2).mono ?_;rintro r y24 ⟨rfl,hb24⟩;have E24:=hide (t7b (uh E22) hb24);have G24:=hide ((hb24.block g22 (lt_of_row (uh G22))).trans (uh G22));clear hb24;go_wp2_with fail
       refine ro hK (uh SY _ (uh E24).2.1) fun _=>?_
       clear hK K;refine t2 10 ?_;refine r1 11 rfl (fun K hK=>?_);obtain ⟨p0,hp0⟩:=(uh E24).1.2.2;obtain ⟨k0,k1,k2,f0,f1,f2⟩:=row3d hp0;have HS:=hide (sp9 ⟨yv,e.id,otV F1⟩ (uh E24).1.1 (uh E24).1.2.1 (uh E24).1.2.2 hPw);have HA9:=hide (sp9a (p:=⟨yv,e.id,otV F1⟩) (uh E24).2.1 nAP);clear hp0;go_simp;clear k0 k1 k2 f0 f1 f2;refine ro hK (uh SY _ (uh HA9)) fun _=>?_
       clear hK K;refine dn ?_ _;go_wp2_with fail
       go_meet;exact uh HS
      ·go_simp;refine (specBytesAll (.slice x1 F1.length y1) F1 y22 (by unfold maxLen;omega) (uh E22).2.2).mono ?_;rintro r y23 ⟨rfl,hb23⟩;have E23:=hide (t7b (uh E22) hb23);have G23:=hide ((hb23.block g22 (lt_of_row (uh G22))).trans (uh G22));clear hb23;go_wp2_with fail
       refine ro hK (uh SY _ (uh E23).2.1) fun _=>?_
       clear hK K;refine r1 4 rfl (fun K hK=>?_);obtain ⟨yv,hyv,_,_⟩:=lit_cell (uh G23) (by decide) r3 (by simpa using hr3');go_simp;clear hyv;refine ro hK (uh SY _ (uh E23).2.1) fun _=>?_
       clear hK K;refine t2 10 ?_;refine r1 11 rfl (fun K hK=>?_);obtain ⟨p0,hp0⟩:=(uh E23).1.2.2;obtain ⟨k0,k1,k2,f0,f1,f2⟩:=row3d hp0;have HS:=hide (sp9 ⟨yv,e.id,otV F1⟩ (uh E23).1.1 (uh E23).1.2.1 (uh E23).1.2.2 hPw);have HA9:=hide (sp9a (p:=⟨yv,e.id,otV F1⟩) (uh E23).2.1 nAP);clear hp0;go_simp;clear k0 k1 k2 f0 f1 f2;refine ro hK (uh SY _ (uh HA9)) fun _=>?_
       clear hK K;refine dn ?_ _;go_wp2_with fail
       go_meet;exact uh HS
     ·go_simp;refine (specBytesAll (.slice x1 F1.length y1) F1 y21 (by unfold maxLen;omega) (uh E21).2.2).mono ?_;rintro r y22 ⟨rfl,hb22⟩;have E22:=hide (t7b (uh E21) hb22);clear hb22;go_wp2_with fail
      refine ro hK (uh SY _ (uh E22).2.1) fun _=>?_
      clear hK K;refine r1 0 rfl (fun K hK=>?_);have hb23:Below y22.heap.size y22 (y22.alloc (.cells #[.int .i64 2,.int .i64 3,.int .i64 4] 2)):=(Below.refl _ _).alloc (Nat.le_refl _) _;have ltB23:w.heap.size+2<y22.heap.size:=(uh E22).1.1.s.lt;have E23:=hide (t7b (uh E22) hb23);have G23:=hide (heap_alloc_new y22 (.cells #[.int .i64 2,.int .i64 3,.int .i64 4] 2));clear hb23;go_simp;refine ro hK (uh SY _ (uh E23).2.1) fun _=>?_
      clear hK K;generalize y22.heap.size=g23 at G23 ltB23 ⊢;generalize y22.alloc (.cells #[.int .i64 2,.int .i64 3,.int .i64 4] 2)=y23 at E23 G23 ⊢;have hS23:=uh SY _ (uh E23).2.1;refine t2 3 ?_;refine r1 4 rfl (fun K hK=>?_);obtain ⟨yv,hyv,_,_⟩:=lit_cell (uh G23) (by decide) r3 (by simpa using hr3');go_simp;clear hyv;refine ro hK (uh SY _ (uh E23).2.1) fun _=>?_
      clear hK K;refine t2 10 ?_;refine r1 11 rfl (fun K hK=>?_);obtain ⟨p0,hp0⟩:=(uh E23).1.2.2;obtain ⟨k0,k1,k2,f0,f1,f2⟩:=row3d hp0;have HS:=hide (sp9 ⟨yv,e.id,otV F1⟩ (uh E23).1.1 (uh E23).1.2.1 (uh E23).1.2.2 hPw);have HA9:=hide (sp9a (p:=⟨yv,e.id,otV F1⟩) (uh E23).2.1 nAP);clear hp0;go_simp;clear k0 k1 k2 f0 f1 f2;refine ro hK (uh SY _ (uh HA9)) fun _=>?_
      clear hK K;refine dn ?_ _;go_wp2_with fail
      go_meet;exact uh HS
   ·have e1:((q5:Int) == 1)=false:=beq_eq_false_iff_ne.2 (by omega);by_cases q2:q5=2
    ·subst q2;go_wp2_with fail
     refine (src_n tw (w.heap.size+2) sl n 9 (by decide) hn (uh HT2).1.s (uh DB _ (uh HT2).1.g)).mono ?_;rintro e t3 ⟨r9,rfl,_,hS3,ht3⟩;have HT3:=hide (t9n (uh HT2) (Nigh.of_touch ht3) hS3);clear HT2 hS3 ht3;go_wp2_with fail
     refine (src_options t3 (w.heap.size+2) sl n hn (uh HT3).1.s (uh DB _ (uh HT3).1.g)).mono ?_;rintro e t4 ⟨FF,ad,cp,rfl,hFF,ho⟩;have HT4:=hide (And.intro (t9n (uh HT3) ho.g ho.s) (HoldsO.own ho.o));clear HT3 ho;go_wp2_with fail
     refine (specBytesAll (.slice ad FF.length cp) FF t4 (by unfold maxLen;omega) (uh HT4).2).mono ?_;rintro e t5 ⟨rfl,hb5⟩;have HT5:=hide (t9n (uh HT4).1 (Nigh.of_below hb5) ((uh HT4).1.1.s.same (hb5.block _ (uh HT4).1.1.s.lt)));clear HT4 hb5;obtain ⟨p0,hp0⟩:=(uh HT5).2.2;obtain ⟨k0,k1,k2,f0,f1,f2⟩:=row3d hp0;have HS:=hide (sp9 ⟨1,(r9:Int),otV FF⟩ (uh HT5).1 (uh HT5).2.1 (uh HT5).2.2 hPw);clear hp0 HT5;go_wp2_with fail
     go_meet;exact uh HS
    ·have e2:((q5:Int) == 2)=false:=beq_eq_false_iff_ne.2 (by omega);go_wp2_with fail
     go_meet;exact uh HT2
 case rest =>
  rename World=>w7
  have HR:=hide hcut;clear hcut HT2 hK2 hK1;go_upto_region 10 with fail
  obtain ⟨hl0,⟨ca,ha1,ha2⟩,⟨p,hp1⟩⟩:=uh HR;have la:=ha2.size;have lo:=ha2.one;have HY:Hid (L0 w (w.heap.size+2) sl n w7∧EnR9 w7 ca∧w7.heap[A]?=some (.cells ca 29)∧w7.heap[A+1]?=some (.cells #[.int .i64 p.code,.int .i64 p.id,.string p.data] 35)):=hide ⟨hl0,ha2,ha1,hp1⟩;have SY:Hid (∀ z:World,z.heap[A]?=some (.cells ca 29)→z.heap[A+1]?=some (.cells #[.int .i64 p.code,.int .i64 p.id,.string p.data] 35)→(z.heap[A]?=some (.cells ca.toList.toArray 29)∧z.cell? ⟨A+1,0,none⟩=some (.int .i64 p.code)∧z.cell? ⟨A+1,1,none⟩=some (.int .i64 p.id)∧z.cell? ⟨A+1,2,none⟩=some (.string p.data))):=hide fun z h1 h2=>⟨h1,(row3d h2).1,(row3d h2).2.1,(row3d h2).2.2.1⟩
  clear hl0 ha1 ha2 hp1 HR;refine wp_region_held_drew (S:=fun z=>z.heap[A]?=some (.cells ca.toList.toArray 29)∧z.cell? ⟨A+1,0,none⟩=some (.int .i64 p.code)∧z.cell? ⟨A+1,1,none⟩=some (.int .i64 p.id)∧z.cell? ⟨A+1,2,none⟩=some (.string p.data)) (by kernel_rfl) (uh SY _ (uh HY).2.2.1 (uh HY).2.2.2) (fun hHeld=>?_);replace HY:Hid (L0 w (w.heap.size+2) sl n w7.drew∧EnR9 w7.drew ca∧w7.drew.heap[A]?=some (.cells ca 29)∧w7.drew.heap[A+1]?=some (.cells #[.int .i64 p.code,.int .i64 p.id,.string p.data] 35)):=hide ⟨(uh HY).1.below ((Below.refl _ _).drew),(uh HY).2.1.keep fun _ _ _=>rfl,(uh HY).2.2.1,(uh HY).2.2.2⟩;generalize w7.drew=yy at HY hHeld ⊢;refine t4 0 (.agg ca) rfl (yieldsIf_load_mid (by rfl) 29 (.tmp 6) rfl A 0 rfl ca.toList _ (fun z hz=>rangeRow hz.1) underlying29 rfl (by rw [Array.length_toList,la];exact infoE)) ?_;try simp only [Act.put,sA,sZ,sS,gA,gZ]
  refine t2 1 ?_;refine t2 2 ?_;refine r1 3 rfl (fun K hK=>?_);rw [if_pos (by rfl)];refine wp_store_row 29 (.tmp 2) (.tmp 44) rfl w.heap.size ca rfl rfl 29 enZ (uh HY).1.r2 (by rw [la];exact infoE) (by rw [la];rfl) lo ?_;have H5:=hide (put9 (uh HY).1 (uh HY).2.1 (uh HY).2.2.1 (uh HY).2.2.2 nA nA1.2.2);refine ro hK (uh SY _ (uh H5).2.1 (uh H5).2.2.1) fun _=>?_
  clear hK K;generalize yy.setRow w.heap.size ca=yz at H5 ⊢;have hSz:=uh SY _ (uh H5).2.1 (uh H5).2.2.1;refine r1 4 rfl (fun K hK=>?_);obtain ⟨k0,k1,k2,f0,f1,f2⟩:=row3d (uh H5).1.2.2.1;have H6:=hide (put9b (p:=p) (uh H5).1 nA1.1 nA1.2.1);go_simp;refine ro hK (uh SY _ ((uh H6).2.2 A _ (Or.inl nA1.1) (uh H5).2.1) ((uh H6).2.2 (A+1) _ (Or.inl nA1.2.1) (uh H5).2.2.1)) fun _=>?_
  clear hK K;refine t2 5 ?_;refine dn ?_ _;go_wp2_with fail
  refine bodyPost_ret (v:=.tuple #[.agg ca,.agg #[.int .i64 p.code,.int .i64 p.id,.string p.data],.int .i64 nw]) (by simp [results,results7,asAddr,Act.put,(uh H6).1.2];try first | exact ⟨rfl,rfl,rfl⟩ | exact ⟨rfl,rfl⟩ | rfl) rfl ⟨ca,p,nw,rfl,(uh H6).2.1,uh NB _ (uh H6).1.1.2⟩
end Go.Proofs.YtahpjlbaagkdoaaGreatDoor
