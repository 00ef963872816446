/- LawFe -/
import Derived.Test.YtahpjlbaagkdoaaGreatDoorS39
import Derived.Test.YtahpjlbaagkdoaaGreatDoorS45
import Derived.Test.YtahpjlbaagkdoaaGreatDoorS46
set_option maxHeartbeats 16000000
set_option maxRecDepth 100000
set_option linter.unusedSimpArgs false
namespace Go.Proofs.YtahpjlbaagkdoaaGreatDoor
open Go.RowKit Go.Proofs.Tryz
theorem kDo {w:World} {ca:Array Value} (t:ByteArray) (now:Int) (he:EnR9 w ca) (hEv:EvT w) (hNx:NxT w) (hSp:SpT w) (_:Et w):∃ o:EO,(∀ W,Below w.heap.size w W→Calls prog 9 #[.agg ca,.string t,.int .i64 now] W fun r q=>∃ cs,r=.returned (.agg cs)∧AnD o W.heap.size q.heap.size cs q∧Below W.heap.size W q) ∧
  (∀ W,Below w.heap.size w W→Calls prog 10 #[.agg ca,.string t,.int .i64 now] W fun r q=>∃ cs,r=.returned (.agg cs)∧AnD o W.heap.size q.heap.size cs q∧Below W.heap.size W q) ∧
  ∀ (W:World) (a b c d:Nat) (cs ds:Array Value),AnD o a b cs W→AnD o c d ds W→Calls prog 8 #[.agg ca,.agg cs,.agg ds] W fun r w'=>r=.returned (.bool true)∧Below W.heap.size W w':=by
 obtain ⟨e,F1,F2,x1,x2,y1,y2,rfl,h1,h2,l1,l2⟩:=he;have hB:EoB (doF e F1 F2 t now):=doF_len _ _ _ _ _ eoErr_len fun s t hf hl=>evF_len hf hl
 refine ⟨doF e F1 F2 t now,fun W hb=>?_,fun W hb=>?_,fun W a b c d cs ds ha hd=>lwDn (doF_right e F1 F2 t now) hB.l1 hB.l2 hB x1 x2 F1.length F2.length y1 y2 ha hd⟩
 ·refine (iEndDo e x1 x2 y1 y2 F1 F2 t now W (by omega) (by omega) (h1.below hb rfl) (h2.below hb rfl) (hEv.below hb) (hNx.below hb) (hSp.below hb)).mono ?_;rintro r q ⟨v1,v2,vs,vt,rfl,hE⟩;have:=AnD.of ⟨v1,v2,vs,vt,rfl,hE⟩
  exact ⟨_,rfl,this.1,this.2.1⟩
 ·refine (sEndDo e x1 x2 y1 y2 F1 F2 t now W (by omega) (by omega) (h1.below hb rfl) (h2.below hb rfl)).mono ?_;rintro r q ⟨v1,v2,vs,vt,rfl,hE⟩;have:=AnD.of ⟨v1,v2,vs,vt,rfl,hE⟩
  exact ⟨_,rfl,this.1,this.2.1⟩
theorem kTick {w:World} {ca:Array Value} (now:Int) (he:EnR9 w ca) (hEv:EvT w) (hNx:NxT w) (hSp:SpT w) (_:Et w):∃ o:EO,(∀ W,Below w.heap.size w W→Calls prog 11 #[.agg ca,.int .i64 now] W fun r q=>∃ cs,r=.returned (.agg cs)∧AnD o W.heap.size q.heap.size cs q∧Below W.heap.size W q) ∧
  (∀ W,Below w.heap.size w W→Calls prog 12 #[.agg ca,.int .i64 now] W fun r q=>∃ cs,r=.returned (.agg cs)∧AnD o W.heap.size q.heap.size cs q∧Below W.heap.size W q) ∧
  ∀ (W:World) (a b c d:Nat) (cs ds:Array Value),AnD o a b cs W→AnD o c d ds W→Calls prog 8 #[.agg ca,.agg cs,.agg ds] W fun r w'=>r=.returned (.bool true)∧Below W.heap.size W w':=by
 obtain ⟨e,F1,F2,x1,x2,y1,y2,rfl,h1,h2,l1,l2⟩:=he;have hB:EoB (tickF e F1 F2 now):=tickF_len9 _ _ _ _;refine ⟨tickF e F1 F2 now,fun W hb=>?_,fun W hb=>?_,fun W a b c d cs ds ha hd=>lwDn (tickF_right e F1 F2 now) hB.l1 hB.l2 hB x1 x2 F1.length F2.length y1 y2 ha hd⟩
 ·refine (iEndTick e x1 x2 y1 y2 F1 F2 now W (by omega) (by omega) (h1.below hb rfl) (h2.below hb rfl) (hEv.below hb) (hNx.below hb) (hSp.below hb)).mono ?_;rintro r q ⟨v1,v2,vs,vt,rfl,hE⟩;have:=AnD.of ⟨v1,v2,vs,vt,rfl,hE⟩
  exact ⟨_,rfl,this.1,this.2.1⟩
 ·refine (sEndTick e x1 x2 y1 y2 F1 F2 now W (by omega) (by omega) (h1.below hb rfl) (h2.below hb rfl)).mono ?_;rintro r q ⟨v1,v2,vs,vt,rfl,hE⟩;have:=AnD.of ⟨v1,v2,vs,vt,rfl,hE⟩
  exact ⟨_,rfl,this.1,this.2.1⟩
theorem kHear {w:World} {ca:Array Value} (p:Op.Pk) (now:Int) (he:EnR9 w ca) (hEv:EvT w) (hNx:NxT w) (hSp:SpT w) (hEt:Et w):∃ o:EO,(∀ W,Below w.heap.size w W→Calls prog 13 #[.agg ca,.agg #[.int .i64 p.code,.int .i64 p.id,.string p.data],.int .i64 now] W fun r q=>∃ cs,r=.returned (.agg cs)∧AnD o W.heap.size q.heap.size cs q∧Below W.heap.size W q) ∧
  (∀ W,Below w.heap.size w W→Calls prog 14 #[.agg ca,.agg #[.int .i64 p.code,.int .i64 p.id,.string p.data],.int .i64 now] W fun r q=>∃ cs,r=.returned (.agg cs)∧AnD o W.heap.size q.heap.size cs q∧Below W.heap.size W q) ∧
  ∀ (W:World) (a b c d:Nat) (cs ds:Array Value),AnD o a b cs W→AnD o c d ds W→Calls prog 8 #[.agg ca,.agg cs,.agg ds] W fun r w'=>r=.returned (.bool true)∧Below W.heap.size W w':=by
 obtain ⟨e,F1,F2,x1,x2,y1,y2,rfl,h1,h2,l1,l2⟩:=he;have hB:EoB (hearF e F1 F2 p now):=hearF_len _ _ _ _ _;refine ⟨hearF e F1 F2 p now,fun W hb=>?_,fun W hb=>?_,fun W a b c d cs ds ha hd=>lwDn (hearF_right e F1 F2 p now) hB.l1 hB.l2 hB x1 x2 F1.length F2.length y1 y2 ha hd⟩
 ·refine (iEndHear e x1 x2 y1 y2 F1 F2 p now W (by omega) (by omega) (h1.below hb rfl) (h2.below hb rfl) (hEv.below hb) (hNx.below hb) (hSp.below hb) (hEt.below hb hEt.lt)).mono ?_;rintro r q ⟨v1,v2,vs,vt,rfl,hE⟩;have:=AnD.of ⟨v1,v2,vs,vt,rfl,hE⟩
  exact ⟨_,rfl,this.1,this.2.1⟩
 ·refine (sEndHear e x1 x2 y1 y2 F1 F2 p now W (by omega) (by omega) (h1.below hb rfl) (h2.below hb rfl)).mono ?_;rintro r q ⟨v1,v2,vs,vt,rfl,hE⟩;have:=AnD.of ⟨v1,v2,vs,vt,rfl,hE⟩
  exact ⟨_,rfl,this.1,this.2.1⟩
structure Lv (w:World) (A C D:Nat) (ca cb cc:Array Value) (p:Op.Pk) (W:World):Prop where
 a:W.heap[A]?=some (.cells ca 29)
 c:W.heap[C]?=some (.cells cb 29)
 d:W.heap[D]?=some (.cells cc 29)
 p:W.heap[D+1]?=some (.cells #[.int .i64 p.code,.int .i64 p.id,.string p.data] 35)
 lo:Below w.heap.size w W
theorem Lv.step {w:World} {A C D:Nat} {ca cb cc:Array Value} {p:Op.Pk} {W W':World} (h:Lv w A C D ca cb cc p W) (hb:Below W.heap.size W W'):Lv w A C D ca cb cc p W' :=
 ⟨(hb.block _ (lt_of_row h.a)).trans h.a,(hb.block _ (lt_of_row h.c)).trans h.c,(hb.block _ (lt_of_row h.d)).trans h.d,(hb.block _ (lt_of_row h.p)).trans h.p,h.lo.trans (hb.mono h.lo.size)⟩
theorem lawFe (w:World) (s1 s2:Value) (n1 n2:Nat) (h1:n1≤maxLen) (h2:n2≤maxLen) (hD1:Dat w w.heap.size s1 n1) (hD2:Dat w w.heap.size s2 n2) (hl1:n1≤1048576) (hl2:n2≤1048576) (hEv:EvT w) (hNx:NxT w) (hSp:SpT w) (hEt:Et w) :
  Calls prog 3 #[s1,s2] w fun e w'=>e=.returned (.bool true)∧Below w.heap.size w w':=by
 have C1:=hide (drawDo w s1 n1 h1 hD1);have C2:=hide fun W (hb:Below w.heap.size w W)=>drawTick W s2 n2 h2 ((hD2.below hb).mono hb.size)
 have C3:=hide fun W (hb:Below w.heap.size w W)=>drawHear W s2 n2 h2 ((hD2.below hb).mono hb.size)
 have HT:=hide fun W (hb:Below w.heap.size w W)=>(⟨hEv.below hb,hNx.below hb,hSp.below hb,hEt.below hb hEt.lt⟩:EvT W∧NxT W∧SpT W∧Et W)
 obtain ⟨a1,cap1,rfl⟩:=hD1.1;obtain ⟨a2,cap2,rfl⟩:=hD2.1;have d1:¬ ((1048576:Int)<(n1:Int)):=by omega
 have d2:¬ ((1048576:Int)<(n2:Int)):=by omega
 clear hD1 hD2 hEv hNx hSp hEt;go_enter func3,ntmps3
 go_wp2_with fail
 refine (uh C1).mono ?_;rintro e w1 ⟨ca,t,nw,rfl,he1,hb1⟩;have la:=he1.size;have lo:=he1.one;have R1:=hide he1;have B1:=hide hb1;clear he1 hb1 C1
 go_upto_region 4 with (first
  | (refine wpList_store_rowTo rfl 29 (.tmp 5) (.tmp 24) rfl rfl w1.heap.size ca rfl rfl 29 enZ (heap_alloc_new w1 _) (by rw [la];exact infoE) (by rw [la];rfl) lo ?_))
 refine gen_world (fun q=>q.heap[w1.heap.size]?=some (.cells ca 29)∧EnR9 q ca∧Below w.heap.size w q) ?_ ?_
 ·have hb:Below w1.heap.size w1 ((w1.alloc (.cells enZ 29)).setRow w1.heap.size ca):=below_row ((Below.refl _ _).alloc (Nat.le_refl _) _) (Nat.le_refl _) _;exact ⟨setRow_heap _ _ _ ca _ _ (heap_alloc_new w1 _),(uh R1).keep fun g cur hg=>hb.block g (lt_of_row hg),(uh B1).trans (hb.mono (uh B1).size)⟩
 intro q1 hq1;have H1:=hide hq1;generalize w1.heap.size=A at *;clear hq1 R1 B1;go_wp2_with fail
 refine (uh C2 _ (uh H1).2.2).mono ?_;rintro e w2 ⟨cb,nx,rfl,he2,hb2⟩;have lb:=he2.size;have lo2:=he2.one;have H2:=hide (And.intro ((hb2.block _ (lt_of_row (uh H1).1)).trans (uh H1).1) (And.intro ((uh H1).2.1.keep fun g cur hg=>hb2.block g (lt_of_row hg)) (And.intro he2 ((uh H1).2.2.trans (hb2.mono (uh H1).2.2.size)))));clear he2 hb2 C2 H1
 go_upto_region 5 with (first
  | (refine wpList_store_rowTo rfl 29 (.tmp 8) (.tmp 30) rfl rfl w2.heap.size cb rfl rfl 29 enZ (heap_alloc_new w2 _) (by rw [lb];exact infoE) (by rw [lb];rfl) lo2 ?_))
 refine gen_world (fun q=>q.heap[A]?=some (.cells ca 29)∧EnR9 q ca∧q.heap[w2.heap.size]?=some (.cells cb 29)∧EnR9 q cb∧Below w.heap.size w q) ?_ ?_
 ·have hb:Below w2.heap.size w2 ((w2.alloc (.cells enZ 29)).setRow w2.heap.size cb):=below_row ((Below.refl _ _).alloc (Nat.le_refl _) _) (Nat.le_refl _) _;exact ⟨(hb.block _ (lt_of_row (uh H2).1)).trans (uh H2).1,(uh H2).2.1.keep fun g cur hg=>hb.block g (lt_of_row hg),setRow_heap _ _ _ cb _ _ (heap_alloc_new w2 _),(uh H2).2.2.1.keep fun g cur hg=>hb.block g (lt_of_row hg),(uh H2).2.2.2.trans (hb.mono (uh H2).2.2.2.size)⟩
 intro q2 hq2;have H3:=hide hq2;generalize w2.heap.size=C at *;clear hq2 H2;go_wp2_with fail
 refine (uh C3 _ (uh H3).2.2.2.2).mono ?_;rintro e w3 ⟨cc,p,ny,rfl,he3,hb3⟩;have lc:=he3.size;have lo3:=he3.one;obtain ⟨q1,q2,q3,q4,q5⟩:=newEp (x:=#[.int .i64 p.code,.int .i64 p.id,.string p.data]) he3;have hbb:=hb3.trans (q5.mono hb3.size);have HN:=hide (And.intro q1 (start2r w3 (.cells enZ 29) (.cells #[.int .i64 0,.int .i64 0,.string ⟨#[]⟩] 35)).2.1);have H4:=hide (And.intro ((⟨(hbb.block _ (lt_of_row (uh H3).1)).trans (uh H3).1,(hbb.block _ (lt_of_row (uh H3).2.2.1)).trans (uh H3).2.2.1,q2,q3,(uh H3).2.2.2.2.trans (hbb.mono (uh H3).2.2.2.2.size)⟩:Lv w A C w3.heap.size ca cb cc p _)) (And.intro ((uh H3).2.1.keep fun g cur hg=>hbb.block g (lt_of_row hg)) (And.intro ((uh H3).2.2.2.1.keep fun g cur hg=>hbb.block g (lt_of_row hg)) q4)));clear q1 q2 q3 q4 q5 hbb he3 hb3 H3 C3
 go_upto_region 6 with (first
  | (refine wpList_store_rowTo rfl 29 (.tmp 10) (.tmp 35) rfl rfl w3.heap.size cc rfl rfl 29 enZ (uh HN).2 (by rw [lc];exact infoE) (by rw [lc];rfl) lo3 ?_)
  | (refine wpList_store_rowTo rfl 35 (.tmp 11) (.tmp 36) rfl rfl (w3.heap.size+1) #[.int .i64 p.code,.int .i64 p.id,.string p.data] rfl rfl 35 #[.int .i64 0,.int .i64 0,.string ⟨#[]⟩] (uh HN).1 infoPkt rfl (by kernel_rfl) ?_))
 refine gen_world (fun q=>Lv w A C w3.heap.size ca cb cc p q∧EnR9 q ca∧EnR9 q cb∧EnR9 q cc) (uh H4) ?_;intro q3 hq3;generalize w3.heap.size=D at *;have htb:=uh HT q3 hq3.1.lo;obtain ⟨o1,hk1⟩:=kDo t nw hq3.2.1 htb.1 htb.2.1 htb.2.2.1 htb.2.2.2;obtain ⟨o2,hk2⟩:=kTick nx hq3.2.2.1 htb.1 htb.2.1 htb.2.2.1 htb.2.2.2;obtain ⟨o3,hk3⟩:=kHear p ny hq3.2.2.2 htb.1 htb.2.1 htb.2.2.1 htb.2.2.2;have KD:=hide hk1;have KT:=hide hk2;have KH:=hide hk3;have hw9:Lv q3 A C D ca cb cc p q3:=⟨hq3.1.a,hq3.1.c,hq3.1.d,hq3.1.p,Below.refl _ _⟩;have HLO:=hide hq3.1.lo;have E0:=hide (hw9.step (Below.refl _ _).drew);clear hq3 htb hk1 hk2 hk3 HT H4 HN hw9;have SY:Hid (∀ z,Lv q3 A C D ca cb cc p z→(z.heap[A]?=some (.cells ca.toList.toArray 29)∧z.heap[C]?=some (.cells cb.toList.toArray 29)∧z.heap[D]?=some (.cells cc.toList.toArray 29)∧z.cell? ⟨D+1,0,none⟩=some (.int .i64 p.code)∧z.cell? ⟨D+1,1,none⟩=some (.int .i64 p.id)∧z.cell? ⟨D+1,2,none⟩=some (.string p.data))):=hide fun z h=>⟨h.a,h.c,h.d,(row3d h.p).1,(row3d h.p).2.1,(row3d h.p).2.2.1⟩
 refine wp_region_held_drew (S:=fun z=>z.heap[A]?=some (.cells ca.toList.toArray 29)∧z.heap[C]?=some (.cells cb.toList.toArray 29)∧z.heap[D]?=some (.cells cc.toList.toArray 29)∧z.cell? ⟨D+1,0,none⟩=some (.int .i64 p.code)∧z.cell? ⟨D+1,1,none⟩=some (.int .i64 p.id)∧z.cell? ⟨D+1,2,none⟩=some (.string p.data)) (by kernel_rfl) (uh SY _ (uh E0)) (fun hHeld=>?_);generalize q3.drew=yy at E0 hHeld ⊢;refine t4 0 (.agg ca) rfl (yieldsIf_load_mid (by rfl) 29 (.tmp 5) rfl A 0 rfl ca.toList _ (fun z hz=>rangeRow hz.1) underlying29 rfl (by rw [Array.length_toList,la];exact infoE)) ?_;try simp only [Act.put,sA,sZ,sS,gA,gZ]
 refine t4 1 (.agg ca) rfl (yieldsIf_load_mid (by rfl) 29 (.tmp 5) rfl A 0 rfl ca.toList _ (fun z hz=>rangeRow hz.1) underlying29 rfl (by rw [Array.length_toList,la];exact infoE)) ?_;try simp only [Act.put,sA,sZ,sS,gA,gZ,gS]
 refine t2 2 ?_;refine t2 3 ?_;refine t4 5 (.agg ca) rfl (yieldsIf_load_mid (by rfl) 29 (.tmp 5) rfl A 0 rfl ca.toList _ (fun z hz=>rangeRow hz.1) underlying29 rfl (by rw [Array.length_toList,la];exact infoE)) ?_;try simp only [Act.put,sA,sZ,sS,gA,gZ,gS]
 refine t2 6 ?_;refine t2 7 ?_;refine r1 4 rfl (fun K hK=>?_);go_simp;refine ((uh KD).1 yy (uh E0).lo).mono ?_;rintro r y11 ⟨cs11,rfl,hA11,hb11⟩;have E11:=hide ((uh E0).step hb11);have A11:=hide hA11;clear hA11 hb11;go_wp2_with fail
 refine ro hK (uh SY _ (uh E11)) fun _=>?_
 clear hK K;refine r1 8 rfl (fun K hK=>?_);go_simp;refine ((uh KD).2.1 y11 (uh E11).lo).mono ?_;rintro r y12 ⟨cs12,rfl,hA12,hb12⟩;have E12:=hide ((uh E11).step hb12);have A12:=hide hA12;have AA12:=hide ((uh A11).step hb12);clear hA12 hb12;go_wp2_with fail
 refine ro hK (uh SY _ (uh E12)) fun _=>?_
 clear hK K;refine r1 9 rfl (fun K hK=>?_);go_simp;refine ((uh KD).2.2 y12 _ _ _ _ _ _ (uh AA12) (uh A12)).mono ?_;rintro r y13 ⟨rfl,hb13⟩;have E13:=hide ((uh E12).step hb13);clear hb13;go_wp2_with fail
 refine ro hK (uh SY _ (uh E13)) fun _=>?_
 clear hK K;refine t2 10 ?_;refine t4 11 (.agg cb) rfl (yieldsIf_load_mid (by rfl) 29 (.tmp 8) rfl C 0 rfl cb.toList _ (fun z hz=>rangeRow hz.2.1) underlying29 rfl (by rw [Array.length_toList,lb];exact infoE)) ?_;try simp only [Act.put,sA,sZ,sS,gA,gZ,gS]
 refine t4 12 (.agg cb) rfl (yieldsIf_load_mid (by rfl) 29 (.tmp 8) rfl C 0 rfl cb.toList _ (fun z hz=>rangeRow hz.2.1) underlying29 rfl (by rw [Array.length_toList,lb];exact infoE)) ?_;try simp only [Act.put,sA,sZ,sS,gA,gZ,gS]
 refine t2 13 ?_;refine t4 15 (.agg cb) rfl (yieldsIf_load_mid (by rfl) 29 (.tmp 8) rfl C 0 rfl cb.toList _ (fun z hz=>rangeRow hz.2.1) underlying29 rfl (by rw [Array.length_toList,lb];exact infoE)) ?_;try simp only [Act.put,sA,sZ,sS,gA,gZ,gS]
 refine t2 16 ?_;refine r1 14 rfl (fun K hK=>?_);go_simp;refine ((uh KT).1 y13 (uh E13).lo).mono ?_;rintro r y14 ⟨cs14,rfl,hA14,hb14⟩;have E14:=hide ((uh E13).step hb14);have A14:=hide hA14;clear hA14 hb14;go_wp2_with fail
 refine ro hK (uh SY _ (uh E14)) fun _=>?_
 clear hK K;refine r1 17 rfl (fun K hK=>?_);go_simp;refine ((uh KT).2.1 y14 (uh E14).lo).mono ?_;rintro r y15 ⟨cs15,rfl,hA15,hb15⟩;have E15:=hide ((uh E14).step hb15);have A15:=hide hA15;have AA15:=hide ((uh A14).step hb15);clear hA15 hb15;go_wp2_with fail
 refine ro hK (uh SY _ (uh E15)) fun _=>?_
 clear hK K;refine r1 18 rfl (fun K hK=>?_);go_simp;refine ((uh KT).2.2 y15 _ _ _ _ _ _ (uh AA15) (uh A15)).mono ?_;rintro r y16 ⟨rfl,hb16⟩;have E16:=hide ((uh E15).step hb16);clear hb16;go_wp2_with fail
 refine ro hK (uh SY _ (uh E16)) fun _=>?_
 clear hK K;refine t2 19 ?_;refine t2 20 ?_;refine t4 21 (.agg cc) rfl (yieldsIf_load_mid (by rfl) 29 (.tmp 10) rfl D 0 rfl cc.toList _ (fun z hz=>rangeRow hz.2.2.1) underlying29 rfl (by rw [Array.length_toList,lc];exact infoE)) ?_;try simp only [Act.put,sA,sZ,sS,gA,gZ,gS]
 refine t4 22 (.agg cc) rfl (yieldsIf_load_mid (by rfl) 29 (.tmp 10) rfl D 0 rfl cc.toList _ (fun z hz=>rangeRow hz.2.2.1) underlying29 rfl (by rw [Array.length_toList,lc];exact infoE)) ?_;try simp only [Act.put,sA,sZ,sS,gA,gZ,gS]
 refine t2 23 ?_;refine t2 24 ?_;refine t4 26 (.agg cc) rfl (yieldsIf_load_mid (by rfl) 29 (.tmp 10) rfl D 0 rfl cc.toList _ (fun z hz=>rangeRow hz.2.2.1) underlying29 rfl (by rw [Array.length_toList,lc];exact infoE)) ?_;try simp only [Act.put,sA,sZ,sS,gA,gZ,gS]
 refine t2 27 ?_;refine t2 28 ?_;refine r1 25 rfl (fun K hK=>?_);go_simp;refine ((uh KH).1 y16 (uh E16).lo).mono ?_;rintro r y17 ⟨cs17,rfl,hA17,hb17⟩;have E17:=hide ((uh E16).step hb17);have A17:=hide hA17;clear hA17 hb17;go_wp2_with fail
 refine ro hK (uh SY _ (uh E17)) fun _=>?_
 clear hK K;refine r1 29 rfl (fun K hK=>?_);go_simp;refine ((uh KH).2.1 y17 (uh E17).lo).mono ?_;rintro r y18 ⟨cs18,rfl,hA18,hb18⟩;have E18:=hide ((uh E17).step hb18);have A18:=hide hA18;have AA18:=hide ((uh A17).step hb18);clear hA18 hb18;go_wp2_with fail
 refine ro hK (uh SY _ (uh E18)) fun _=>?_
 clear hK K;refine r1 30 rfl (fun K hK=>?_);go_simp;refine ((uh KH).2.2 y18 _ _ _ _ _ _ (uh AA18) (uh A18)).mono ?_;rintro r y19 ⟨rfl,hb19⟩;have E19:=hide ((uh E18).step hb19);clear hb19;go_wp2_with fail
 refine ro hK (uh SY _ (uh E19)) fun _=>?_
 clear hK K;refine t2 31 ?_;refine t2 32 ?_;refine dn ?_ _;go_wp2
 go_ret
 exact ⟨rfl,(uh HLO).trans ((uh E19).lo.mono (uh HLO).size)⟩
end Go.Proofs.YtahpjlbaagkdoaaGreatDoor
