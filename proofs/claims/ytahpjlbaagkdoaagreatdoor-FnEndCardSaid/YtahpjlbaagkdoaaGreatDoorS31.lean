/- HrW EndOm EndSz LwD -/
import Derived.Test.YtahpjlbaagkdoaaGreatDoorS30
set_option maxHeartbeats 32000000
set_option maxRecDepth 100000
set_option linter.unusedSimpArgs false
namespace Go.Proofs.YtahpjlbaagkdoaaGreatDoor
open Go.RowKit Go.Proofs.Tryz
theorem sEndHear (e:En) (x1 x2:Option Addr) (y1 y2:Nat) (F1 F2:List Op.Opt) (p:Op.Pk) (now:Int) (w:World) (l1:F1.length≤1048576) (l2:F2.length≤1048576) (h1:HoldsO w (.slice x1 F1.length y1) F1) (h2:HoldsO w (.slice x2 F2.length y2) F2) :
  Calls prog 14 #[.agg (enC e (.slice x1 F1.length y1) (.slice x2 F2.length y2)),.agg #[.int .i64 p.code,.int .i64 p.id,.string p.data],.int .i64 now] w fun r w'=>EvA w (hearF e F1 F2 p now) r w':=by
 have CBG:=hide fun W (hb:Below w.heap.size w W)=>sBegin e x1 x2 y1 y2 F1 F2 now W l1 l2 (h1.below hb rfl) (h2.below hb rfl)
 have CP:Hid (∀ W,Calls prog 46 #[.agg #[.int .i64 p.code,.int .i64 p.id,.string p.data]] W fun e w'=>e=.returned (.bool (Op.pok p))∧Below W.heap.size W w'):=hide fun W=>specPkRight_at p.code p.id p.data W
 have CB0:=hide fun (hr:Op.right F1=true) W (hb:Below w.heap.size w W)=>specL04 _ F1 W hr (h1.below hb rfl)
 clear h1 h2;have HF:=hide (fit0 (e:=e) (F1:=F1) (F2:=F2) (now:=now));have HG:=hide (enOk_rights (e:=e) (F1:=F1) (F2:=F2));obtain ⟨hA,hP,hX,hb⟩:=start3r w (.cells (enC e (.slice x1 F1.length y1) (.slice x2 F2.length y2)) 29) (.cells #[.int .i64 p.code,.int .i64 p.id,.string p.data] 35) (.cells eoZ 42);obtain ⟨A,eA⟩:∃ A,w.heap.size=A:=⟨_,rfl⟩;have hXw0:w.heap.size≤A+1+1:=by omega
 rw [eA] at hA hP hX;have H0:=hide (And.intro hA (And.intro hP (And.intro hX hb)));clear hA hP hX hb;obtain ⟨RES,hRES⟩:∃ RES,hearF e F1 F2 p now=RES:=⟨_,rfl⟩;rw [hRES];have HR:=hide hRES;clear hRES;obtain ⟨ok,hok⟩:∃ b,(enOk e F1 F2 && within 0 1000000000 now)=b:=⟨_,rfl⟩;obtain ⟨ok3,hok3⟩:∃ b,Op.pok p=b:=⟨_,rfl⟩;rw [hok] at CBG HF;rw [hok3] at CP;have HO1:=hide hok;have HO3:=hide hok3;clear hok hok3;obtain ⟨n1,e1⟩:∃ n,F1.length=n:=⟨_,rfl⟩;obtain ⟨n2,e2⟩:∃ n,F2.length=n:=⟨_,rfl⟩;rw [e1] at CBG CB0 H0 ⊢;rw [e2] at CBG H0 ⊢;go_enter func14,ntmps14
 go_upto_region 1 with fail
 obtain ⟨X,hXe⟩:∃ X,A+1+1=X:=⟨_,rfl⟩;have hXw:w.heap.size≤X:=by omega
 rw [hXe] at H0 ⊢;clear hXe hXw0 eA;refine gen_world (Hb w A X (enC e (.slice x1 n1 y1) (.slice x2 n2 y2)) p) ?_ ?_
 ·exact ⟨(uh H0).1,(uh H0).2.1,(uh H0).2.2.1,(uh H0).2.2.2⟩
 clear H0;intro z hz;have HZ:=hide hz;clear hz
 go_wp2_with (first
  | (refine wpList_load_row rfl 29 (.tmp 3) rfl A rfl 29 (enC e (.slice x1 n1 y1) (.slice x2 n2 y2)) (0,0) _ (uh HZ).a underlying29 rfl infoE ?_))
 refine (uh CBG _ (uh HZ).b).mono ?_;rintro r z1 ⟨B,v1,v2,rfl,hL⟩;have HL:=hide hL;have KZ:Hid (∀ y9,Below z.heap.size z y9→Hb w A X (enC e (.slice x1 n1 y1) (.slice x2 n2 y2)) p y9):=hide fun y9 hb=>(uh HZ).step hb
 have KX:Hid (∀ y9,Below z.heap.size z y9→y9.heap[X]?=some (.cells eoZ 42)∧Below w.heap.size w y9):=hide fun y9 hb=>⟨((uh HZ).step hb).x,((uh HZ).step hb).b⟩
 clear hL CBG;obtain ⟨p0,p1,p2⟩:=(uh KZ _ (uh HL).low).pc;cases ok
 ·go_wp2_with (first
   | (refine wpList_buildTo rfl 42 _ rfl (some 22) rfl (eoC enZero (.slice none 0 0) (.slice none 0 0) (.slice none 0 0) (.slice none 0 0) 1) (by as_aux_lemma=>kernel_rfl) ?_)
   | (refine wpList_store_rowTo rfl 42 (.tmp 6) (.tmp 22) rfl rfl X (eoC enZero (.slice none 0 0) (.slice none 0 0) (.slice none 0 0) (.slice none 0 0) 1) rfl rfl 42 eoZ (uh KX _ (uh HL).low).1 infoEo rfl (eoC_all _ _ _ _ _ _ _ _ _ _ _ _ _ _) ?_))
  refine bodyPost_ret (v:=.agg (eoC enZero (.slice none 0 0) (.slice none 0 0) (.slice none 0 0) (.slice none 0 0) 1)) (by simp [results,results14,asAddr,Act.put,loadEo (setRow_heap z1 X _ (eoC enZero (.slice none 0 0) (.slice none 0 0) (.slice none 0 0) (.slice none 0 0) 1) _ _ (uh KX _ (uh HL).low).1)]) rfl ?_;have hres:RES=eoErr 1:=by
   rw [← uh HR];unfold hearF;rw [if_neg (fun h=>by have:=h.1;rw [uh HO1] at this;exact absurd this (by simp))]
  rw [hres];exact evErr (below_row (uh KX _ (uh HL).low).2 hXw _) 1
 replace HF:=hide (uh HF (by first | rfl | trivial));go_wp2_with fail
 refine (uh CP _).mono ?_;rintro r z2 ⟨rfl,hb2⟩;have HL2:=hide ((uh HL).step hb2);clear hb2 CP HL p0 p1 p2;cases ok3
 ·go_wp2_with (first
   | (refine wpList_buildTo rfl 42 _ rfl (some 22) rfl (eoC enZero (.slice none 0 0) (.slice none 0 0) (.slice none 0 0) (.slice none 0 0) 1) (by as_aux_lemma=>kernel_rfl) ?_)
   | (refine wpList_store_rowTo rfl 42 (.tmp 6) (.tmp 22) rfl rfl X (eoC enZero (.slice none 0 0) (.slice none 0 0) (.slice none 0 0) (.slice none 0 0) 1) rfl rfl 42 eoZ (uh KX _ (uh HL2).low).1 infoEo rfl (eoC_all _ _ _ _ _ _ _ _ _ _ _ _ _ _) ?_))
  refine bodyPost_ret (v:=.agg (eoC enZero (.slice none 0 0) (.slice none 0 0) (.slice none 0 0) (.slice none 0 0) 1)) (by simp [results,results14,asAddr,Act.put,loadEo (setRow_heap z2 X _ (eoC enZero (.slice none 0 0) (.slice none 0 0) (.slice none 0 0) (.slice none 0 0) 1) _ _ (uh KX _ (uh HL2).low).1)]) rfl ?_;have hres:RES=eoErr 1:=by
   rw [← uh HR];unfold hearF;rw [if_neg (fun h=>by have:=h.2;rw [uh HO3] at this;exact absurd this (by simp))]
  rw [hres];exact evErr (below_row (uh KX _ (uh HL2).low).2 hXw _) 1
 have HOK:Hid ((enOk e F1 F2 && within 0 1000000000 now)=true∧Op.pok p=true):=hide ⟨uh HO1,uh HO3⟩;have HF2:Hid (Fit 0 (cxP now p [] (0,[]) nilS nilS) ⟨e,F1,F2,[],[]⟩):=hide ((uh HF).1.came p (uh HOK).2 rfl rfl _ _);have c12:z2.cell? ⟨A,12,none⟩=some (.int .i64 e.st):=by rw [cr (uh KZ _ (uh HL2).low).a];rfl
 have CB:Hid (∀ W,Below z.heap.size z W→Calls prog 48 #[.slice x1 n1 y1] W fun e w'=>e=.returned (.string (txt (Op.bytes F1)))∧Below W.heap.size W w'):=hide fun W hb=>uh CB0 (uh HG (by have:=uh HO1;rw [Bool.and_eq_true] at this;exact this.1)).1 W (uh KX W hb).2
 clear HO1 HO3 HG CB0;by_cases hs1:e.st≤1
 ·go_wp2_with (first
   | (refine wpList_buildTo rfl 42 _ rfl (some 26) rfl (eoC enZero (.slice none 0 0) (.slice none 0 0) (.slice none 0 0) (.slice none 0 0) 8) (by as_aux_lemma=>kernel_rfl) ?_)
   | (refine wpList_store_rowTo rfl 42 (.tmp 6) (.tmp 26) rfl rfl X (eoC enZero (.slice none 0 0) (.slice none 0 0) (.slice none 0 0) (.slice none 0 0) 8) rfl rfl 42 eoZ (uh KX _ (uh HL2).low).1 infoEo rfl (eoC_all _ _ _ _ _ _ _ _ _ _ _ _ _ _) ?_))
  refine bodyPost_ret (v:=.agg (eoC enZero (.slice none 0 0) (.slice none 0 0) (.slice none 0 0) (.slice none 0 0) 8)) (by simp [results,results14,asAddr,Act.put,loadEo (setRow_heap z2 X _ (eoC enZero (.slice none 0 0) (.slice none 0 0) (.slice none 0 0) (.slice none 0 0) 8) _ _ (uh KX _ (uh HL2).low).1)]) rfl ?_;have hres:RES=eoErr 8:=by
   rw [← uh HR];unfold hearF;rw [if_pos (uh HOK),if_pos hs1]
  rw [hres];exact evErr (below_row (uh KX _ (uh HL2).low).2 hXw _) 8
 have HST:Hid (1<e.st):=hide (by omega);clear hs1;obtain ⟨p0,p1,p2⟩:=(uh KZ _ (uh HL2).low).pc;have k31:=(uh HL2).cell (i:=31) rfl;have k32:=(uh HL2).cell (i:=32) rfl;have k33:=(uh HL2).cell (i:=33) rfl;have f31:=(uh HL2).frz 31;have f32:=(uh HL2).frz 32;have f33:=(uh HL2).frz 33;have HS1:=uh HST;go_upto_region 7 with fail
 refine gen_world (fun y=>Lay 89 z z1 B (cxP now p [] (0,[]) nilS nilS) ⟨e,F1,F2,[],[]⟩ v1 v2 nilS nilS y) ((uh HL2).cameP p.code p.id p.data) ?_;clear p0 p1 p2 k31 k32 k33 f31 f32 f33 HL2 c12;intro z4 hz4;have HL4:=hide hz4;obtain ⟨p0,p1,p2⟩:=(uh KZ _ hz4.low).pc;have HQQ:Hid (0≤e.st∧e.st≤9):=hide (uh HF).2.1;by_cases h1:p.code=1
 ·have CE:=hide (sRequest hz4 (uh HF).1 (uh HOK).2 (uh HQQ) h1);have HRS:Hid (RES=hearP now p e F1 F2):=hide (by
   rw [← uh HR];unfold hearF;rw [if_pos (uh HOK),if_neg (by have:=uh HST;omega)])
  rw [h1] at p0;clear hz4 h1 CB p1 p2;generalize hearP now p e F1 F2=EV at *;go_wp2_with fail
  refine (uh CE).mono ?_;rintro r z6 ⟨u1,u2,us,ut,rfl,hE'⟩;have hE:EvA z EV (.returned (.agg (eoC EV.e u1 u2 us ut EV.cd))) z6:=⟨u1,u2,us,ut,rfl,hE'⟩;clear hE';generalize eoC EV.e u1 u2 us ut EV.cd=cs at *;obtain ⟨hsz,hall,hX2,hEv⟩:=hE.up (uh HZ).b (uh HZ).x hXw;have HE2:=hide (And.intro hX2 hEv);clear hE hX2 hEv CE
  go_wp2_with (first
   | (refine wpList_store_rowTo rfl 42 (.tmp 6) (.tmp 36) rfl rfl X cs rfl rfl 42 eoZ (uh HE2).1 (by rw [hsz];exact infoEo) (by rw [hsz];rfl) hall ?_))
  refine bodyPost_ret (v:=.agg cs) (by simp [results,results14,asAddr,Act.put,loadEo (setRow_heap z6 X _ cs _ _ (uh HE2).1) hsz]) rfl ?_;rw [uh HRS];exact (uh HE2).2
 by_cases h2:p.code=2
 ·rw [h2] at p0;clear hz4;have SX:Hid (∀ y9,Below z.heap.size z y9→y9.cell? ⟨A+1,1,none⟩=some (.int .i64 p.id)∧y9.cell? ⟨A,15,none⟩=some (.int .i64 e.id)∧y9.cell? ⟨A+1,2,none⟩=some (.string p.data)∧y9.cell? ⟨A,17,none⟩=some (.slice x1 n1 y1)):=hide fun y9 hb=>by
   have hh:=uh KZ y9 hb;exact ⟨hh.pc.2.1,by rw [cr hh.a];rfl,hh.pc.2.2,by rw [cr hh.a];rfl⟩
  by_cases hi:p.id=e.id
  ·by_cases hu:p.data=txt (Op.bytes F1)
   ·have HEQ:=hide (And.intro hi hu);rw [hi,hu] at SX;rw [hi] at p1;rw [hu] at p2;clear hi hu;obtain ⟨t,ht⟩:∃ t,txt (Op.bytes F1)=t:=⟨_,rfl⟩;rw [ht] at SX CB p2;obtain ⟨x,hx⟩:∃ x,e.id=x:=⟨_,rfl⟩;rw [hx] at SX p1;clear ht hx;go_upto_region 11 with fail
    have E4:=hide ((uh HL4).step (Below.refl _ _).drew);refine wp_region_held_drew (S:=fun y9=>y9.cell? ⟨A+1,1,none⟩=some (.int .i64 x)∧y9.cell? ⟨A,15,none⟩=some (.int .i64 x)∧y9.cell? ⟨A+1,2,none⟩=some (.string t)∧y9.cell? ⟨A,17,none⟩=some (.slice x1 n1 y1)) (by kernel_rfl) (uh SX _ (uh E4).low) (fun hHeld=>?_);generalize z4.drew=yy at E4 hHeld ⊢;refine t2 0 ?_;refine t2 1 ?_;refine t2 2 ?_;refine t2 3 ?_;refine t2 4 ?_;refine t2 5 ?_;refine t2 6 ?_;refine t2 7 ?_;refine t2 8 ?_;refine t2 9 ?_;refine r1 10 rfl (fun K hK=>?_);go_simp;refine (uh CB _ (uh E4).low).mono ?_;rintro r z5 ⟨rfl,hb5⟩;have E5:=hide ((uh E4).step hb5);clear hb5;go_wp2_with fail
    refine ro hK (uh SX _ (uh E5).low) fun _=>?_
    clear hK K;refine t2 11 ?_;refine t2 12 ?_;refine dn ?_ _;have CE:=hide (sEvent z z1 B (cxP now p [] (0,[]) nilS nilS) ⟨e,F1,F2,[],[]⟩ v1 v2 z5 (uh E5) rfl rfl (uh HF2) ⟨#[82,67,65]⟩ (by decide) (fun a ha=>actSAll _ a ((fsmAll (i:=8) (c:=(cxP now p [] (0,[]) nilS nilS)) rfl (uh HF).2.1.1 (uh HF).2.1.2 (fun h=>absurd h (by decide)) (fun h=>absurd h (by decide))).1 a ha)) (fsmAll (i:=8) (c:=(cxP now p [] (0,[]) nilS nilS)) rfl (uh HF).2.1.1 (uh HF).2.1.2 (fun h=>absurd h (by decide)) (fun h=>absurd h (by decide))).2);have HRS:Hid (RES=evF (cxP now p [] (0,[]) nilS nilS) ⟨e,F1,F2,[],[]⟩ ⟨#[82,67,65]⟩):=hide (by
     rw [← uh HR];unfold hearF;rw [if_pos (uh HOK),if_neg (by have:=uh HST;omega)];unfold hearP;rw [if_neg (by omega),if_pos h2,if_pos (uh HEQ)];rfl)
    generalize evF (cxP now p [] (0,[]) nilS nilS) ⟨e,F1,F2,[],[]⟩ ⟨#[82,67,65]⟩=EV at *;go_wp2_with fail
    refine (uh CE).mono ?_;rintro r z6 ⟨u1,u2,us,ut,rfl,hE'⟩;have hE:EvA z EV (.returned (.agg (eoC EV.e u1 u2 us ut EV.cd))) z6:=⟨u1,u2,us,ut,rfl,hE'⟩;clear hE';generalize eoC EV.e u1 u2 us ut EV.cd=cs at *;obtain ⟨hsz,hall,hX2,hEv⟩:=hE.up (uh HZ).b (uh HZ).x hXw;have HE2:=hide (And.intro hX2 hEv);clear hE hX2 hEv CE
    go_wp2_with (first
     | (refine wpList_store_rowTo rfl 42 (.tmp 6) (.tmp 54) rfl rfl X cs rfl rfl 42 eoZ (uh HE2).1 (by rw [hsz];exact infoEo) (by rw [hsz];rfl) hall ?_))
    refine bodyPost_ret (v:=.agg cs) (by simp [results,results14,asAddr,Act.put,loadEo (setRow_heap z6 X _ cs _ _ (uh HE2).1) hsz]) rfl ?_;rw [uh HRS];exact (uh HE2).2
   ·have HNE:Hid (¬ (p.id=e.id∧p.data=txt (Op.bytes F1))):=hide fun h=>hu h.2
    rw [hi] at SX p1;obtain ⟨t,ht⟩:∃ t,p.data=t:=⟨_,rfl⟩;obtain ⟨u,hu'⟩:∃ u,txt (Op.bytes F1)=u:=⟨_,rfl⟩;rw [ht] at SX p2 hu;rw [hu'] at CB hu;obtain ⟨x,hx⟩:∃ x,e.id=x:=⟨_,rfl⟩;rw [hx] at SX p1;clear ht hu' hi hx;have hu2:(t.toList != u.toList)=true:=by
     rw [bne_iff_ne];intro e;exact hu (of_toList9 e)
    have hu3:(t.toList == u.toList)=false:=by
     rw [beq_eq_false_iff_ne];intro e;exact hu (of_toList9 e)
    clear hu;go_upto_region 11 with fail
    have E4:=hide ((uh HL4).step (Below.refl _ _).drew);refine wp_region_held_drew (S:=fun y9=>y9.cell? ⟨A+1,1,none⟩=some (.int .i64 x)∧y9.cell? ⟨A,15,none⟩=some (.int .i64 x)∧y9.cell? ⟨A+1,2,none⟩=some (.string t)∧y9.cell? ⟨A,17,none⟩=some (.slice x1 n1 y1)) (by kernel_rfl) (uh SX _ (uh E4).low) (fun hHeld=>?_);generalize z4.drew=yy at E4 hHeld ⊢;refine t2 0 ?_;refine t2 1 ?_;refine t2 2 ?_;refine t2 3 ?_;refine t2 4 ?_;refine t2 5 ?_;refine t2 6 ?_;refine t2 7 ?_;refine t2 8 ?_;refine t2 9 ?_;refine r1 10 rfl (fun K hK=>?_);go_simp;refine (uh CB _ (uh E4).low).mono ?_;rintro r z5 ⟨rfl,hb5⟩;have E5:=hide ((uh E4).step hb5);clear hb5;go_wp2_with fail
    refine ro hK (uh SX _ (uh E5).low) fun _=>?_
    clear hK K;refine t2 11 ?_;refine t2 12 ?_;refine dn ?_ _
    go_wp2_with (first
     | (refine wpList_buildTo rfl 42 _ rfl (some 52) rfl (eoC enZero (.slice none 0 0) (.slice none 0 0) (.slice none 0 0) (.slice none 0 0) 8) (by as_aux_lemma=>kernel_rfl) ?_)
     | (refine wpList_store_rowTo rfl 42 (.tmp 6) (.tmp 52) rfl rfl X (eoC enZero (.slice none 0 0) (.slice none 0 0) (.slice none 0 0) (.slice none 0 0) 8) rfl rfl 42 eoZ (uh KX _ (uh E5).low).1 infoEo rfl (eoC_all _ _ _ _ _ _ _ _ _ _ _ _ _ _) ?_))
    refine bodyPost_ret (v:=.agg (eoC enZero (.slice none 0 0) (.slice none 0 0) (.slice none 0 0) (.slice none 0 0) 8)) (by simp [results,results14,asAddr,Act.put,loadEo (setRow_heap z5 X _ (eoC enZero (.slice none 0 0) (.slice none 0 0) (.slice none 0 0) (.slice none 0 0) 8) _ _ (uh KX _ (uh E5).low).1)]) rfl ?_;have hres:RES=eoErr 8:=by
     rw [← uh HR];unfold hearF;rw [if_pos (uh HOK),if_neg (by have:=uh HST;omega)];unfold hearP;rw [if_neg (by omega),if_pos h2,if_neg (uh HNE)]
    rw [hres];exact evErr (below_row (uh KX _ (uh E5).low).2 hXw _) 8
  ·have HNE:Hid (¬ (p.id=e.id∧p.data=txt (Op.bytes F1))):=hide fun h=>hi h.1
   have hi2:(p.id != e.id)=true:=by simpa using hi
   have hi3:(p.id == e.id)=false:=by simpa using hi
   obtain ⟨t,ht⟩:∃ t,p.data=t:=⟨_,rfl⟩;obtain ⟨x,hx⟩:∃ x,p.id=x:=⟨_,rfl⟩;obtain ⟨y,hy⟩:∃ y,e.id=y:=⟨_,rfl⟩;rw [ht] at SX p2;rw [hx] at SX p1 hi2 hi3;rw [hy] at SX hi2 hi3;clear ht hi hx hy;go_upto_region 11 with fail
   have E4:=hide ((uh HL4).step (Below.refl _ _).drew);refine wp_region_held_drew (S:=fun y9=>y9.cell? ⟨A+1,1,none⟩=some (.int .i64 x)∧y9.cell? ⟨A,15,none⟩=some (.int .i64 y)∧y9.cell? ⟨A+1,2,none⟩=some (.string t)∧y9.cell? ⟨A,17,none⟩=some (.slice x1 n1 y1)) (by kernel_rfl) (uh SX _ (uh E4).low) (fun hHeld=>?_);generalize z4.drew=yy at E4 hHeld ⊢;refine t2 0 ?_;refine t2 1 ?_;refine t2 2 ?_;refine t2 3 ?_;refine t2 4 ?_;refine t2 5 ?_;refine t5 6 ?_;refine t5 7 ?_;refine t5 8 ?_;refine t5 9 ?_;refine t5 10 ?_;refine t5 11 ?_;refine t2 12 ?_;refine dn ?_ _
   go_wp2_with (first
    | (refine wpList_buildTo rfl 42 _ rfl (some 52) rfl (eoC enZero (.slice none 0 0) (.slice none 0 0) (.slice none 0 0) (.slice none 0 0) 8) (by as_aux_lemma=>kernel_rfl) ?_)
    | (refine wpList_store_rowTo rfl 42 (.tmp 6) (.tmp 52) rfl rfl X (eoC enZero (.slice none 0 0) (.slice none 0 0) (.slice none 0 0) (.slice none 0 0) 8) rfl rfl 42 eoZ (uh KX _ (uh E4).low).1 infoEo rfl (eoC_all _ _ _ _ _ _ _ _ _ _ _ _ _ _) ?_))
   refine bodyPost_ret (v:=.agg (eoC enZero (.slice none 0 0) (.slice none 0 0) (.slice none 0 0) (.slice none 0 0) 8)) (by simp [results,results14,asAddr,Act.put,loadEo (setRow_heap yy X _ (eoC enZero (.slice none 0 0) (.slice none 0 0) (.slice none 0 0) (.slice none 0 0) 8) _ _ (uh KX _ (uh E4).low).1)]) rfl ?_;have hres:RES=eoErr 8:=by
    rw [← uh HR];unfold hearF;rw [if_pos (uh HOK),if_neg (by have:=uh HST;omega)];unfold hearP;rw [if_neg (by omega),if_pos h2,if_neg (uh HNE)]
   rw [hres];exact evErr (below_row (uh KX _ (uh E4).low).2 hXw _) 8
 by_cases h34:p.code=3∨p.code=4
 ·have CE:=hide (sRefused hz4 (uh HF).1 (uh HOK).2 (uh HQQ) h34);have HRS:Hid (RES=hearP now p e F1 F2):=hide (by
   rw [← uh HR];unfold hearF;rw [if_pos (uh HOK),if_neg (by have:=uh HST;omega)])
  clear hz4 CB p1 p2 h1 h2;generalize hearP now p e F1 F2=EV at *;rcases h34 with h3 | h4
  ·rw [h3] at p0;clear h3;go_wp2_with fail
   refine (uh CE).mono ?_;rintro r z6 ⟨u1,u2,us,ut,rfl,hE'⟩;have hE:EvA z EV (.returned (.agg (eoC EV.e u1 u2 us ut EV.cd))) z6:=⟨u1,u2,us,ut,rfl,hE'⟩;clear hE';generalize eoC EV.e u1 u2 us ut EV.cd=cs at *;obtain ⟨hsz,hall,hX2,hEv⟩:=hE.up (uh HZ).b (uh HZ).x hXw;have HE2:=hide (And.intro hX2 hEv);clear hE hX2 hEv CE
   go_wp2_with (first
    | (refine wpList_store_rowTo rfl 42 (.tmp 6) (.tmp 59) rfl rfl X cs rfl rfl 42 eoZ (uh HE2).1 (by rw [hsz];exact infoEo) (by rw [hsz];rfl) hall ?_))
   refine bodyPost_ret (v:=.agg cs) (by simp [results,results14,asAddr,Act.put,loadEo (setRow_heap z6 X _ cs _ _ (uh HE2).1) hsz]) rfl ?_;rw [uh HRS];exact (uh HE2).2
  ·rw [h4] at p0;clear h4;go_wp2_with fail
   refine (uh CE).mono ?_;rintro r z6 ⟨u1,u2,us,ut,rfl,hE'⟩;have hE:EvA z EV (.returned (.agg (eoC EV.e u1 u2 us ut EV.cd))) z6:=⟨u1,u2,us,ut,rfl,hE'⟩;clear hE';generalize eoC EV.e u1 u2 us ut EV.cd=cs at *;obtain ⟨hsz,hall,hX2,hEv⟩:=hE.up (uh HZ).b (uh HZ).x hXw;have HE2:=hide (And.intro hX2 hEv);clear hE hX2 hEv CE
   go_wp2_with (first
    | (refine wpList_store_rowTo rfl 42 (.tmp 6) (.tmp 59) rfl rfl X cs rfl rfl 42 eoZ (uh HE2).1 (by rw [hsz];exact infoEo) (by rw [hsz];rfl) hall ?_))
   refine bodyPost_ret (v:=.agg cs) (by simp [results,results14,asAddr,Act.put,loadEo (setRow_heap z6 X _ cs _ _ (uh HE2).1) hsz]) rfl ?_;rw [uh HRS];exact (uh HE2).2
 have h3:p.code≠3:=fun h=>h34 (Or.inl h)
 have h4:p.code≠4:=fun h=>h34 (Or.inr h)
 clear hz4 CB;by_cases h5:p.code=5
 ·rw [h5] at p0;have CE:=hide (sEvent z z1 B (cxP now p [] (0,[]) nilS nilS) ⟨e,F1,F2,[],[]⟩ v1 v2 z4 (uh HL4) rfl rfl (uh HF2) ⟨#[82,84,82]⟩ (by decide) (fun a ha=>actSAll _ a ((fsmAll (i:=10) (c:=(cxP now p [] (0,[]) nilS nilS)) rfl (uh HF).2.1.1 (uh HF).2.1.2 (fun h=>absurd h (by decide)) (fun h=>absurd h (by decide))).1 a ha)) (fsmAll (i:=10) (c:=(cxP now p [] (0,[]) nilS nilS)) rfl (uh HF).2.1.1 (uh HF).2.1.2 (fun h=>absurd h (by decide)) (fun h=>absurd h (by decide))).2);have HRS:Hid (RES=evF (cxP now p [] (0,[]) nilS nilS) ⟨e,F1,F2,[],[]⟩ ⟨#[82,84,82]⟩):=hide (by
   rw [← uh HR];unfold hearF;rw [if_pos (uh HOK),if_neg (by have:=uh HST;omega)];unfold hearP;rw [if_neg h1,if_neg h2,if_neg h34,if_neg (fun h=>absurd (h5.symm.trans h.1) (by decide)),if_pos h5];rfl)
  generalize evF (cxP now p [] (0,[]) nilS nilS) ⟨e,F1,F2,[],[]⟩ ⟨#[82,84,82]⟩=EV at *;go_wp2_with fail
  refine (uh CE).mono ?_;rintro r z6 ⟨u1,u2,us,ut,rfl,hE'⟩;have hE:EvA z EV (.returned (.agg (eoC EV.e u1 u2 us ut EV.cd))) z6:=⟨u1,u2,us,ut,rfl,hE'⟩;clear hE';generalize eoC EV.e u1 u2 us ut EV.cd=cs at *;obtain ⟨hsz,hall,hX2,hEv⟩:=hE.up (uh HZ).b (uh HZ).x hXw;have HE2:=hide (And.intro hX2 hEv);clear hE hX2 hEv CE
  go_wp2_with (first
   | (refine wpList_store_rowTo rfl 42 (.tmp 6) (.tmp 63) rfl rfl X cs rfl rfl 42 eoZ (uh HE2).1 (by rw [hsz];exact infoEo) (by rw [hsz];rfl) hall ?_))
  refine bodyPost_ret (v:=.agg cs) (by simp [results,results14,asAddr,Act.put,loadEo (setRow_heap z6 X _ cs _ _ (uh HE2).1) hsz]) rfl ?_;rw [uh HRS];exact (uh HE2).2
 by_cases h6:p.code=6
 ·rw [h6] at p0;have CE:=hide (sEvent z z1 B (cxP now p [] (0,[]) nilS nilS) ⟨e,F1,F2,[],[]⟩ v1 v2 z4 (uh HL4) rfl rfl (uh HF2) ⟨#[82,84,65]⟩ (by decide) (fun a ha=>actSAll _ a ((fsmAll (i:=11) (c:=(cxP now p [] (0,[]) nilS nilS)) rfl (uh HF).2.1.1 (uh HF).2.1.2 (fun h=>absurd h (by decide)) (fun h=>absurd h (by decide))).1 a ha)) (fsmAll (i:=11) (c:=(cxP now p [] (0,[]) nilS nilS)) rfl (uh HF).2.1.1 (uh HF).2.1.2 (fun h=>absurd h (by decide)) (fun h=>absurd h (by decide))).2);have HRS:Hid (RES=evF (cxP now p [] (0,[]) nilS nilS) ⟨e,F1,F2,[],[]⟩ ⟨#[82,84,65]⟩):=hide (by
   rw [← uh HR];unfold hearF;rw [if_pos (uh HOK),if_neg (by have:=uh HST;omega)];unfold hearP;rw [if_neg h1,if_neg h2,if_neg h34,if_neg (fun h=>absurd (h6.symm.trans h.1) (by decide)),if_neg h5,if_pos h6];rfl)
  generalize evF (cxP now p [] (0,[]) nilS nilS) ⟨e,F1,F2,[],[]⟩ ⟨#[82,84,65]⟩=EV at *;go_wp2_with fail
  refine (uh CE).mono ?_;rintro r z6 ⟨u1,u2,us,ut,rfl,hE'⟩;have hE:EvA z EV (.returned (.agg (eoC EV.e u1 u2 us ut EV.cd))) z6:=⟨u1,u2,us,ut,rfl,hE'⟩;clear hE';generalize eoC EV.e u1 u2 us ut EV.cd=cs at *;obtain ⟨hsz,hall,hX2,hEv⟩:=hE.up (uh HZ).b (uh HZ).x hXw;have HE2:=hide (And.intro hX2 hEv);clear hE hX2 hEv CE
  go_wp2_with (first
   | (refine wpList_store_rowTo rfl 42 (.tmp 6) (.tmp 67) rfl rfl X cs rfl rfl 42 eoZ (uh HE2).1 (by rw [hsz];exact infoEo) (by rw [hsz];rfl) hall ?_))
  refine bodyPost_ret (v:=.agg cs) (by simp [results,results14,asAddr,Act.put,loadEo (setRow_heap z6 X _ cs _ _ (uh HE2).1) hsz]) rfl ?_;rw [uh HRS];exact (uh HE2).2
 by_cases h7:p.code=7
 ·rw [h7] at p0;by_cases hz:p.data.size=0
  ·have ht0:p.data=⟨#[]⟩:=by
    apply ByteArray.ext
    exact Array.eq_empty_of_size_eq_zero hz
   rw [ht0] at p2
   go_wp2_with (first
    | (refine wpList_buildTo rfl 42 _ rfl (some 73) rfl (eoC enZero (.slice none 0 0) (.slice none 0 0) (.slice none 0 0) (.slice none 0 0) 4) (by as_aux_lemma=>kernel_rfl) ?_)
    | (refine wpList_store_rowTo rfl 42 (.tmp 6) (.tmp 73) rfl rfl X (eoC enZero (.slice none 0 0) (.slice none 0 0) (.slice none 0 0) (.slice none 0 0) 4) rfl rfl 42 eoZ (uh KX _ (uh HL4).low).1 infoEo rfl (eoC_all _ _ _ _ _ _ _ _ _ _ _ _ _ _) ?_))
   refine bodyPost_ret (v:=.agg (eoC enZero (.slice none 0 0) (.slice none 0 0) (.slice none 0 0) (.slice none 0 0) 4)) (by simp [results,results14,asAddr,Act.put,loadEo (setRow_heap z4 X _ (eoC enZero (.slice none 0 0) (.slice none 0 0) (.slice none 0 0) (.slice none 0 0) 4) _ _ (uh KX _ (uh HL4).low).1)]) rfl ?_;have hres:RES=eoErr 4:=by
    rw [← uh HR];unfold hearF;rw [if_pos (uh HOK),if_neg (by have:=uh HST;omega)];unfold hearP;rw [if_neg h1,if_neg h2,if_neg h34,if_pos ⟨h7,hz⟩]
   rw [hres];exact evErr (below_row (uh KX _ (uh HL4).low).2 hXw _) 4
  ·have HD:Hid (¬ (p.code=7∧p.data.size=0)):=hide fun h=>hz h.2
   obtain ⟨t,ht⟩:∃ t,p.data=t:=⟨_,rfl⟩;have HB:Hid (hardB p.data=hardB t):=hide (by rw [ht]);rw [ht] at p2 hz;clear ht;obtain ⟨⟨l⟩⟩:=t;cases l with
   | nil=>exact absurd rfl hz
   | cons b l =>
    clear hz;have d0:(ByteArray.mk ⟨b :: l⟩).toList.isEmpty=false:=by rw [ByteArray.toList_eq];rfl
    have d00:((ByteArray.mk ⟨b :: l⟩).toList == [])=false:=by rw [ByteArray.toList_eq];rfl
    have d3:0<(ByteArray.mk ⟨b :: l⟩).size:=by show 0<l.length+1;omega
    have d4:¬ ((ByteArray.mk ⟨b :: l⟩).size=0):=by omega
    have hbg:(ByteArray.mk ⟨b :: l⟩)[0]'d3=b:=rfl;have hhb:hardB ⟨⟨b :: l⟩⟩=decide (1≤b.toNat∧b.toNat≤7):=rfl;by_cases hlo:1≤b.toNat
    ·by_cases hhi:b.toNat≤7
     ·have HHD:Hid (hardB p.data=true):=hide (by rw [uh HB,hhb];exact decide_eq_true ⟨hlo,hhi⟩);have q1:(1:Int)≤(b.toNat:Int):=by omega
      have q2:(b.toNat:Int)≤7:=by omega
      have q3:(1:Int)≤(((ByteArray.mk ⟨b :: l⟩)[0]'d3).toNat:Int):=q1;have q4:(((ByteArray.mk ⟨b :: l⟩)[0]'d3).toNat:Int)≤7:=q2;clear hlo hhi hbg hhb;have CE:=hide (sEvent z z1 B (cxP now p [] (0,[]) nilS nilS) ⟨e,F1,F2,[],[]⟩ v1 v2 z4 (uh HL4) rfl rfl (uh HF2) ⟨#[82,88,74,45]⟩ (by decide) (fun a ha=>actSAll _ a ((fsmAll (i:=14) (c:=(cxP now p [] (0,[]) nilS nilS)) rfl (uh HF).2.1.1 (uh HF).2.1.2 (fun h=>absurd h (by decide)) (fun h=>absurd h (by decide))).1 a ha)) (fsmAll (i:=14) (c:=(cxP now p [] (0,[]) nilS nilS)) rfl (uh HF).2.1.1 (uh HF).2.1.2 (fun h=>absurd h (by decide)) (fun h=>absurd h (by decide))).2);have HRS:Hid (RES=evF (cxP now p [] (0,[]) nilS nilS) ⟨e,F1,F2,[],[]⟩ ⟨#[82,88,74,45]⟩):=hide (by
       rw [← uh HR];unfold hearF;rw [if_pos (uh HOK),if_neg (by have:=uh HST;omega)];unfold hearP;rw [if_neg h1,if_neg h2,if_neg h34,if_neg (uh HD),if_neg h5,if_neg h6,if_pos h7,if_pos (uh HHD)];rfl)
      generalize evF (cxP now p [] (0,[]) nilS nilS) ⟨e,F1,F2,[],[]⟩ ⟨#[82,88,74,45]⟩=EV at *;go_wp2_with fail
      refine (uh CE).mono ?_;rintro r z6 ⟨u1,u2,us,ut,rfl,hE'⟩;have hE:EvA z EV (.returned (.agg (eoC EV.e u1 u2 us ut EV.cd))) z6:=⟨u1,u2,us,ut,rfl,hE'⟩;clear hE';generalize eoC EV.e u1 u2 us ut EV.cd=cs at *;obtain ⟨hsz,hall,hX2,hEv⟩:=hE.up (uh HZ).b (uh HZ).x hXw;have HE2:=hide (And.intro hX2 hEv);clear hE hX2 hEv CE
      go_wp2_with (first
       | (refine wpList_store_rowTo rfl 42 (.tmp 6) (.tmp 85) rfl rfl X cs rfl rfl 42 eoZ (uh HE2).1 (by rw [hsz];exact infoEo) (by rw [hsz];rfl) hall ?_))
      refine bodyPost_ret (v:=.agg cs) (by simp [results,results14,asAddr,Act.put,loadEo (setRow_heap z6 X _ cs _ _ (uh HE2).1) hsz]) rfl ?_;rw [uh HRS];exact (uh HE2).2
     ·have HHD:Hid (¬ hardB p.data=true):=hide (by rw [uh HB,hhb];intro h;exact hhi (of_decide_eq_true h).2);have q1:(1:Int)≤(b.toNat:Int):=by omega
      have q2:¬ ((b.toNat:Int)≤7):=by omega
      have q3:(1:Int)≤(((ByteArray.mk ⟨b :: l⟩)[0]'d3).toNat:Int):=q1;have q4:¬ ((((ByteArray.mk ⟨b :: l⟩)[0]'d3).toNat:Int)≤7):=q2;clear hlo hhi hbg hhb;have CE:=hide (sEvent z z1 B (cxP now p [] (0,[]) nilS nilS) ⟨e,F1,F2,[],[]⟩ v1 v2 z4 (uh HL4) rfl rfl (uh HF2) ⟨#[82,88,74,43]⟩ (by decide) (fun a ha=>actSAll _ a ((fsmAll (i:=13) (c:=(cxP now p [] (0,[]) nilS nilS)) rfl (uh HF).2.1.1 (uh HF).2.1.2 (fun h=>absurd h (by decide)) (fun h=>absurd h (by decide))).1 a ha)) (fsmAll (i:=13) (c:=(cxP now p [] (0,[]) nilS nilS)) rfl (uh HF).2.1.1 (uh HF).2.1.2 (fun h=>absurd h (by decide)) (fun h=>absurd h (by decide))).2);have HRS:Hid (RES=evF (cxP now p [] (0,[]) nilS nilS) ⟨e,F1,F2,[],[]⟩ ⟨#[82,88,74,43]⟩):=hide (by
       rw [← uh HR];unfold hearF;rw [if_pos (uh HOK),if_neg (by have:=uh HST;omega)];unfold hearP;rw [if_neg h1,if_neg h2,if_neg h34,if_neg (uh HD),if_neg h5,if_neg h6,if_pos h7,if_neg (uh HHD)];rfl)
      generalize evF (cxP now p [] (0,[]) nilS nilS) ⟨e,F1,F2,[],[]⟩ ⟨#[82,88,74,43]⟩=EV at *;go_wp2_with fail
      refine (uh CE).mono ?_;rintro r z6 ⟨u1,u2,us,ut,rfl,hE'⟩;have hE:EvA z EV (.returned (.agg (eoC EV.e u1 u2 us ut EV.cd))) z6:=⟨u1,u2,us,ut,rfl,hE'⟩;clear hE';generalize eoC EV.e u1 u2 us ut EV.cd=cs at *;obtain ⟨hsz,hall,hX2,hEv⟩:=hE.up (uh HZ).b (uh HZ).x hXw;have HE2:=hide (And.intro hX2 hEv);clear hE hX2 hEv CE
      go_wp2_with (first
       | (refine wpList_store_rowTo rfl 42 (.tmp 6) (.tmp 87) rfl rfl X cs rfl rfl 42 eoZ (uh HE2).1 (by rw [hsz];exact infoEo) (by rw [hsz];rfl) hall ?_))
      refine bodyPost_ret (v:=.agg cs) (by simp [results,results14,asAddr,Act.put,loadEo (setRow_heap z6 X _ cs _ _ (uh HE2).1) hsz]) rfl ?_;rw [uh HRS];exact (uh HE2).2
    ·have HHD:Hid (¬ hardB p.data=true):=hide (by rw [uh HB,hhb];intro h;exact hlo (of_decide_eq_true h).1);have q1:¬ ((1:Int)≤(b.toNat:Int)):=by omega
     have q3:¬ ((1:Int)≤(((ByteArray.mk ⟨b :: l⟩)[0]'d3).toNat:Int)):=q1;clear hlo hbg hhb;have CE:=hide (sEvent z z1 B (cxP now p [] (0,[]) nilS nilS) ⟨e,F1,F2,[],[]⟩ v1 v2 z4 (uh HL4) rfl rfl (uh HF2) ⟨#[82,88,74,43]⟩ (by decide) (fun a ha=>actSAll _ a ((fsmAll (i:=13) (c:=(cxP now p [] (0,[]) nilS nilS)) rfl (uh HF).2.1.1 (uh HF).2.1.2 (fun h=>absurd h (by decide)) (fun h=>absurd h (by decide))).1 a ha)) (fsmAll (i:=13) (c:=(cxP now p [] (0,[]) nilS nilS)) rfl (uh HF).2.1.1 (uh HF).2.1.2 (fun h=>absurd h (by decide)) (fun h=>absurd h (by decide))).2);have HRS:Hid (RES=evF (cxP now p [] (0,[]) nilS nilS) ⟨e,F1,F2,[],[]⟩ ⟨#[82,88,74,43]⟩):=hide (by
      rw [← uh HR];unfold hearF;rw [if_pos (uh HOK),if_neg (by have:=uh HST;omega)];unfold hearP;rw [if_neg h1,if_neg h2,if_neg h34,if_neg (uh HD),if_neg h5,if_neg h6,if_pos h7,if_neg (uh HHD)];rfl)
     generalize evF (cxP now p [] (0,[]) nilS nilS) ⟨e,F1,F2,[],[]⟩ ⟨#[82,88,74,43]⟩=EV at *;go_wp2_with fail
     refine (uh CE).mono ?_;rintro r z6 ⟨u1,u2,us,ut,rfl,hE'⟩;have hE:EvA z EV (.returned (.agg (eoC EV.e u1 u2 us ut EV.cd))) z6:=⟨u1,u2,us,ut,rfl,hE'⟩;clear hE';generalize eoC EV.e u1 u2 us ut EV.cd=cs at *;obtain ⟨hsz,hall,hX2,hEv⟩:=hE.up (uh HZ).b (uh HZ).x hXw;have HE2:=hide (And.intro hX2 hEv);clear hE hX2 hEv CE
     go_wp2_with (first
      | (refine wpList_store_rowTo rfl 42 (.tmp 6) (.tmp 87) rfl rfl X cs rfl rfl 42 eoZ (uh HE2).1 (by rw [hsz];exact infoEo) (by rw [hsz];rfl) hall ?_))
     refine bodyPost_ret (v:=.agg cs) (by simp [results,results14,asAddr,Act.put,loadEo (setRow_heap z6 X _ cs _ _ (uh HE2).1) hsz]) rfl ?_;rw [uh HRS];exact (uh HE2).2
 by_cases h9:p.code=9
 ·rw [h9] at p0;have CE:=hide (sEvent z z1 B (cxP now p [] (0,[]) nilS nilS) ⟨e,F1,F2,[],[]⟩ v1 v2 z4 (uh HL4) rfl rfl (uh HF2) ⟨#[82,88,82]⟩ (by decide) (fun a ha=>actSAll _ a ((fsmAll (i:=15) (c:=(cxP now p [] (0,[]) nilS nilS)) rfl (uh HF).2.1.1 (uh HF).2.1.2 (fun h=>absurd h (by decide)) (fun h=>absurd h (by decide))).1 a ha)) (fsmAll (i:=15) (c:=(cxP now p [] (0,[]) nilS nilS)) rfl (uh HF).2.1.1 (uh HF).2.1.2 (fun h=>absurd h (by decide)) (fun h=>absurd h (by decide))).2);have HRS:Hid (RES=evF (cxP now p [] (0,[]) nilS nilS) ⟨e,F1,F2,[],[]⟩ ⟨#[82,88,82]⟩):=hide (by
   rw [← uh HR];unfold hearF;rw [if_pos (uh HOK),if_neg (by have:=uh HST;omega)];unfold hearP;rw [if_neg h1,if_neg h2,if_neg h34,if_neg (fun h=>absurd (h9.symm.trans h.1) (by decide)),if_neg h5,if_neg h6,if_neg h7,if_pos (Or.inl h9)];rfl)
  generalize evF (cxP now p [] (0,[]) nilS nilS) ⟨e,F1,F2,[],[]⟩ ⟨#[82,88,82]⟩=EV at *;go_wp2_with fail
  refine (uh CE).mono ?_;rintro r z6 ⟨u1,u2,us,ut,rfl,hE'⟩;have hE:EvA z EV (.returned (.agg (eoC EV.e u1 u2 us ut EV.cd))) z6:=⟨u1,u2,us,ut,rfl,hE'⟩;clear hE';generalize eoC EV.e u1 u2 us ut EV.cd=cs at *;obtain ⟨hsz,hall,hX2,hEv⟩:=hE.up (uh HZ).b (uh HZ).x hXw;have HE2:=hide (And.intro hX2 hEv);clear hE hX2 hEv CE
  go_wp2_with (first
   | (refine wpList_store_rowTo rfl 42 (.tmp 6) (.tmp 93) rfl rfl X cs rfl rfl 42 eoZ (uh HE2).1 (by rw [hsz];exact infoEo) (by rw [hsz];rfl) hall ?_))
  refine bodyPost_ret (v:=.agg cs) (by simp [results,results14,asAddr,Act.put,loadEo (setRow_heap z6 X _ cs _ _ (uh HE2).1) hsz]) rfl ?_;rw [uh HRS];exact (uh HE2).2
 by_cases h10:p.code=10
 ·rw [h10] at p0;have CE:=hide (sEvent z z1 B (cxP now p [] (0,[]) nilS nilS) ⟨e,F1,F2,[],[]⟩ v1 v2 z4 (uh HL4) rfl rfl (uh HF2) ⟨#[82,88,82]⟩ (by decide) (fun a ha=>actSAll _ a ((fsmAll (i:=15) (c:=(cxP now p [] (0,[]) nilS nilS)) rfl (uh HF).2.1.1 (uh HF).2.1.2 (fun h=>absurd h (by decide)) (fun h=>absurd h (by decide))).1 a ha)) (fsmAll (i:=15) (c:=(cxP now p [] (0,[]) nilS nilS)) rfl (uh HF).2.1.1 (uh HF).2.1.2 (fun h=>absurd h (by decide)) (fun h=>absurd h (by decide))).2);have HRS:Hid (RES=evF (cxP now p [] (0,[]) nilS nilS) ⟨e,F1,F2,[],[]⟩ ⟨#[82,88,82]⟩):=hide (by
   rw [← uh HR];unfold hearF;rw [if_pos (uh HOK),if_neg (by have:=uh HST;omega)];unfold hearP;rw [if_neg h1,if_neg h2,if_neg h34,if_neg (fun h=>absurd (h10.symm.trans h.1) (by decide)),if_neg h5,if_neg h6,if_neg h7,if_pos (Or.inr (Or.inl h10))];rfl)
  generalize evF (cxP now p [] (0,[]) nilS nilS) ⟨e,F1,F2,[],[]⟩ ⟨#[82,88,82]⟩=EV at *;go_wp2_with fail
  refine (uh CE).mono ?_;rintro r z6 ⟨u1,u2,us,ut,rfl,hE'⟩;have hE:EvA z EV (.returned (.agg (eoC EV.e u1 u2 us ut EV.cd))) z6:=⟨u1,u2,us,ut,rfl,hE'⟩;clear hE';generalize eoC EV.e u1 u2 us ut EV.cd=cs at *;obtain ⟨hsz,hall,hX2,hEv⟩:=hE.up (uh HZ).b (uh HZ).x hXw;have HE2:=hide (And.intro hX2 hEv);clear hE hX2 hEv CE
  go_wp2_with (first
   | (refine wpList_store_rowTo rfl 42 (.tmp 6) (.tmp 93) rfl rfl X cs rfl rfl 42 eoZ (uh HE2).1 (by rw [hsz];exact infoEo) (by rw [hsz];rfl) hall ?_))
  refine bodyPost_ret (v:=.agg cs) (by simp [results,results14,asAddr,Act.put,loadEo (setRow_heap z6 X _ cs _ _ (uh HE2).1) hsz]) rfl ?_;rw [uh HRS];exact (uh HE2).2
 by_cases h11:p.code=11
 ·rw [h11] at p0;have CE:=hide (sEvent z z1 B (cxP now p [] (0,[]) nilS nilS) ⟨e,F1,F2,[],[]⟩ v1 v2 z4 (uh HL4) rfl rfl (uh HF2) ⟨#[82,88,82]⟩ (by decide) (fun a ha=>actSAll _ a ((fsmAll (i:=15) (c:=(cxP now p [] (0,[]) nilS nilS)) rfl (uh HF).2.1.1 (uh HF).2.1.2 (fun h=>absurd h (by decide)) (fun h=>absurd h (by decide))).1 a ha)) (fsmAll (i:=15) (c:=(cxP now p [] (0,[]) nilS nilS)) rfl (uh HF).2.1.1 (uh HF).2.1.2 (fun h=>absurd h (by decide)) (fun h=>absurd h (by decide))).2);have HRS:Hid (RES=evF (cxP now p [] (0,[]) nilS nilS) ⟨e,F1,F2,[],[]⟩ ⟨#[82,88,82]⟩):=hide (by
   rw [← uh HR];unfold hearF;rw [if_pos (uh HOK),if_neg (by have:=uh HST;omega)];unfold hearP;rw [if_neg h1,if_neg h2,if_neg h34,if_neg (fun h=>absurd (h11.symm.trans h.1) (by decide)),if_neg h5,if_neg h6,if_neg h7,if_pos (Or.inr (Or.inr h11))];rfl)
  generalize evF (cxP now p [] (0,[]) nilS nilS) ⟨e,F1,F2,[],[]⟩ ⟨#[82,88,82]⟩=EV at *;go_wp2_with fail
  refine (uh CE).mono ?_;rintro r z6 ⟨u1,u2,us,ut,rfl,hE'⟩;have hE:EvA z EV (.returned (.agg (eoC EV.e u1 u2 us ut EV.cd))) z6:=⟨u1,u2,us,ut,rfl,hE'⟩;clear hE';generalize eoC EV.e u1 u2 us ut EV.cd=cs at *;obtain ⟨hsz,hall,hX2,hEv⟩:=hE.up (uh HZ).b (uh HZ).x hXw;have HE2:=hide (And.intro hX2 hEv);clear hE hX2 hEv CE
  go_wp2_with (first
   | (refine wpList_store_rowTo rfl 42 (.tmp 6) (.tmp 93) rfl rfl X cs rfl rfl 42 eoZ (uh HE2).1 (by rw [hsz];exact infoEo) (by rw [hsz];rfl) hall ?_))
  refine bodyPost_ret (v:=.agg cs) (by simp [results,results14,asAddr,Act.put,loadEo (setRow_heap z6 X _ cs _ _ (uh HE2).1) hsz]) rfl ?_;rw [uh HRS];exact (uh HE2).2
 have b1:(p.code == 1)=false:=beq_eq_false_iff_ne.2 h1;have b2:(p.code == 2)=false:=beq_eq_false_iff_ne.2 h2;have b3:(p.code == 3)=false:=beq_eq_false_iff_ne.2 h3;have b4:(p.code == 4)=false:=beq_eq_false_iff_ne.2 h4;have b5:(p.code == 5)=false:=beq_eq_false_iff_ne.2 h5;have b6:(p.code == 6)=false:=beq_eq_false_iff_ne.2 h6;have b7:(p.code == 7)=false:=beq_eq_false_iff_ne.2 h7;have b9:(p.code == 9)=false:=beq_eq_false_iff_ne.2 h9;have b10:(p.code == 10)=false:=beq_eq_false_iff_ne.2 h10;have b11:(p.code == 11)=false:=beq_eq_false_iff_ne.2 h11;have CE:=hide (sEvent z z1 B (cxP now p [] (0,[]) nilS nilS) ⟨e,F1,F2,[],[]⟩ v1 v2 z4 (uh HL4) rfl rfl (uh HF2) ⟨#[82,85,67]⟩ (by decide) (fun a ha=>actSAll _ a ((fsmAll (i:=12) (c:=(cxP now p [] (0,[]) nilS nilS)) rfl (uh HF).2.1.1 (uh HF).2.1.2 (fun h=>absurd h (by decide)) (fun h=>absurd h (by decide))).1 a ha)) (fsmAll (i:=12) (c:=(cxP now p [] (0,[]) nilS nilS)) rfl (uh HF).2.1.1 (uh HF).2.1.2 (fun h=>absurd h (by decide)) (fun h=>absurd h (by decide))).2);have HRS:Hid (RES=evF (cxP now p [] (0,[]) nilS nilS) ⟨e,F1,F2,[],[]⟩ ⟨#[82,85,67]⟩):=hide (by
  rw [← uh HR];unfold hearF;rw [if_pos (uh HOK),if_neg (by have:=uh HST;omega)];unfold hearP;rw [if_neg h1,if_neg h2,if_neg h34,if_neg (fun h=>h7 h.1),if_neg h5,if_neg h6,if_neg h7,if_neg (fun h=>h.elim h9 (fun h=>h.elim h10 h11))];rfl)
 generalize evF (cxP now p [] (0,[]) nilS nilS) ⟨e,F1,F2,[],[]⟩ ⟨#[82,85,67]⟩=EV at *;go_wp2_with fail
 refine (uh CE).mono ?_;rintro r z6 ⟨u1,u2,us,ut,rfl,hE'⟩;have hE:EvA z EV (.returned (.agg (eoC EV.e u1 u2 us ut EV.cd))) z6:=⟨u1,u2,us,ut,rfl,hE'⟩;clear hE';generalize eoC EV.e u1 u2 us ut EV.cd=cs at *;obtain ⟨hsz,hall,hX2,hEv⟩:=hE.up (uh HZ).b (uh HZ).x hXw;have HE2:=hide (And.intro hX2 hEv);clear hE hX2 hEv CE
 go_wp2_with (first
  | (refine wpList_store_rowTo rfl 42 (.tmp 6) (.tmp 95) rfl rfl X cs rfl rfl 42 eoZ (uh HE2).1 (by rw [hsz];exact infoEo) (by rw [hsz];rfl) hall ?_))
 refine bodyPost_ret (v:=.agg cs) (by simp [results,results14,asAddr,Act.put,loadEo (setRow_heap z6 X _ cs _ _ (uh HE2).1) hsz]) rfl ?_;rw [uh HRS];exact (uh HE2).2
def Df (o1 o2:Option Nat):Prop:=∀ g,o1=some g→o2≠some g
theorem Df.symm {o1 o2:Option Nat} (h:Df o1 o2):Df o2 o1:=fun g e1 e2=>h g e2 e1
theorem But.trans {w w' w'':World} {o:Option Nat} (h:But o w w') (k:But o w' w''):But o w w'' :=
 ⟨k.os.trans h.os,k.tape.trans h.tape,k.output.trans h.output,Nat.le_trans h.size k.size,fun b hb hne=>(k.block b (Nat.lt_of_lt_of_le hb h.size) hne).trans (h.block b hb hne)⟩
theorem But.nb {w w':World} {v:Value} {n:Nat} (h:But v.ownBlock w w') (h0:n=0→Below w.heap.size w w'):But (nb n v) w w':=by
 by_cases hn:n=0
 ·subst hn;rw [nb_none];exact But.of_below (h0 rfl)
 ·rw [nb_some hn];exact h
theorem HoldsO.keep {w w':World} {v:Value} {F:List Op.Opt} {o:Option Nat} (h:HoldsO w v F) (hb:But o w w') (hd:Df (nb F.length v) o):HoldsO w' v F:=by
 rcases h with ⟨ad,cp,e,e0⟩ | ⟨g,cp,cur,e,q1,q2⟩
 ·exact Or.inl ⟨ad,cp,e,e0⟩
 ·by_cases hn:F.length=0
  ·have:F=[]:=List.eq_nil_of_length_eq_zero hn
   subst this;exact Or.inl ⟨_,_,e,rfl⟩
  ·exact Or.inr ⟨g,cp,cur,e,(hb.block g (ge.1 q1).1 (hd g (by rw [nb_some hn,e];rfl))).trans q1,q2⟩
theorem HoldsP.keep {w w':World} {v:Value} {F:List Op.Pk} {o:Option Nat} (h:HoldsP w v F) (hb:But o w w') (hd:Df (nb F.length v) o):HoldsP w' v F:=by
 rcases h with ⟨ad,cp,e,e0⟩ | ⟨g,cp,cur,e,q1,q2⟩
 ·exact Or.inl ⟨ad,cp,e,e0⟩
 ·by_cases hn:F.length=0
  ·have:F=[]:=List.eq_nil_of_length_eq_zero hn
   subst this;exact Or.inl ⟨_,_,e,rfl⟩
  ·exact Or.inr ⟨g,cp,cur,e,(hb.block g (ge.1 q1).1 (hd g (by rw [nb_some hn,e];rfl))).trans q1,q2⟩
theorem HoldsT.keep {w w':World} {v:Value} {F:List ByteArray} {o:Option Nat} (h:HoldsT w v F) (hb:But o w w') (hd:Df (nb F.length v) o):HoldsT w' v F:=by
 rcases h with ⟨ad,cp,e,e0⟩ | ⟨g,cp,cur,e,q1,q2⟩
 ·exact Or.inl ⟨ad,cp,e,e0⟩
 ·by_cases hn:F.length=0
  ·have:F=[]:=List.eq_nil_of_length_eq_zero hn
   subst this;exact Or.inl ⟨_,_,e,rfl⟩
  ·exact Or.inr ⟨g,cp,cur,e,(hb.block g (ge.1 q1).1 (hd g (by rw [nb_some hn,e];rfl))).trans q1,q2⟩
structure Rg (lo hi:Nat) (w w':World):Prop where
 os:w'.os=w.os
 tape:w'.tape=w.tape
 output:w'.output=w.output
 size:w.heap.size≤w'.heap.size
 block:∀ b,b<w.heap.size→¬ (lo≤b∧b<hi)→w'.heap[b]?=w.heap[b]?
theorem Rg.below {lo hi n:Nat} {w0 w w':World} (h:Rg lo hi w w') (hb:Below n w0 w) (hn:n≤lo) (h0:n≤w0.heap.size):Below n w0 w' :=
 ⟨h.os.trans hb.os,h.tape.trans hb.tape,h.output.trans hb.output,Nat.le_trans hb.size h.size,fun b hlt=>(h.block b (Nat.lt_of_lt_of_le hlt (Nat.le_trans h0 hb.size)) (fun e=>by omega)).trans (hb.block b hlt)⟩
def InR (lo hi:Nat) (n:Nat) (v:Value):Prop:=∀ g,nb n v=some g→lo≤g∧g<hi
structure Four (lo hi n1 n2 n3 n4:Nat) (v1 v2 vs vt:Value):Prop where
 r1:InR lo hi n1 v1
 r2:InR lo hi n2 v2
 r3:InR lo hi n3 vs
 r4:InR lo hi n4 vt
 d12:Df (nb n1 v1) (nb n2 v2)
 d31:Df (nb n3 vs) (nb n1 v1)
 d32:Df (nb n3 vs) (nb n2 v2)
 d41:Df (nb n4 vt) (nb n1 v1)
 d42:Df (nb n4 vt) (nb n2 v2)
 d43:Df (nb n4 vt) (nb n3 vs)
def AnD (o:EO) (lo hi:Nat) (cs:Array Value) (q:World):Prop :=
 ∃ x1 x2 x5 x7 y1 y2 y5 y7,cs=eoC o.e (.slice x1 o.F1.length y1) (.slice x2 o.F2.length y2) (.slice x5 o.sn.length y5) (.slice x7 o.tl.length y7) o.cd∧HoldsO q (.slice x1 o.F1.length y1) o.F1∧HoldsO q (.slice x2 o.F2.length y2) o.F2∧HoldsP q (.slice x5 o.sn.length y5) o.sn∧HoldsT q (.slice x7 o.tl.length y7) o.tl ∧
  Four lo hi o.F1.length o.F2.length o.sn.length o.tl.length (.slice x1 o.F1.length y1) (.slice x2 o.F2.length y2) (.slice x5 o.sn.length y5) (.slice x7 o.tl.length y7)
def MkD (o:EO) (cs:Array Value) (q:World):Prop :=
 ∃ x1 x2 x5 x7 y1 y2 y5 y7,cs=eoC o.e (.slice x1 o.F1.length y1) (.slice x2 o.F2.length y2) (.slice x5 o.sn.length y5) (.slice x7 o.tl.length y7) o.cd∧HoldsO q (.slice x1 o.F1.length y1) (mfd 1 o.F1.length)∧HoldsO q (.slice x2 o.F2.length y2) (mfd (1+2*o.F1.length) o.F2.length)∧HoldsP q (.slice x5 o.sn.length y5) (mpk (1+2*o.F1.length+2*o.F2.length) o.sn.length)∧HoldsT q (.slice x7 o.tl.length y7) (mtl (1+2*o.F1.length+2*o.F2.length+3*o.sn.length) o.tl.length)
structure EoB (o:EO):Prop where
 l1:o.F1.length≤2000
 l2:o.F2.length≤2000
 l3:o.sn.length≤100
 l4:o.tl.length≤100000
theorem nb_own {n:Nat} {v:Value} {g:Nat} (h:nb n v=some g):v.ownBlock=some g:=by
 unfold nb at h;split at h
 ·cases h
 ·exact h
theorem Df.ap {n n':Nat} {v v':Value} (h:Ap v v'):Df (nb n v) (nb n' v'):=fun g h1 h2=>h g (nb_own h1) (nb_own h2)
theorem AnD.of {w q:World} {o:EO} {cs:Array Value} (h:EvA w o (.returned (.agg cs)) q):AnD o w.heap.size q.heap.size cs q∧Below w.heap.size w q∧cs.size=33∧cs.all (·.oneCell')=true:=by
 obtain ⟨v1,v2,vs,vt,e,o1,o2,os,ot,ap,lo⟩:=h;have e':cs=eoC o.e v1 v2 vs vt o.cd:=by injection e with e;injection e
 obtain ⟨a1,p1,e1⟩:=own_form o1;obtain ⟨a2,p2,e2⟩:=own_form o2;obtain ⟨a3,p3,e3⟩:=own_form os;obtain ⟨a4,p4,e4⟩:=own_form ot;subst e1 e2 e3 e4 e';refine ⟨⟨a1,a2,a3,a4,p1,p2,p3,p4,rfl,HoldsO.own o1,HoldsO.own o2,HoldsP.own os,HoldsT.own ot,?_⟩,lo,rfl,eoC_all _ _ _ _ _ _ _ _ _ _ _ _ _ _⟩;exact ⟨fun g hg=>o1.lt g (nb_own hg),fun g hg=>o2.lt g (nb_own hg),fun g hg=>os.lt g (nb_own hg),fun g hg=>ot.lt g (nb_own hg),Df.ap ap,Df.ap (own_ap os o1 (by decide)),Df.ap (own_ap os o2 (by decide)),Df.ap (own_ap ot o1 (by decide)),Df.ap (own_ap ot o2 (by decide)),Df.ap (own_ap ot os (by decide))⟩
theorem AnD.step {o:EO} {lo hi:Nat} {cs:Array Value} {q q':World} (h:AnD o lo hi cs q) (hb:Below q.heap.size q q'):AnD o lo hi cs q':=by
 obtain ⟨x1,x2,x5,x7,y1,y2,y5,y7,e,h1,h2,h3,h4,f⟩:=h;exact ⟨x1,x2,x5,x7,y1,y2,y5,y7,e,h1.below hb rfl,h2.below hb rfl,h3.below hb rfl,h4.below hb rfl,f⟩
theorem MkD.step {o:EO} {cs:Array Value} {q q':World} (h:MkD o cs q) (hb:Below q.heap.size q q'):MkD o cs q':=by
 obtain ⟨x1,x2,x5,x7,y1,y2,y5,y7,e,h1,h2,h3,h4⟩:=h;exact ⟨x1,x2,x5,x7,y1,y2,y5,y7,e,h1.below hb rfl,h2.below hb rfl,h3.below hb rfl,h4.below hb rfl⟩
def ToX (e:En) (F1 F2:List Op.Opt) (lo hi:Nat) (cl:List Value) (q:World):Prop :=
 ∃ u1 z1 u2 z2,cl=(enC e (.slice u1 F1.length z1) (.slice u2 F2.length z2)).toList∧HoldsO q (.slice u1 F1.length z1) F1∧HoldsO q (.slice u2 F2.length z2) F2∧InR lo hi F1.length (.slice u1 F1.length z1)∧InR lo hi F2.length (.slice u2 F2.length z2)∧(F1≠[]→F2≠[]→(Value.slice u1 F1.length z1).ownBlock≠(Value.slice u2 F2.length z2).ownBlock)
theorem ToX.step {e:En} {F1 F2:List Op.Opt} {lo hi:Nat} {cl:List Value} {q q':World} (h:ToX e F1 F2 lo hi cl q) (hb:Below q.heap.size q q'):ToX e F1 F2 lo hi cl q':=by
 obtain ⟨u1,z1,u2,z2,h1,h2,h3,f⟩:=h;exact ⟨u1,z1,u2,z2,h1,h2.below hb rfl,h3.below hb rfl,f⟩
theorem ToX.len {e:En} {F1 F2:List Op.Opt} {lo hi:Nat} {cl:List Value} {q:World} (h:ToX e F1 F2 lo hi cl q):cl.length=30:=by
 obtain ⟨u1,z1,u2,z2,h1,_⟩:=h;rw [h1];rfl
theorem ToX.one {e:En} {F1 F2:List Op.Opt} {lo hi:Nat} {cl:List Value} {q:World} (h:ToX e F1 F2 lo hi cl q):cl.toArray.all (·.oneCell')=true:=by
 obtain ⟨u1,z1,u2,z2,h1,_⟩:=h;rw [h1];kernel_rfl
end Go.Proofs.YtahpjlbaagkdoaaGreatDoor
