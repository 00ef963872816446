/- HrW -/
import Derived.Test.YtjdgiimfpkideaaGreatDoorS35
import Derived.Test.YtjdgiimfpkideaaGreatDoorS36
set_option maxHeartbeats 32000000
set_option maxRecDepth 100000
set_option linter.unusedSimpArgs false
namespace Go.Proofs.YtjdgiimfpkideaaGreatDoor
open Go.RowKit Go.Proofs.Tryz
theorem qT (e:En) (x1 x2:Option Addr) (y1 y2:Nat) (F1 F2:List Op.Opt) (p:Op.Pk) (now:Int) (w:World) (l1:F1.length≤1048576) (l2:F2.length≤1048576) (h1:HoldsO w (.slice x1 F1.length y1) F1) (h2:HoldsO w (.slice x2 F2.length y2) F2) :
  Calls prog 54 #[.agg (aA e (.slice x1 F1.length y1) (.slice x2 F2.length y2)),.agg #[.int .i64 p.code,.int .i64 p.id,.string p.data],.int .i64 now] w fun r w'=>EvA w (bn e F1 F2 p now) r w':=by
 have CBG:=aa fun W (hb:Below w.heap.size w W)=>mU e x1 x2 y1 y2 F1 F2 now W l1 l2 (h1.below hb rfl) (h2.below hb rfl)
 have CP:Hid (∀ W,Calls prog 74 #[.agg #[.int .i64 p.code,.int .i64 p.id,.string p.data]] W fun e w'=>e=.returned (.bool (Op.pok p))∧Below W.heap.size W w'):=aa fun W=>d7 p.code p.id p.data W
 have CB0:=aa fun (hr:Op.right F1=true) W (hb:Below w.heap.size w W)=>fJ _ F1 W hr (h1.below hb rfl)
 clear h1 h2;have HF:=aa (ky (e:=e) (F1:=F1) (F2:=F2) (now:=now));have HG:=aa (ez (e:=e) (F1:=F1) (F2:=F2));obtain ⟨hA,hP,hX,hb⟩:=kh w (.cells (aA e (.slice x1 F1.length y1) (.slice x2 F2.length y2)) 32) (.cells #[.int .i64 p.code,.int .i64 p.id,.string p.data] 85) (.cells bk 74);obtain ⟨A,eA⟩:∃ A,w.heap.size=A:=⟨_,rfl⟩;have hXw0:w.heap.size≤A+1+1:=by omega
 rw [eA] at hA hP hX;have H0:=aa (zA hA (zA hP (zA hX hb)));clear hA hP hX hb;obtain ⟨RES,hRES⟩:∃ RES,bn e F1 F2 p now=RES:=⟨_,rfl⟩;rw [hRES];have HR:=aa hRES;clear hRES;obtain ⟨ok,hok⟩:∃ b,(dJ e F1 F2 && al 0 1000000000 now)=b:=⟨_,rfl⟩;obtain ⟨ok3,hok3⟩:∃ b,Op.pok p=b:=⟨_,rfl⟩;rw [hok] at CBG HF;rw [hok3] at CP;have HO1:=aa hok;have HO3:=aa hok3;clear hok hok3;obtain ⟨n1,e1⟩:∃ n,F1.length=n:=⟨_,rfl⟩;obtain ⟨n2,e2⟩:∃ n,F2.length=n:=⟨_,rfl⟩;rw [e1] at CBG CB0 H0 ⊢;rw [e2] at CBG H0 ⊢;go_enter func54,ntmps54
 go_upto_region 1 with fail
 obtain ⟨X,hXe⟩:∃ X,A+1+1=X:=⟨_,rfl⟩;have hXw:w.heap.size≤X:=by omega
 rw [hXe] at H0 ⊢;clear hXe hXw0 eA;refine ab (Hb w A X (aA e (.slice x1 n1 y1) (.slice x2 n2 y2)) p) ?_ ?_
 ·exact ⟨(uh H0).1,(uh H0).2.1,(uh H0).2.2.1,(uh H0).2.2.2⟩
 clear H0;intro z hz;have HZ:=aa hz;clear hz
 go_wp2_with (first
  | (refine wpList_load_row rfl 32 (.tmp 3) rfl A rfl 32 (aA e (.slice x1 n1 y1) (.slice x2 n2 y2)) (0,0) _ (uh HZ).a underlying32 rfl aL ?_))
 refine (uh CBG _ (uh HZ).b).mono ?_;rintro r z1 ⟨B,v1,v2,rfl,hL⟩;have HL:=aa hL;have KZ:Hid (∀ y9,Below z.heap.size z y9→Hb w A X (aA e (.slice x1 n1 y1) (.slice x2 n2 y2)) p y9):=aa fun y9 hb=>(uh HZ).step hb
 have KX:Hid (∀ y9,Below z.heap.size z y9→y9.heap[X]?=some (.cells bk 74)∧Below w.heap.size w y9):=aa fun y9 hb=>⟨((uh HZ).step hb).x,((uh HZ).step hb).b⟩
 clear hL CBG;obtain ⟨p0,p1,p2⟩:=(uh KZ _ (uh HL).low).pc;cases ok
 ·go_wp2_with (first
   | (refine wpList_buildTo rfl 74 _ rfl (some 22) rfl (aC ag (.slice none 0 0) (.slice none 0 0) (.slice none 0 0) (.slice none 0 0) 1) (by as_aux_lemma=>kernel_rfl) ?_)
   | (refine wpList_store_rowTo rfl 74 (.tmp 6) (.tmp 22) rfl rfl X (aC ag (.slice none 0 0) (.slice none 0 0) (.slice none 0 0) (.slice none 0 0) 1) rfl rfl 74 bk (uh KX _ (uh HL).low).1 aw rfl (aG _ _ _ _ _ _ _ _ _ _ _ _ _ _) ?_))
  refine bodyPost_ret (v:=.agg (aC ag (.slice none 0 0) (.slice none 0 0) (.slice none 0 0) (.slice none 0 0) 1)) (by simp [results,results54,asAddr,Act.put,ay (setRow_heap z1 X _ (aC ag (.slice none 0 0) (.slice none 0 0) (.slice none 0 0) (.slice none 0 0) 1) _ _ (uh KX _ (uh HL).low).1)]) rfl ?_;have hres:RES=bA 1:=by
   rw [← uh HR];unfold bn;rw [if_neg (fun h=>by have:=h.1;rw [uh HO1] at this;exact absurd this (by simp))]
  rw [hres];exact bE (am (uh KX _ (uh HL).low).2 hXw _) 1
 replace HF:=aa (uh HF (by first | rfl | trivial));go_wp2_with fail
 refine (uh CP _).mono ?_;rintro r z2 ⟨rfl,hb2⟩;have HL2:=aa ((uh HL).step hb2);clear hb2 CP HL p0 p1 p2;cases ok3
 ·go_wp2_with (first
   | (refine wpList_buildTo rfl 74 _ rfl (some 22) rfl (aC ag (.slice none 0 0) (.slice none 0 0) (.slice none 0 0) (.slice none 0 0) 1) (by as_aux_lemma=>kernel_rfl) ?_)
   | (refine wpList_store_rowTo rfl 74 (.tmp 6) (.tmp 22) rfl rfl X (aC ag (.slice none 0 0) (.slice none 0 0) (.slice none 0 0) (.slice none 0 0) 1) rfl rfl 74 bk (uh KX _ (uh HL2).low).1 aw rfl (aG _ _ _ _ _ _ _ _ _ _ _ _ _ _) ?_))
  refine bodyPost_ret (v:=.agg (aC ag (.slice none 0 0) (.slice none 0 0) (.slice none 0 0) (.slice none 0 0) 1)) (by simp [results,results54,asAddr,Act.put,ay (setRow_heap z2 X _ (aC ag (.slice none 0 0) (.slice none 0 0) (.slice none 0 0) (.slice none 0 0) 1) _ _ (uh KX _ (uh HL2).low).1)]) rfl ?_;have hres:RES=bA 1:=by
   rw [← uh HR];unfold bn;rw [if_neg (fun h=>by have:=h.2;rw [uh HO3] at this;exact absurd this (by simp))]
  rw [hres];exact bE (am (uh KX _ (uh HL2).low).2 hXw _) 1
 have HOK:Hid ((dJ e F1 F2 && al 0 1000000000 now)=true∧Op.pok p=true):=aa ⟨uh HO1,uh HO3⟩;have HF2:Hid (Fit 0 (aU now p [] (0,[]) ai ai) ⟨e,F1,F2,[],[]⟩):=aa ((uh HF).1.came p (uh HOK).2 rfl rfl _ _);have c12:z2.cell? ⟨A,12,none⟩=some (.int .i64 e.st):=by rw [cr (uh KZ _ (uh HL2).low).a];rfl
 have CB:Hid (∀ W,Below z.heap.size z W→Calls prog 76 #[.slice x1 n1 y1] W fun e w'=>e=.returned (.string (co (Op.bytes F1)))∧Below W.heap.size W w'):=aa fun W hb=>uh CB0 (uh HG (by have:=uh HO1;rw [Bool.and_eq_true] at this;exact this.1)).1 W (uh KX W hb).2
 clear HO1 HO3 HG CB0;by_cases hs1:e.st≤1
 ·go_wp2_with (first
   | (refine wpList_buildTo rfl 74 _ rfl (some 26) rfl (aC ag (.slice none 0 0) (.slice none 0 0) (.slice none 0 0) (.slice none 0 0) 8) (by as_aux_lemma=>kernel_rfl) ?_)
   | (refine wpList_store_rowTo rfl 74 (.tmp 6) (.tmp 26) rfl rfl X (aC ag (.slice none 0 0) (.slice none 0 0) (.slice none 0 0) (.slice none 0 0) 8) rfl rfl 74 bk (uh KX _ (uh HL2).low).1 aw rfl (aG _ _ _ _ _ _ _ _ _ _ _ _ _ _) ?_))
  refine bodyPost_ret (v:=.agg (aC ag (.slice none 0 0) (.slice none 0 0) (.slice none 0 0) (.slice none 0 0) 8)) (by simp [results,results54,asAddr,Act.put,ay (setRow_heap z2 X _ (aC ag (.slice none 0 0) (.slice none 0 0) (.slice none 0 0) (.slice none 0 0) 8) _ _ (uh KX _ (uh HL2).low).1)]) rfl ?_;have hres:RES=bA 8:=by
   rw [← uh HR];unfold bn;rw [if_pos (uh HOK),if_pos hs1]
  rw [hres];exact bE (am (uh KX _ (uh HL2).low).2 hXw _) 8
 have HST:Hid (1<e.st):=aa (by omega);clear hs1;obtain ⟨p0,p1,p2⟩:=(uh KZ _ (uh HL2).low).pc;have k31:=(uh HL2).cell (i:=31) rfl;have k32:=(uh HL2).cell (i:=32) rfl;have k33:=(uh HL2).cell (i:=33) rfl;have f31:=(uh HL2).frz 31;have f32:=(uh HL2).frz 32;have f33:=(uh HL2).frz 33;have HS1:=uh HST;go_upto_region 7 with fail
 refine ab (fun y=>Lay 99 z z1 B (aU now p [] (0,[]) ai ai) ⟨e,F1,F2,[],[]⟩ v1 v2 ai ai y) ((uh HL2).cameP p.code p.id p.data) ?_;clear p0 p1 p2 k31 k32 k33 f31 f32 f33 HL2 c12;intro z4 hz4;have HL4:=aa hz4;obtain ⟨p0,p1,p2⟩:=(uh KZ _ hz4.low).pc;have HQQ:Hid (0≤e.st∧e.st≤9):=aa (uh HF).2.1;by_cases h1:p.code=1
 ·have CE:=aa (qS hz4 (uh HF).1 (uh HOK).2 (uh HQQ) h1);have HRS:Hid (RES=aB now p e F1 F2):=aa (by
   rw [← uh HR];unfold bn;rw [if_pos (uh HOK),if_neg (by have:=uh HST;omega)])
  rw [h1] at p0;clear hz4 h1 CB p1 p2;generalize aB now p e F1 F2=EV at *;go_wp2_with fail
  refine (uh CE).mono ?_;rintro r z6 ⟨u1,u2,us,ut,rfl,hE'⟩;have hE:EvA z EV (.returned (.agg (aC EV.e u1 u2 us ut EV.cd))) z6:=⟨u1,u2,us,ut,rfl,hE'⟩;clear hE';generalize aC EV.e u1 u2 us ut EV.cd=cs at *;obtain ⟨hsz,hall,hX2,hEv⟩:=hE.up (uh HZ).b (uh HZ).x hXw;have HE2:=aa (zA hX2 hEv);clear hE hX2 hEv CE
  go_wp2_with (first
   | (refine wpList_store_rowTo rfl 74 (.tmp 6) (.tmp 36) rfl rfl X cs rfl rfl 74 bk (uh HE2).1 (by rw [hsz];exact aw) (by rw [hsz];rfl) hall ?_))
  refine bodyPost_ret (v:=.agg cs) (by simp [results,results54,asAddr,Act.put,ay (setRow_heap z6 X _ cs _ _ (uh HE2).1) hsz]) rfl ?_;rw [uh HRS];exact (uh HE2).2
 by_cases h2:p.code=2
 ·rw [h2] at p0;clear hz4;have SX:Hid (∀ y9,Below z.heap.size z y9→y9.cell? ⟨A+1,1,none⟩=some (.int .i64 p.id)∧y9.cell? ⟨A,15,none⟩=some (.int .i64 e.id)∧y9.cell? ⟨A+1,2,none⟩=some (.string p.data)∧y9.cell? ⟨A,17,none⟩=some (.slice x1 n1 y1)):=aa fun y9 hb=>by
   have hh:=uh KZ y9 hb;exact ⟨hh.pc.2.1,by rw [cr hh.a];rfl,hh.pc.2.2,by rw [cr hh.a];rfl⟩
  by_cases hi:p.id=e.id
  ·by_cases hu:p.data=co (Op.bytes F1)
   ·have HEQ:=aa (zA hi hu);rw [hi,hu] at SX;rw [hi] at p1;rw [hu] at p2;clear hi hu;obtain ⟨t,ht⟩:∃ t,co (Op.bytes F1)=t:=⟨_,rfl⟩;rw [ht] at SX CB p2;obtain ⟨x,hx⟩:∃ x,e.id=x:=⟨_,rfl⟩;rw [hx] at SX p1;clear ht hx;go_upto_region 11 with fail
    have E4:=aa ((uh HL4).step (zC _ _).drew);refine wp_region_held_drew (S:=fun y9=>y9.cell? ⟨A+1,1,none⟩=some (.int .i64 x)∧y9.cell? ⟨A,15,none⟩=some (.int .i64 x)∧y9.cell? ⟨A+1,2,none⟩=some (.string t)∧y9.cell? ⟨A,17,none⟩=some (.slice x1 n1 y1)) (by kernel_rfl) (uh SX _ (uh E4).low) (fun hHeld=>?_);generalize z4.drew=yy at E4 hHeld ⊢;refine tq 0 1 2 3 ?_;refine tq 4 5 6 7 ?_;refine tt 8 9 ?_;refine r3 10 fun K hK=>?_
    go_simp;refine (uh CB _ (uh E4).low).mono ?_;rintro r z5 ⟨rfl,hb5⟩;have E5:=aa ((uh E4).step hb5);clear hb5;go_wp2_with fail
    refine ro hK (uh SX _ (uh E5).low) fun _=>?_
    clear hK K;refine tt 11 12 ?_;refine dn ?_ _;have CE:=aa (cR z z1 B (aU now p [] (0,[]) ai ai) ⟨e,F1,F2,[],[]⟩ v1 v2 z5 (uh E5) rfl rfl (uh HF2) ⟨#[82,67,65]⟩ (by decide) (fun a ha=>bK _ a ((aO (i:=8) (c:=(aU now p [] (0,[]) ai ai)) rfl (uh HF).2.1.1 (uh HF).2.1.2 (fun h=>absurd h (by decide)) (fun h=>absurd h (by decide))).1 a ha)) (aO (i:=8) (c:=(aU now p [] (0,[]) ai ai)) rfl (uh HF).2.1.1 (uh HF).2.1.2 (fun h=>absurd h (by decide)) (fun h=>absurd h (by decide))).2);have HRS:Hid (RES=bj (aU now p [] (0,[]) ai ai) ⟨e,F1,F2,[],[]⟩ ⟨#[82,67,65]⟩):=aa (by
     rw [← uh HR];unfold bn;rw [if_pos (uh HOK),if_neg (by have:=uh HST;omega)];unfold aB;rw [if_neg (by omega),if_pos h2,if_pos (uh HEQ)];rfl)
    generalize bj (aU now p [] (0,[]) ai ai) ⟨e,F1,F2,[],[]⟩ ⟨#[82,67,65]⟩=EV at *;go_wp2_with fail
    refine (uh CE).mono ?_;rintro r z6 ⟨u1,u2,us,ut,rfl,hE'⟩;have hE:EvA z EV (.returned (.agg (aC EV.e u1 u2 us ut EV.cd))) z6:=⟨u1,u2,us,ut,rfl,hE'⟩;clear hE';generalize aC EV.e u1 u2 us ut EV.cd=cs at *;obtain ⟨hsz,hall,hX2,hEv⟩:=hE.up (uh HZ).b (uh HZ).x hXw;have HE2:=aa (zA hX2 hEv);clear hE hX2 hEv CE
    go_wp2_with (first
     | (refine wpList_store_rowTo rfl 74 (.tmp 6) (.tmp 54) rfl rfl X cs rfl rfl 74 bk (uh HE2).1 (by rw [hsz];exact aw) (by rw [hsz];rfl) hall ?_))
    refine bodyPost_ret (v:=.agg cs) (by simp [results,results54,asAddr,Act.put,ay (setRow_heap z6 X _ cs _ _ (uh HE2).1) hsz]) rfl ?_;rw [uh HRS];exact (uh HE2).2
   ·have HNE:Hid (¬ (p.id=e.id∧p.data=co (Op.bytes F1))):=aa fun h=>hu h.2
    rw [hi] at SX p1;obtain ⟨t,ht⟩:∃ t,p.data=t:=⟨_,rfl⟩;obtain ⟨u,hu'⟩:∃ u,co (Op.bytes F1)=u:=⟨_,rfl⟩;rw [ht] at SX p2 hu;rw [hu'] at CB hu;obtain ⟨x,hx⟩:∃ x,e.id=x:=⟨_,rfl⟩;rw [hx] at SX p1;clear ht hu' hi hx;have hu2:(t.toList != u.toList)=true:=by
     rw [bne_iff_ne];intro e;exact hu (fc e)
    have hu3:(t.toList == u.toList)=false:=by
     rw [beq_eq_false_iff_ne];intro e;exact hu (fc e)
    clear hu;go_upto_region 11 with fail
    have E4:=aa ((uh HL4).step (zC _ _).drew);refine wp_region_held_drew (S:=fun y9=>y9.cell? ⟨A+1,1,none⟩=some (.int .i64 x)∧y9.cell? ⟨A,15,none⟩=some (.int .i64 x)∧y9.cell? ⟨A+1,2,none⟩=some (.string t)∧y9.cell? ⟨A,17,none⟩=some (.slice x1 n1 y1)) (by kernel_rfl) (uh SX _ (uh E4).low) (fun hHeld=>?_);generalize z4.drew=yy at E4 hHeld ⊢;refine tq 0 1 2 3 ?_;refine tq 4 5 6 7 ?_;refine tt 8 9 ?_;refine r3 10 fun K hK=>?_
    go_simp;refine (uh CB _ (uh E4).low).mono ?_;rintro r z5 ⟨rfl,hb5⟩;have E5:=aa ((uh E4).step hb5);clear hb5;go_wp2_with fail
    refine ro hK (uh SX _ (uh E5).low) fun _=>?_
    clear hK K;refine tt 11 12 ?_;refine dn ?_ _
    go_wp2_with (first
     | (refine wpList_buildTo rfl 74 _ rfl (some 52) rfl (aC ag (.slice none 0 0) (.slice none 0 0) (.slice none 0 0) (.slice none 0 0) 8) (by as_aux_lemma=>kernel_rfl) ?_)
     | (refine wpList_store_rowTo rfl 74 (.tmp 6) (.tmp 52) rfl rfl X (aC ag (.slice none 0 0) (.slice none 0 0) (.slice none 0 0) (.slice none 0 0) 8) rfl rfl 74 bk (uh KX _ (uh E5).low).1 aw rfl (aG _ _ _ _ _ _ _ _ _ _ _ _ _ _) ?_))
    refine bodyPost_ret (v:=.agg (aC ag (.slice none 0 0) (.slice none 0 0) (.slice none 0 0) (.slice none 0 0) 8)) (by simp [results,results54,asAddr,Act.put,ay (setRow_heap z5 X _ (aC ag (.slice none 0 0) (.slice none 0 0) (.slice none 0 0) (.slice none 0 0) 8) _ _ (uh KX _ (uh E5).low).1)]) rfl ?_;have hres:RES=bA 8:=by
     rw [← uh HR];unfold bn;rw [if_pos (uh HOK),if_neg (by have:=uh HST;omega)];unfold aB;rw [if_neg (by omega),if_pos h2,if_neg (uh HNE)]
    rw [hres];exact bE (am (uh KX _ (uh E5).low).2 hXw _) 8
  ·have HNE:Hid (¬ (p.id=e.id∧p.data=co (Op.bytes F1))):=aa fun h=>hi h.1
   have hi2:(p.id != e.id)=true:=by simpa using hi
   have hi3:(p.id == e.id)=false:=by simpa using hi
   obtain ⟨t,ht⟩:∃ t,p.data=t:=⟨_,rfl⟩;obtain ⟨x,hx⟩:∃ x,p.id=x:=⟨_,rfl⟩;obtain ⟨y,hy⟩:∃ y,e.id=y:=⟨_,rfl⟩;rw [ht] at SX p2;rw [hx] at SX p1 hi2 hi3;rw [hy] at SX hi2 hi3;clear ht hi hx hy;go_upto_region 11 with fail
   have E4:=aa ((uh HL4).step (zC _ _).drew);refine wp_region_held_drew (S:=fun y9=>y9.cell? ⟨A+1,1,none⟩=some (.int .i64 x)∧y9.cell? ⟨A,15,none⟩=some (.int .i64 y)∧y9.cell? ⟨A+1,2,none⟩=some (.string t)∧y9.cell? ⟨A,17,none⟩=some (.slice x1 n1 y1)) (by kernel_rfl) (uh SX _ (uh E4).low) (fun hHeld=>?_);generalize z4.drew=yy at E4 hHeld ⊢;refine tq 0 1 2 3 ?_;refine tt 4 5 ?_;refine t5 6 ?_;refine t5 7 ?_;refine t5 8 ?_;refine t5 9 ?_;refine t5 10 ?_;refine t5 11 ?_;refine t2 12 ?_;refine dn ?_ _
   go_wp2_with (first
    | (refine wpList_buildTo rfl 74 _ rfl (some 52) rfl (aC ag (.slice none 0 0) (.slice none 0 0) (.slice none 0 0) (.slice none 0 0) 8) (by as_aux_lemma=>kernel_rfl) ?_)
    | (refine wpList_store_rowTo rfl 74 (.tmp 6) (.tmp 52) rfl rfl X (aC ag (.slice none 0 0) (.slice none 0 0) (.slice none 0 0) (.slice none 0 0) 8) rfl rfl 74 bk (uh KX _ (uh E4).low).1 aw rfl (aG _ _ _ _ _ _ _ _ _ _ _ _ _ _) ?_))
   refine bodyPost_ret (v:=.agg (aC ag (.slice none 0 0) (.slice none 0 0) (.slice none 0 0) (.slice none 0 0) 8)) (by simp [results,results54,asAddr,Act.put,ay (setRow_heap yy X _ (aC ag (.slice none 0 0) (.slice none 0 0) (.slice none 0 0) (.slice none 0 0) 8) _ _ (uh KX _ (uh E4).low).1)]) rfl ?_;have hres:RES=bA 8:=by
    rw [← uh HR];unfold bn;rw [if_pos (uh HOK),if_neg (by have:=uh HST;omega)];unfold aB;rw [if_neg (by omega),if_pos h2,if_neg (uh HNE)]
   rw [hres];exact bE (am (uh KX _ (uh E4).low).2 hXw _) 8
 by_cases h34:p.code=3∨p.code=4
 ·have CE:=aa (qQ hz4 (uh HF).1 (uh HOK).2 (uh HQQ) h34);have HRS:Hid (RES=aB now p e F1 F2):=aa (by
   rw [← uh HR];unfold bn;rw [if_pos (uh HOK),if_neg (by have:=uh HST;omega)])
  clear hz4 CB p1 p2 h1 h2;generalize aB now p e F1 F2=EV at *;rcases h34 with h3 | h4
  ·rw [h3] at p0;clear h3;go_wp2_with fail
   refine (uh CE).mono ?_;rintro r z6 ⟨u1,u2,us,ut,rfl,hE'⟩;have hE:EvA z EV (.returned (.agg (aC EV.e u1 u2 us ut EV.cd))) z6:=⟨u1,u2,us,ut,rfl,hE'⟩;clear hE';generalize aC EV.e u1 u2 us ut EV.cd=cs at *;obtain ⟨hsz,hall,hX2,hEv⟩:=hE.up (uh HZ).b (uh HZ).x hXw;have HE2:=aa (zA hX2 hEv);clear hE hX2 hEv CE
   go_wp2_with (first
    | (refine wpList_store_rowTo rfl 74 (.tmp 6) (.tmp 59) rfl rfl X cs rfl rfl 74 bk (uh HE2).1 (by rw [hsz];exact aw) (by rw [hsz];rfl) hall ?_))
   refine bodyPost_ret (v:=.agg cs) (by simp [results,results54,asAddr,Act.put,ay (setRow_heap z6 X _ cs _ _ (uh HE2).1) hsz]) rfl ?_;rw [uh HRS];exact (uh HE2).2
  ·rw [h4] at p0;clear h4;go_wp2_with fail
   refine (uh CE).mono ?_;rintro r z6 ⟨u1,u2,us,ut,rfl,hE'⟩;have hE:EvA z EV (.returned (.agg (aC EV.e u1 u2 us ut EV.cd))) z6:=⟨u1,u2,us,ut,rfl,hE'⟩;clear hE';generalize aC EV.e u1 u2 us ut EV.cd=cs at *;obtain ⟨hsz,hall,hX2,hEv⟩:=hE.up (uh HZ).b (uh HZ).x hXw;have HE2:=aa (zA hX2 hEv);clear hE hX2 hEv CE
   go_wp2_with (first
    | (refine wpList_store_rowTo rfl 74 (.tmp 6) (.tmp 59) rfl rfl X cs rfl rfl 74 bk (uh HE2).1 (by rw [hsz];exact aw) (by rw [hsz];rfl) hall ?_))
   refine bodyPost_ret (v:=.agg cs) (by simp [results,results54,asAddr,Act.put,ay (setRow_heap z6 X _ cs _ _ (uh HE2).1) hsz]) rfl ?_;rw [uh HRS];exact (uh HE2).2
 have h3:p.code≠3:=fun h=>h34 (Or.inl h)
 have h4:p.code≠4:=fun h=>h34 (Or.inr h)
 clear hz4 CB;by_cases h5:p.code=5
 ·rw [h5] at p0;have CE:=aa (cR z z1 B (aU now p [] (0,[]) ai ai) ⟨e,F1,F2,[],[]⟩ v1 v2 z4 (uh HL4) rfl rfl (uh HF2) ⟨#[82,84,82]⟩ (by decide) (fun a ha=>bK _ a ((aO (i:=10) (c:=(aU now p [] (0,[]) ai ai)) rfl (uh HF).2.1.1 (uh HF).2.1.2 (fun h=>absurd h (by decide)) (fun h=>absurd h (by decide))).1 a ha)) (aO (i:=10) (c:=(aU now p [] (0,[]) ai ai)) rfl (uh HF).2.1.1 (uh HF).2.1.2 (fun h=>absurd h (by decide)) (fun h=>absurd h (by decide))).2);have HRS:Hid (RES=bj (aU now p [] (0,[]) ai ai) ⟨e,F1,F2,[],[]⟩ ⟨#[82,84,82]⟩):=aa (by
   rw [← uh HR];unfold bn;rw [if_pos (uh HOK),if_neg (by have:=uh HST;omega)];unfold aB;rw [if_neg h1,if_neg h2,if_neg h34,if_neg (fun h=>absurd (h5.symm.trans h.1) (by decide)),if_pos h5];rfl)
  generalize bj (aU now p [] (0,[]) ai ai) ⟨e,F1,F2,[],[]⟩ ⟨#[82,84,82]⟩=EV at *;go_wp2_with fail
  refine (uh CE).mono ?_;rintro r z6 ⟨u1,u2,us,ut,rfl,hE'⟩;have hE:EvA z EV (.returned (.agg (aC EV.e u1 u2 us ut EV.cd))) z6:=⟨u1,u2,us,ut,rfl,hE'⟩;clear hE';generalize aC EV.e u1 u2 us ut EV.cd=cs at *;obtain ⟨hsz,hall,hX2,hEv⟩:=hE.up (uh HZ).b (uh HZ).x hXw;have HE2:=aa (zA hX2 hEv);clear hE hX2 hEv CE
  go_wp2_with (first
   | (refine wpList_store_rowTo rfl 74 (.tmp 6) (.tmp 63) rfl rfl X cs rfl rfl 74 bk (uh HE2).1 (by rw [hsz];exact aw) (by rw [hsz];rfl) hall ?_))
  refine bodyPost_ret (v:=.agg cs) (by simp [results,results54,asAddr,Act.put,ay (setRow_heap z6 X _ cs _ _ (uh HE2).1) hsz]) rfl ?_;rw [uh HRS];exact (uh HE2).2
 by_cases h6:p.code=6
 ·rw [h6] at p0;have CE:=aa (cR z z1 B (aU now p [] (0,[]) ai ai) ⟨e,F1,F2,[],[]⟩ v1 v2 z4 (uh HL4) rfl rfl (uh HF2) ⟨#[82,84,65]⟩ (by decide) (fun a ha=>bK _ a ((aO (i:=11) (c:=(aU now p [] (0,[]) ai ai)) rfl (uh HF).2.1.1 (uh HF).2.1.2 (fun h=>absurd h (by decide)) (fun h=>absurd h (by decide))).1 a ha)) (aO (i:=11) (c:=(aU now p [] (0,[]) ai ai)) rfl (uh HF).2.1.1 (uh HF).2.1.2 (fun h=>absurd h (by decide)) (fun h=>absurd h (by decide))).2);have HRS:Hid (RES=bj (aU now p [] (0,[]) ai ai) ⟨e,F1,F2,[],[]⟩ ⟨#[82,84,65]⟩):=aa (by
   rw [← uh HR];unfold bn;rw [if_pos (uh HOK),if_neg (by have:=uh HST;omega)];unfold aB;rw [if_neg h1,if_neg h2,if_neg h34,if_neg (fun h=>absurd (h6.symm.trans h.1) (by decide)),if_neg h5,if_pos h6];rfl)
  generalize bj (aU now p [] (0,[]) ai ai) ⟨e,F1,F2,[],[]⟩ ⟨#[82,84,65]⟩=EV at *;go_wp2_with fail
  refine (uh CE).mono ?_;rintro r z6 ⟨u1,u2,us,ut,rfl,hE'⟩;have hE:EvA z EV (.returned (.agg (aC EV.e u1 u2 us ut EV.cd))) z6:=⟨u1,u2,us,ut,rfl,hE'⟩;clear hE';generalize aC EV.e u1 u2 us ut EV.cd=cs at *;obtain ⟨hsz,hall,hX2,hEv⟩:=hE.up (uh HZ).b (uh HZ).x hXw;have HE2:=aa (zA hX2 hEv);clear hE hX2 hEv CE
  go_wp2_with (first
   | (refine wpList_store_rowTo rfl 74 (.tmp 6) (.tmp 67) rfl rfl X cs rfl rfl 74 bk (uh HE2).1 (by rw [hsz];exact aw) (by rw [hsz];rfl) hall ?_))
  refine bodyPost_ret (v:=.agg cs) (by simp [results,results54,asAddr,Act.put,ay (setRow_heap z6 X _ cs _ _ (uh HE2).1) hsz]) rfl ?_;rw [uh HRS];exact (uh HE2).2
 by_cases h7:p.code=7
 ·rw [h7] at p0;by_cases hz:p.data.size=0
  ·have ht0:p.data=⟨#[]⟩:=by
    apply ByteArray.ext
    exact Array.eq_empty_of_size_eq_zero hz
   rw [ht0] at p2
   go_wp2_with (first
    | (refine wpList_buildTo rfl 74 _ rfl (some 73) rfl (aC ag (.slice none 0 0) (.slice none 0 0) (.slice none 0 0) (.slice none 0 0) 4) (by as_aux_lemma=>kernel_rfl) ?_)
    | (refine wpList_store_rowTo rfl 74 (.tmp 6) (.tmp 73) rfl rfl X (aC ag (.slice none 0 0) (.slice none 0 0) (.slice none 0 0) (.slice none 0 0) 4) rfl rfl 74 bk (uh KX _ (uh HL4).low).1 aw rfl (aG _ _ _ _ _ _ _ _ _ _ _ _ _ _) ?_))
   refine bodyPost_ret (v:=.agg (aC ag (.slice none 0 0) (.slice none 0 0) (.slice none 0 0) (.slice none 0 0) 4)) (by simp [results,results54,asAddr,Act.put,ay (setRow_heap z4 X _ (aC ag (.slice none 0 0) (.slice none 0 0) (.slice none 0 0) (.slice none 0 0) 4) _ _ (uh KX _ (uh HL4).low).1)]) rfl ?_;have hres:RES=bA 4:=by
    rw [← uh HR];unfold bn;rw [if_pos (uh HOK),if_neg (by have:=uh HST;omega)];unfold aB;rw [if_neg h1,if_neg h2,if_neg h34,if_pos ⟨h7,hz⟩]
   rw [hres];exact bE (am (uh KX _ (uh HL4).low).2 hXw _) 4
  ·have HD:Hid (¬ (p.code=7∧p.data.size=0)):=aa fun h=>hz h.2
   obtain ⟨t,ht⟩:∃ t,p.data=t:=⟨_,rfl⟩;have HB:Hid (f_ p.data=f_ t):=aa (by rw [ht]);rw [ht] at p2 hz;clear ht;obtain ⟨⟨l⟩⟩:=t;cases l with
   | nil=>exact absurd rfl hz
   | cons b l =>
    clear hz;have d0:(ByteArray.mk ⟨b :: l⟩).toList.isEmpty=false:=by rw [ByteArray.toList_eq];rfl
    have d00:((ByteArray.mk ⟨b :: l⟩).toList == [])=false:=by rw [ByteArray.toList_eq];rfl
    have d3:0<(ByteArray.mk ⟨b :: l⟩).size:=by show 0<l.length+1;omega
    have d4:¬ ((ByteArray.mk ⟨b :: l⟩).size=0):=by omega
    have hbg:(ByteArray.mk ⟨b :: l⟩)[0]'d3=b:=rfl;have hhb:f_ ⟨⟨b :: l⟩⟩=decide (1≤b.toNat∧b.toNat≤7):=rfl;by_cases hlo:1≤b.toNat
    ·by_cases hhi:b.toNat≤7
     ·have HHD:Hid (f_ p.data=true):=aa (by rw [uh HB,hhb];exact decide_eq_true ⟨hlo,hhi⟩);have q1:(1:Int)≤(b.toNat:Int):=by omega
      have q2:(b.toNat:Int)≤7:=by omega
      have q3:(1:Int)≤(((ByteArray.mk ⟨b :: l⟩)[0]'d3).toNat:Int):=q1;have q4:(((ByteArray.mk ⟨b :: l⟩)[0]'d3).toNat:Int)≤7:=q2;clear hlo hhi hbg hhb;have CE:=aa (cR z z1 B (aU now p [] (0,[]) ai ai) ⟨e,F1,F2,[],[]⟩ v1 v2 z4 (uh HL4) rfl rfl (uh HF2) ⟨#[82,88,74,45]⟩ (by decide) (fun a ha=>bK _ a ((aO (i:=14) (c:=(aU now p [] (0,[]) ai ai)) rfl (uh HF).2.1.1 (uh HF).2.1.2 (fun h=>absurd h (by decide)) (fun h=>absurd h (by decide))).1 a ha)) (aO (i:=14) (c:=(aU now p [] (0,[]) ai ai)) rfl (uh HF).2.1.1 (uh HF).2.1.2 (fun h=>absurd h (by decide)) (fun h=>absurd h (by decide))).2);have HRS:Hid (RES=bj (aU now p [] (0,[]) ai ai) ⟨e,F1,F2,[],[]⟩ ⟨#[82,88,74,45]⟩):=aa (by
       rw [← uh HR];unfold bn;rw [if_pos (uh HOK),if_neg (by have:=uh HST;omega)];unfold aB;rw [if_neg h1,if_neg h2,if_neg h34,if_neg (uh HD),if_neg h5,if_neg h6,if_pos h7,if_pos (uh HHD)];rfl)
      generalize bj (aU now p [] (0,[]) ai ai) ⟨e,F1,F2,[],[]⟩ ⟨#[82,88,74,45]⟩=EV at *;go_wp2_with fail
      refine (uh CE).mono ?_;rintro r z6 ⟨u1,u2,us,ut,rfl,hE'⟩;have hE:EvA z EV (.returned (.agg (aC EV.e u1 u2 us ut EV.cd))) z6:=⟨u1,u2,us,ut,rfl,hE'⟩;clear hE';generalize aC EV.e u1 u2 us ut EV.cd=cs at *;obtain ⟨hsz,hall,hX2,hEv⟩:=hE.up (uh HZ).b (uh HZ).x hXw;have HE2:=aa (zA hX2 hEv);clear hE hX2 hEv CE
      go_wp2_with (first
       | (refine wpList_store_rowTo rfl 74 (.tmp 6) (.tmp 85) rfl rfl X cs rfl rfl 74 bk (uh HE2).1 (by rw [hsz];exact aw) (by rw [hsz];rfl) hall ?_))
      refine bodyPost_ret (v:=.agg cs) (by simp [results,results54,asAddr,Act.put,ay (setRow_heap z6 X _ cs _ _ (uh HE2).1) hsz]) rfl ?_;rw [uh HRS];exact (uh HE2).2
     ·have HHD:Hid (¬ f_ p.data=true):=aa (by rw [uh HB,hhb];intro h;exact hhi (of_decide_eq_true h).2);have q1:(1:Int)≤(b.toNat:Int):=by omega
      have q2:¬ ((b.toNat:Int)≤7):=by omega
      have q3:(1:Int)≤(((ByteArray.mk ⟨b :: l⟩)[0]'d3).toNat:Int):=q1;have q4:¬ ((((ByteArray.mk ⟨b :: l⟩)[0]'d3).toNat:Int)≤7):=q2;clear hlo hhi hbg hhb;have CE:=aa (cR z z1 B (aU now p [] (0,[]) ai ai) ⟨e,F1,F2,[],[]⟩ v1 v2 z4 (uh HL4) rfl rfl (uh HF2) ⟨#[82,88,74,43]⟩ (by decide) (fun a ha=>bK _ a ((aO (i:=13) (c:=(aU now p [] (0,[]) ai ai)) rfl (uh HF).2.1.1 (uh HF).2.1.2 (fun h=>absurd h (by decide)) (fun h=>absurd h (by decide))).1 a ha)) (aO (i:=13) (c:=(aU now p [] (0,[]) ai ai)) rfl (uh HF).2.1.1 (uh HF).2.1.2 (fun h=>absurd h (by decide)) (fun h=>absurd h (by decide))).2);have HRS:Hid (RES=bj (aU now p [] (0,[]) ai ai) ⟨e,F1,F2,[],[]⟩ ⟨#[82,88,74,43]⟩):=aa (by
       rw [← uh HR];unfold bn;rw [if_pos (uh HOK),if_neg (by have:=uh HST;omega)];unfold aB;rw [if_neg h1,if_neg h2,if_neg h34,if_neg (uh HD),if_neg h5,if_neg h6,if_pos h7,if_neg (uh HHD)];rfl)
      generalize bj (aU now p [] (0,[]) ai ai) ⟨e,F1,F2,[],[]⟩ ⟨#[82,88,74,43]⟩=EV at *;go_wp2_with fail
      refine (uh CE).mono ?_;rintro r z6 ⟨u1,u2,us,ut,rfl,hE'⟩;have hE:EvA z EV (.returned (.agg (aC EV.e u1 u2 us ut EV.cd))) z6:=⟨u1,u2,us,ut,rfl,hE'⟩;clear hE';generalize aC EV.e u1 u2 us ut EV.cd=cs at *;obtain ⟨hsz,hall,hX2,hEv⟩:=hE.up (uh HZ).b (uh HZ).x hXw;have HE2:=aa (zA hX2 hEv);clear hE hX2 hEv CE
      go_wp2_with (first
       | (refine wpList_store_rowTo rfl 74 (.tmp 6) (.tmp 87) rfl rfl X cs rfl rfl 74 bk (uh HE2).1 (by rw [hsz];exact aw) (by rw [hsz];rfl) hall ?_))
      refine bodyPost_ret (v:=.agg cs) (by simp [results,results54,asAddr,Act.put,ay (setRow_heap z6 X _ cs _ _ (uh HE2).1) hsz]) rfl ?_;rw [uh HRS];exact (uh HE2).2
    ·have HHD:Hid (¬ f_ p.data=true):=aa (by rw [uh HB,hhb];intro h;exact hlo (of_decide_eq_true h).1);have q1:¬ ((1:Int)≤(b.toNat:Int)):=by omega
     have q3:¬ ((1:Int)≤(((ByteArray.mk ⟨b :: l⟩)[0]'d3).toNat:Int)):=q1;clear hlo hbg hhb;have CE:=aa (cR z z1 B (aU now p [] (0,[]) ai ai) ⟨e,F1,F2,[],[]⟩ v1 v2 z4 (uh HL4) rfl rfl (uh HF2) ⟨#[82,88,74,43]⟩ (by decide) (fun a ha=>bK _ a ((aO (i:=13) (c:=(aU now p [] (0,[]) ai ai)) rfl (uh HF).2.1.1 (uh HF).2.1.2 (fun h=>absurd h (by decide)) (fun h=>absurd h (by decide))).1 a ha)) (aO (i:=13) (c:=(aU now p [] (0,[]) ai ai)) rfl (uh HF).2.1.1 (uh HF).2.1.2 (fun h=>absurd h (by decide)) (fun h=>absurd h (by decide))).2);have HRS:Hid (RES=bj (aU now p [] (0,[]) ai ai) ⟨e,F1,F2,[],[]⟩ ⟨#[82,88,74,43]⟩):=aa (by
      rw [← uh HR];unfold bn;rw [if_pos (uh HOK),if_neg (by have:=uh HST;omega)];unfold aB;rw [if_neg h1,if_neg h2,if_neg h34,if_neg (uh HD),if_neg h5,if_neg h6,if_pos h7,if_neg (uh HHD)];rfl)
     generalize bj (aU now p [] (0,[]) ai ai) ⟨e,F1,F2,[],[]⟩ ⟨#[82,88,74,43]⟩=EV at *;go_wp2_with fail
     refine (uh CE).mono ?_;rintro r z6 ⟨u1,u2,us,ut,rfl,hE'⟩;have hE:EvA z EV (.returned (.agg (aC EV.e u1 u2 us ut EV.cd))) z6:=⟨u1,u2,us,ut,rfl,hE'⟩;clear hE';generalize aC EV.e u1 u2 us ut EV.cd=cs at *;obtain ⟨hsz,hall,hX2,hEv⟩:=hE.up (uh HZ).b (uh HZ).x hXw;have HE2:=aa (zA hX2 hEv);clear hE hX2 hEv CE
     go_wp2_with (first
      | (refine wpList_store_rowTo rfl 74 (.tmp 6) (.tmp 87) rfl rfl X cs rfl rfl 74 bk (uh HE2).1 (by rw [hsz];exact aw) (by rw [hsz];rfl) hall ?_))
     refine bodyPost_ret (v:=.agg cs) (by simp [results,results54,asAddr,Act.put,ay (setRow_heap z6 X _ cs _ _ (uh HE2).1) hsz]) rfl ?_;rw [uh HRS];exact (uh HE2).2
 by_cases h9:p.code=9
 ·rw [h9] at p0;have CE:=aa (cR z z1 B (aU now p [] (0,[]) ai ai) ⟨e,F1,F2,[],[]⟩ v1 v2 z4 (uh HL4) rfl rfl (uh HF2) ⟨#[82,88,82]⟩ (by decide) (fun a ha=>bK _ a ((aO (i:=15) (c:=(aU now p [] (0,[]) ai ai)) rfl (uh HF).2.1.1 (uh HF).2.1.2 (fun h=>absurd h (by decide)) (fun h=>absurd h (by decide))).1 a ha)) (aO (i:=15) (c:=(aU now p [] (0,[]) ai ai)) rfl (uh HF).2.1.1 (uh HF).2.1.2 (fun h=>absurd h (by decide)) (fun h=>absurd h (by decide))).2);have HRS:Hid (RES=bj (aU now p [] (0,[]) ai ai) ⟨e,F1,F2,[],[]⟩ ⟨#[82,88,82]⟩):=aa (by
   rw [← uh HR];unfold bn;rw [if_pos (uh HOK),if_neg (by have:=uh HST;omega)];unfold aB;rw [if_neg h1,if_neg h2,if_neg h34,if_neg (fun h=>absurd (h9.symm.trans h.1) (by decide)),if_neg h5,if_neg h6,if_neg h7,if_pos (Or.inl h9)];rfl)
  generalize bj (aU now p [] (0,[]) ai ai) ⟨e,F1,F2,[],[]⟩ ⟨#[82,88,82]⟩=EV at *;go_wp2_with fail
  refine (uh CE).mono ?_;rintro r z6 ⟨u1,u2,us,ut,rfl,hE'⟩;have hE:EvA z EV (.returned (.agg (aC EV.e u1 u2 us ut EV.cd))) z6:=⟨u1,u2,us,ut,rfl,hE'⟩;clear hE';generalize aC EV.e u1 u2 us ut EV.cd=cs at *;obtain ⟨hsz,hall,hX2,hEv⟩:=hE.up (uh HZ).b (uh HZ).x hXw;have HE2:=aa (zA hX2 hEv);clear hE hX2 hEv CE
  go_wp2_with (first
   | (refine wpList_store_rowTo rfl 74 (.tmp 6) (.tmp 93) rfl rfl X cs rfl rfl 74 bk (uh HE2).1 (by rw [hsz];exact aw) (by rw [hsz];rfl) hall ?_))
  refine bodyPost_ret (v:=.agg cs) (by simp [results,results54,asAddr,Act.put,ay (setRow_heap z6 X _ cs _ _ (uh HE2).1) hsz]) rfl ?_;rw [uh HRS];exact (uh HE2).2
 by_cases h10:p.code=10
 ·rw [h10] at p0;have CE:=aa (cR z z1 B (aU now p [] (0,[]) ai ai) ⟨e,F1,F2,[],[]⟩ v1 v2 z4 (uh HL4) rfl rfl (uh HF2) ⟨#[82,88,82]⟩ (by decide) (fun a ha=>bK _ a ((aO (i:=15) (c:=(aU now p [] (0,[]) ai ai)) rfl (uh HF).2.1.1 (uh HF).2.1.2 (fun h=>absurd h (by decide)) (fun h=>absurd h (by decide))).1 a ha)) (aO (i:=15) (c:=(aU now p [] (0,[]) ai ai)) rfl (uh HF).2.1.1 (uh HF).2.1.2 (fun h=>absurd h (by decide)) (fun h=>absurd h (by decide))).2);have HRS:Hid (RES=bj (aU now p [] (0,[]) ai ai) ⟨e,F1,F2,[],[]⟩ ⟨#[82,88,82]⟩):=aa (by
   rw [← uh HR];unfold bn;rw [if_pos (uh HOK),if_neg (by have:=uh HST;omega)];unfold aB;rw [if_neg h1,if_neg h2,if_neg h34,if_neg (fun h=>absurd (h10.symm.trans h.1) (by decide)),if_neg h5,if_neg h6,if_neg h7,if_pos (Or.inr (Or.inl h10))];rfl)
  generalize bj (aU now p [] (0,[]) ai ai) ⟨e,F1,F2,[],[]⟩ ⟨#[82,88,82]⟩=EV at *;go_wp2_with fail
  refine (uh CE).mono ?_;rintro r z6 ⟨u1,u2,us,ut,rfl,hE'⟩;have hE:EvA z EV (.returned (.agg (aC EV.e u1 u2 us ut EV.cd))) z6:=⟨u1,u2,us,ut,rfl,hE'⟩;clear hE';generalize aC EV.e u1 u2 us ut EV.cd=cs at *;obtain ⟨hsz,hall,hX2,hEv⟩:=hE.up (uh HZ).b (uh HZ).x hXw;have HE2:=aa (zA hX2 hEv);clear hE hX2 hEv CE
  go_wp2_with (first
   | (refine wpList_store_rowTo rfl 74 (.tmp 6) (.tmp 93) rfl rfl X cs rfl rfl 74 bk (uh HE2).1 (by rw [hsz];exact aw) (by rw [hsz];rfl) hall ?_))
  refine bodyPost_ret (v:=.agg cs) (by simp [results,results54,asAddr,Act.put,ay (setRow_heap z6 X _ cs _ _ (uh HE2).1) hsz]) rfl ?_;rw [uh HRS];exact (uh HE2).2
 by_cases h11:p.code=11
 ·rw [h11] at p0;have CE:=aa (cR z z1 B (aU now p [] (0,[]) ai ai) ⟨e,F1,F2,[],[]⟩ v1 v2 z4 (uh HL4) rfl rfl (uh HF2) ⟨#[82,88,82]⟩ (by decide) (fun a ha=>bK _ a ((aO (i:=15) (c:=(aU now p [] (0,[]) ai ai)) rfl (uh HF).2.1.1 (uh HF).2.1.2 (fun h=>absurd h (by decide)) (fun h=>absurd h (by decide))).1 a ha)) (aO (i:=15) (c:=(aU now p [] (0,[]) ai ai)) rfl (uh HF).2.1.1 (uh HF).2.1.2 (fun h=>absurd h (by decide)) (fun h=>absurd h (by decide))).2);have HRS:Hid (RES=bj (aU now p [] (0,[]) ai ai) ⟨e,F1,F2,[],[]⟩ ⟨#[82,88,82]⟩):=aa (by
   rw [← uh HR];unfold bn;rw [if_pos (uh HOK),if_neg (by have:=uh HST;omega)];unfold aB;rw [if_neg h1,if_neg h2,if_neg h34,if_neg (fun h=>absurd (h11.symm.trans h.1) (by decide)),if_neg h5,if_neg h6,if_neg h7,if_pos (Or.inr (Or.inr h11))];rfl)
  generalize bj (aU now p [] (0,[]) ai ai) ⟨e,F1,F2,[],[]⟩ ⟨#[82,88,82]⟩=EV at *;go_wp2_with fail
  refine (uh CE).mono ?_;rintro r z6 ⟨u1,u2,us,ut,rfl,hE'⟩;have hE:EvA z EV (.returned (.agg (aC EV.e u1 u2 us ut EV.cd))) z6:=⟨u1,u2,us,ut,rfl,hE'⟩;clear hE';generalize aC EV.e u1 u2 us ut EV.cd=cs at *;obtain ⟨hsz,hall,hX2,hEv⟩:=hE.up (uh HZ).b (uh HZ).x hXw;have HE2:=aa (zA hX2 hEv);clear hE hX2 hEv CE
  go_wp2_with (first
   | (refine wpList_store_rowTo rfl 74 (.tmp 6) (.tmp 93) rfl rfl X cs rfl rfl 74 bk (uh HE2).1 (by rw [hsz];exact aw) (by rw [hsz];rfl) hall ?_))
  refine bodyPost_ret (v:=.agg cs) (by simp [results,results54,asAddr,Act.put,ay (setRow_heap z6 X _ cs _ _ (uh HE2).1) hsz]) rfl ?_;rw [uh HRS];exact (uh HE2).2
 have b1:(p.code == 1)=false:=beq_eq_false_iff_ne.2 h1;have b2:(p.code == 2)=false:=beq_eq_false_iff_ne.2 h2;have b3:(p.code == 3)=false:=beq_eq_false_iff_ne.2 h3;have b4:(p.code == 4)=false:=beq_eq_false_iff_ne.2 h4;have b5:(p.code == 5)=false:=beq_eq_false_iff_ne.2 h5;have b6:(p.code == 6)=false:=beq_eq_false_iff_ne.2 h6;have b7:(p.code == 7)=false:=beq_eq_false_iff_ne.2 h7;have b9:(p.code == 9)=false:=beq_eq_false_iff_ne.2 h9;have b10:(p.code == 10)=false:=beq_eq_false_iff_ne.2 h10;have b11:(p.code == 11)=false:=beq_eq_false_iff_ne.2 h11;have CE:=aa (cR z z1 B (aU now p [] (0,[]) ai ai) ⟨e,F1,F2,[],[]⟩ v1 v2 z4 (uh HL4) rfl rfl (uh HF2) ⟨#[82,85,67]⟩ (by decide) (fun a ha=>bK _ a ((aO (i:=12) (c:=(aU now p [] (0,[]) ai ai)) rfl (uh HF).2.1.1 (uh HF).2.1.2 (fun h=>absurd h (by decide)) (fun h=>absurd h (by decide))).1 a ha)) (aO (i:=12) (c:=(aU now p [] (0,[]) ai ai)) rfl (uh HF).2.1.1 (uh HF).2.1.2 (fun h=>absurd h (by decide)) (fun h=>absurd h (by decide))).2);have HRS:Hid (RES=bj (aU now p [] (0,[]) ai ai) ⟨e,F1,F2,[],[]⟩ ⟨#[82,85,67]⟩):=aa (by
  rw [← uh HR];unfold bn;rw [if_pos (uh HOK),if_neg (by have:=uh HST;omega)];unfold aB;rw [if_neg h1,if_neg h2,if_neg h34,if_neg (fun h=>h7 h.1),if_neg h5,if_neg h6,if_neg h7,if_neg (fun h=>h.elim h9 (fun h=>h.elim h10 h11))];rfl)
 generalize bj (aU now p [] (0,[]) ai ai) ⟨e,F1,F2,[],[]⟩ ⟨#[82,85,67]⟩=EV at *;go_wp2_with fail
 refine (uh CE).mono ?_;rintro r z6 ⟨u1,u2,us,ut,rfl,hE'⟩;have hE:EvA z EV (.returned (.agg (aC EV.e u1 u2 us ut EV.cd))) z6:=⟨u1,u2,us,ut,rfl,hE'⟩;clear hE';generalize aC EV.e u1 u2 us ut EV.cd=cs at *;obtain ⟨hsz,hall,hX2,hEv⟩:=hE.up (uh HZ).b (uh HZ).x hXw;have HE2:=aa (zA hX2 hEv);clear hE hX2 hEv CE
 go_wp2_with (first
  | (refine wpList_store_rowTo rfl 74 (.tmp 6) (.tmp 95) rfl rfl X cs rfl rfl 74 bk (uh HE2).1 (by rw [hsz];exact aw) (by rw [hsz];rfl) hall ?_))
 refine bodyPost_ret (v:=.agg cs) (by simp [results,results54,asAddr,Act.put,ay (setRow_heap z6 X _ cs _ _ (uh HE2).1) hsz]) rfl ?_;rw [uh HRS];exact (uh HE2).2
end Go.Proofs.YtjdgiimfpkideaaGreatDoor
