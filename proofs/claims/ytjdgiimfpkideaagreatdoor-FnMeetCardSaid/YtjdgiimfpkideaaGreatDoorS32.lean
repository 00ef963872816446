/- HrW LwEh MtM -/
import Derived.Test.YtjdgiimfpkideaaGreatDoorS30
import Derived.Test.YtjdgiimfpkideaaGreatDoorS31
set_option maxHeartbeats 32000000
set_option maxRecDepth 100000
set_option linter.unusedSimpArgs false
namespace Go.Proofs.YtjdgiimfpkideaaGreatDoor
open Go.RowKit Go.Proofs.Tryz
theorem qT(e:En)(x1 x2:Option Addr)(y1 y2:Nat)(F1 F2:List Op.Opt)(p:Op.Pk)(now:Int)(w:World)(l1:F1.length<=1048576)(l2:F2.length<=1048576)(h1:HoldsO w (x1,F1.length,y1) F1)(h2:HoldsO w (x2,F2.length,y2) F2):Calls prog 54 #[.agg (aA e (x1,F1.length,y1) (x2,F2.length,y2)),.agg #[p.code,p.id,p.data],now] w fun r w'=>EvA w (bn e F1 F2 p now) r w':=by
 have CBG:=aa fun W (hb:Below w w W)=>mU e x1 x2 y1 y2 F1 F2 now W l1 l2 (h1.below hb rfl) (h2.below hb rfl)
 have CP:Hid (∀W,Calls prog 74 #[.agg #[p.code,p.id,p.data]] W fun e w'=>e=.returned (.bool (Op.pok p))/\Below W W w'):=aa fun W=>d7 p.code p.id p.data W
 have CB0:=aa fun(hr:Op.right F1=true) W (hb:Below w w W)=>fJ _ F1 W hr (h1.below hb rfl)
 clear h1 h2;have HF:=aa (Aw (e:=e) (F1:=F1) (F2:=F2) (now:=now));have HG:=aa (ez (e:=e) (F1:=F1) (F2:=F2));obtain⟨hA,hP,hX,hb⟩:=kh w (.cells (aA e (x1,F1.length,y1) (x2,F2.length,y2)) 32) (.cells #[p.code,p.id,p.data] 85) (.cells k_ 74);obtain⟨A,eA⟩ := ex w.heap.size;have hXw0:w.heap.size<=A+1+1:=by omega
 rw[eA]at hA hP hX;have H0:=aa (zA hA (zA hP (zA hX hb)));clear hA hP hX hb;obtain⟨RES,hRES⟩ := ex (bn e F1 F2 p now);rw[hRES];have HR:=aa hRES;clear hRES;obtain⟨ok,hok⟩:∃b,(dJ e F1 F2&&bh 0 1000000000 now)=b:=⟨_,rfl⟩;obtain⟨ok3,hok3⟩:∃b,Op.pok p=b:=⟨_,rfl⟩;rw[hok]at CBG HF;rw[hok3]at CP;have HO1:=aa hok;have HO3:=aa hok3;clear hok hok3;obtain⟨n1,e1⟩:∃n,F1.length=n:=⟨_,rfl⟩;obtain⟨n2,e2⟩:∃n,F2.length=n:=⟨_,rfl⟩;rw[e1]at CBG CB0 H0|-;rw[e2]at CBG H0|-;go_enter func54,ntmps54
 go_upto_region 1 with fail
 obtain⟨X,hXe⟩ := ex (A+1+1);have hXw:w.heap.size<=X:=by omega
 rw[hXe]at H0|-;clear hXe hXw0 eA;refine bb (Hb w A X (aA e (x1,n1,y1) (x2,n2,y2)) p) ?_ ?_
 .exact ⟨H0.out.1,H0.out.2.1,H0.out.2.2.1,H0.out.2.2.2⟩
 clear H0;intro z hz;have HZ:=aa hz;clear hz
 go_wp2_with (first
  | (refine wpList_load_row rfl 32 (.tmp 3) rfl A rfl 32 (aA e (x1,n1,y1) (x2,n2,y2)) (0,0) _ HZ.out.a underlying32 rfl aL ?_))
 refine(uh CBG _ HZ.out.b).mono ?_;rintro r z1⟨B,v1,v2,rfl,hL⟩;have HL:=aa hL;have KZ:Hid (∀y9,Below z z y9->Hb w A X (aA e (x1,n1,y1) (x2,n2,y2)) p y9):=aa fun y9 hb=>HZ.out.step hb
 have KX:Hid (∀y9,Below z z y9->y9.heap[X]?=some (.cells k_ 74)/\Below w w y9):=aa fun y9 hb=>⟨(HZ.out.step hb).x,(HZ.out.step hb).b⟩
 clear hL CBG;obtain⟨p0,p1,p2⟩:=(uh KZ _ HL.out.low).pc;cases ok
 .go_wp2_with (first
   | (refine wpList_buildTo rfl 74 _ rfl (some 22) rfl (aC ag () () () () 1) (by as_aux_lemma=>kernel_rfl) ?_)
   | (refine wpList_store_rowTo rfl 74 (.tmp 6) (.tmp 22) rfl rfl X (aC ag () () () () 1) rfl rfl 74 k_ (uh KX _ HL.out.low).1 aw rfl (aG _ _ _ _ _ _ _ _ _ _ _ _ _ _) ?_))
  refine bodyPost_ret (v:=.agg (aC ag () () () () 1)) (by simp[results,results54,asAddr,Act.put,de (setRow_heap z1 X _ (aC ag () () () () 1) _ _ (uh KX _ HL.out.low).1)]) rfl ?_;have hres:RES=bA 1:=by
   rw[<- uh HR];unfold bn;rw[if_neg (fun h=>by have:=h.1;rw[uh HO1]at this;exact absurd this (by simp))]
  rw[hres];exact bE (am (uh KX _ HL.out.low).2 hXw _) 1
 replace HF:=aa (uh HF (by first|rfl|trivial));go_wp2_with fail
 refine(uh CP _).mono ?_;rintro r z2⟨rfl,hb2⟩;have HL2:=aa (HL.out.step hb2);clear hb2 CP HL p0 p1 p2;cases ok3
 .go_wp2_with (first
   | (refine wpList_buildTo rfl 74 _ rfl (some 22) rfl (aC ag () () () () 1) (by as_aux_lemma=>kernel_rfl) ?_)
   | (refine wpList_store_rowTo rfl 74 (.tmp 6) (.tmp 22) rfl rfl X (aC ag () () () () 1) rfl rfl 74 k_ (uh KX _ HL2.out.low).1 aw rfl (aG _ _ _ _ _ _ _ _ _ _ _ _ _ _) ?_))
  refine bodyPost_ret (v:=.agg (aC ag () () () () 1)) (by simp[results,results54,asAddr,Act.put,de (setRow_heap z2 X _ (aC ag () () () () 1) _ _ (uh KX _ HL2.out.low).1)]) rfl ?_;have hres:RES=bA 1:=by
   rw[<- uh HR];unfold bn;rw[if_neg (fun h=>by have:=h.2;rw[uh HO3]at this;exact absurd this (by simp))]
  rw[hres];exact bE (am (uh KX _ HL2.out.low).2 hXw _) 1
 have HOK:Hid ((dJ e F1 F2&&bh 0 1000000000 now)=true/\Op.pok p=true):=aa ⟨uh HO1,uh HO3⟩;have HF2:Hid (Fit 0 (aU now p [] (0,[]) ai ai) ⟨e,F1,F2,[],[]⟩):=aa (HF.out.1.came p HOK.out.2 rfl rfl _ _);have c12:z2.cell? (A,12)=some (.int .i64 e.st):=by rw[cr (uh KZ _ HL2.out.low).a];rfl
 have CB:Hid (∀W,Below z z W->Calls prog 76 #[(x1,n1,y1)] W fun e w'=>e=.returned (.string (co (Op.bytes F1)))/\Below W W w'):=aa fun W hb=>uh CB0 (uh HG (by have:=uh HO1;rw[zK]at this;exact this.1)).1 W (uh KX W hb).2
 clear HO1 HO3 HG CB0;by_cases hs1:e.st<=1
 .go_wp2_with (first
   | (refine wpList_buildTo rfl 74 _ rfl (some 26) rfl (aC ag () () () () 8) (by as_aux_lemma=>kernel_rfl) ?_)
   | (refine wpList_store_rowTo rfl 74 (.tmp 6) (.tmp 26) rfl rfl X (aC ag () () () () 8) rfl rfl 74 k_ (uh KX _ HL2.out.low).1 aw rfl (aG _ _ _ _ _ _ _ _ _ _ _ _ _ _) ?_))
  refine bodyPost_ret (v:=.agg (aC ag () () () () 8)) (by simp[results,results54,asAddr,Act.put,de (setRow_heap z2 X _ (aC ag () () () () 8) _ _ (uh KX _ HL2.out.low).1)]) rfl ?_;have hres:RES=bA 8:=by
   rw[<- uh HR];unfold bn;rw[if_pos HOK.out,if_pos hs1]
  rw[hres];exact bE (am (uh KX _ HL2.out.low).2 hXw _) 8
 have HST:Hid (1<e.st):=aa (by omega);clear hs1;obtain⟨p0,p1,p2⟩:=(uh KZ _ HL2.out.low).pc;have k31:=HL2.out.cell (i:=31) rfl;have k32:=HL2.out.cell (i:=32) rfl;have k33:=HL2.out.cell (i:=33) rfl;have f31:=HL2.out.frz 31;have f32:=HL2.out.frz 32;have f33:=HL2.out.frz 33;have HS1:=uh HST;go_upto_region 7 with fail
 refine bb (fun y=>Lay 99 z z1 B (aU now p [] (0,[]) ai ai) ⟨e,F1,F2,[],[]⟩ v1 v2 ai ai y) (HL2.out.cameP p.code p.id p.data) ?_;clear p0 p1 p2 k31 k32 k33 f31 f32 f33 HL2 c12;intro z4 hz4;have HL4:=aa hz4;obtain⟨p0,p1,p2⟩:=(uh KZ _ hz4.low).pc;have HQQ:Hid (0<=e.st/\e.st<=9):=aa HF.out.2.1;by_cases h1:p.code=1
 .have CE:=aa (qS hz4 HF.out.1 HOK.out.2 HQQ.out h1);have HRS:Hid (RES=aB now p e F1 F2):=aa (by
   rw[<- uh HR];unfold bn;rw[if_pos HOK.out,if_neg (by have:=uh HST;omega)])
  rw[h1]at p0;clear hz4 h1 CB p1 p2;generalize aB now p e F1 F2=EV at*;go_wp2_with fail
  refine CE.out.mono ?_;rintro r z6 hE;obtain⟨cs,rfl,hsz,hall,hX2,hEv⟩:=hE.out HZ.out.b HZ.out.x hXw;have HE2:=aa (zA hX2 hEv);clear hE hX2 hEv CE
  go_wp2_with (first
   | (refine wpList_store_rowTo rfl 74 (.tmp 6) (.tmp 36) rfl rfl X cs rfl rfl 74 k_ HE2.out.1 (by rw[hsz];exact aw) (by rw[hsz];rfl) hall ?_))
  refine bodyPost_ret (v:=.agg cs) (by simp[results,results54,asAddr,Act.put,de (setRow_heap z6 X _ cs _ _ HE2.out.1) hsz]) rfl ?_;rw[uh HRS];exact HE2.out.2
 by_cases h2:p.code=2
 .rw [h2]at p0;clear hz4;have SX:Hid (∀y9,Below z z y9->y9.cell? (A+1,1)=some (.int .i64 p.id)/\y9.cell? (A,15)=some (.int .i64 e.id)/\y9.cell? (A+1,2)=some (.string p.data)/\y9.cell? (A,17)=some ((x1,n1,y1):V)):=aa fun y9 hb=>by
   have hh:=uh KZ y9 hb;exact⟨hh.pc.2.1,by rw[cr hh.a];rfl,hh.pc.2.2,by rw[cr hh.a];rfl⟩
  by_cases hi:p.id=e.id
  .by_cases hu:p.data=co (Op.bytes F1)
   .have HEQ:=aa (zA hi hu);rw[hi,hu]at SX;rw[hi]at p1;rw[hu]at p2;clear hi hu;obtain⟨t,ht⟩ := ex (co (Op.bytes F1));rw[ht]at SX CB p2;obtain⟨x,hx⟩ := ex e.id;rw[hx]at SX p1;clear ht hx;go_upto_region 11 with fail
    have E4:=aa (HL4.out.step (zC _ _).drew);refine wp_region_held_drew (S:=fun y9=>y9.cell? (A+1,1)=some (.int .i64 x)/\y9.cell? (A,15)=some (.int .i64 x)/\y9.cell? (A+1,2)=some (.string t)/\y9.cell? (A,17)=some ((x1,n1,y1):V)) (by kernel_rfl) (uh SX _ E4.out.low) (fun hHeld=>?_);generalize z4.drew=yy at E4 hHeld|-;refine tq 0 1 2 3 ?_;refine tq 4 5 6 7 ?_;refine tt 8 9 ?_;refine r3 10 fun K hK=>?_
    go_simp;refine(uh CB _ E4.out.low).mono ?_;rintro r z5⟨rfl,hb5⟩;have E5:=aa (E4.out.step hb5);clear hb5;go_wp2_with fail
    refine ro hK (uh SX _ E5.out.low) fun _=>?_
    clear hK K;refine tt 11 12 ?_;refine dn ?_ _;have CE:=aa (cR z z1 B (aU now p [] (0,[]) ai ai) ⟨e,F1,F2,[],[]⟩ v1 v2 z5 E5.out rfl rfl HF2.out ⟨#[82,67,65]⟩ (by decide) (fun a ha=>bK _ a ((aO (i:=8) (c:=(aU now p [] (0,[]) ai ai)) rfl HF.out.2.1.1 HF.out.2.1.2 (fun h=>absurd h (by decide)) (fun h=>absurd h (by decide))).1 a ha)) (aO (i:=8) (c:=(aU now p [] (0,[]) ai ai)) rfl HF.out.2.1.1 HF.out.2.1.2 (fun h=>absurd h (by decide)) (fun h=>absurd h (by decide))).2);have HRS:Hid (RES=bj (aU now p [] (0,[]) ai ai) ⟨e,F1,F2,[],[]⟩ ⟨#[82,67,65]⟩):=aa (by
     rw[<- uh HR];unfold bn;rw[if_pos HOK.out,if_neg (by have:=uh HST;omega)];unfold aB;rw[if_neg (by omega),if_pos h2,if_pos HEQ.out];rfl)
    generalize bj (aU now p [] (0,[]) ai ai) ⟨e,F1,F2,[],[]⟩ ⟨#[82,67,65]⟩=EV at*;go_wp2_with fail
    refine CE.out.mono ?_;rintro r z6 hE;obtain⟨cs,rfl,hsz,hall,hX2,hEv⟩:=hE.out HZ.out.b HZ.out.x hXw;have HE2:=aa (zA hX2 hEv);clear hE hX2 hEv CE
    go_wp2_with (first
     | (refine wpList_store_rowTo rfl 74 (.tmp 6) (.tmp 54) rfl rfl X cs rfl rfl 74 k_ HE2.out.1 (by rw[hsz];exact aw) (by rw[hsz];rfl) hall ?_))
    refine bodyPost_ret (v:=.agg cs) (by simp[results,results54,asAddr,Act.put,de (setRow_heap z6 X _ cs _ _ HE2.out.1) hsz]) rfl ?_;rw[uh HRS];exact HE2.out.2
   .have HNE:Hid (¬(p.id=e.id/\p.data=co (Op.bytes F1))):=aa fun h=>hu h.2
    rw[hi]at SX p1;obtain⟨t,ht⟩ := ex p.data;obtain⟨u,hu'⟩ := ex (co (Op.bytes F1));rw[ht]at SX p2 hu;rw[hu']at CB hu;obtain⟨x,hx⟩ := ex e.id;rw[hx]at SX p1;clear ht hu' hi hx;have hu2:(t.toList != u.toList)=true:=by
     rw[bne_iff_ne];intro e;exact hu (fc e)
    have hu3:(t.toList==u.toList)=false:=by
     rw[beq_eq_false_iff_ne];intro e;exact hu (fc e)
    clear hu;go_upto_region 11 with fail
    have E4:=aa (HL4.out.step (zC _ _).drew);refine wp_region_held_drew (S:=fun y9=>y9.cell? (A+1,1)=some (.int .i64 x)/\y9.cell? (A,15)=some (.int .i64 x)/\y9.cell? (A+1,2)=some (.string t)/\y9.cell? (A,17)=some ((x1,n1,y1):V)) (by kernel_rfl) (uh SX _ E4.out.low) (fun hHeld=>?_);generalize z4.drew=yy at E4 hHeld|-;refine tq 0 1 2 3 ?_;refine tq 4 5 6 7 ?_;refine tt 8 9 ?_;refine r3 10 fun K hK=>?_
    go_simp;refine(uh CB _ E4.out.low).mono ?_;rintro r z5⟨rfl,hb5⟩;have E5:=aa (E4.out.step hb5);clear hb5;go_wp2_with fail
    refine ro hK (uh SX _ E5.out.low) fun _=>?_
    clear hK K;refine tt 11 12 ?_;refine dn ?_ _
    go_wp2_with (first
     | (refine wpList_buildTo rfl 74 _ rfl (some 52) rfl (aC ag () () () () 8) (by as_aux_lemma=>kernel_rfl) ?_)
     | (refine wpList_store_rowTo rfl 74 (.tmp 6) (.tmp 52) rfl rfl X (aC ag () () () () 8) rfl rfl 74 k_ (uh KX _ E5.out.low).1 aw rfl (aG _ _ _ _ _ _ _ _ _ _ _ _ _ _) ?_))
    refine bodyPost_ret (v:=.agg (aC ag () () () () 8)) (by simp[results,results54,asAddr,Act.put,de (setRow_heap z5 X _ (aC ag () () () () 8) _ _ (uh KX _ E5.out.low).1)]) rfl ?_;have hres:RES=bA 8:=by
     rw[<- uh HR];unfold bn;rw[if_pos HOK.out,if_neg (by have:=uh HST;omega)];unfold aB;rw[if_neg (by omega),if_pos h2,if_neg HNE.out]
    rw[hres];exact bE (am (uh KX _ E5.out.low).2 hXw _) 8
  .have HNE:Hid (¬(p.id=e.id/\p.data=co (Op.bytes F1))):=aa fun h=>hi h.1
   have hi2:(p.id != e.id)=true:=by simpa using hi
   have hi3:(p.id==e.id)=false:=by simpa using hi
   obtain⟨t,ht⟩ := ex p.data;obtain⟨x,hx⟩ := ex p.id;obtain⟨y,hy⟩ := ex e.id;rw[ht]at SX p2;rw[hx]at SX p1 hi2 hi3;rw[hy]at SX hi2 hi3;clear ht hi hx hy;go_upto_region 11 with fail
   have E4:=aa (HL4.out.step (zC _ _).drew);refine wp_region_held_drew (S:=fun y9=>y9.cell? (A+1,1)=some (.int .i64 x)/\y9.cell? (A,15)=some (.int .i64 y)/\y9.cell? (A+1,2)=some (.string t)/\y9.cell? (A,17)=some ((x1,n1,y1):V)) (by kernel_rfl) (uh SX _ E4.out.low) (fun hHeld=>?_);generalize z4.drew=yy at E4 hHeld|-;refine tq 0 1 2 3 ?_;refine tt 4 5 ?_;refine t5 6 ?_;refine t5 7 ?_;refine t5 8 ?_;refine t5 9 ?_;refine t5 10 ?_;refine t5 11 ?_;refine t2 12 ?_;refine dn ?_ _
   go_wp2_with (first
    | (refine wpList_buildTo rfl 74 _ rfl (some 52) rfl (aC ag () () () () 8) (by as_aux_lemma=>kernel_rfl) ?_)
    | (refine wpList_store_rowTo rfl 74 (.tmp 6) (.tmp 52) rfl rfl X (aC ag () () () () 8) rfl rfl 74 k_ (uh KX _ E4.out.low).1 aw rfl (aG _ _ _ _ _ _ _ _ _ _ _ _ _ _) ?_))
   refine bodyPost_ret (v:=.agg (aC ag () () () () 8)) (by simp[results,results54,asAddr,Act.put,de (setRow_heap yy X _ (aC ag () () () () 8) _ _ (uh KX _ E4.out.low).1)]) rfl ?_;have hres:RES=bA 8:=by
    rw[<- uh HR];unfold bn;rw[if_pos HOK.out,if_neg (by have:=uh HST;omega)];unfold aB;rw[if_neg (by omega),if_pos h2,if_neg HNE.out]
   rw[hres];exact bE (am (uh KX _ E4.out.low).2 hXw _) 8
 by_cases h34:p.code=3\/p.code=4
 .have CE:=aa (qQ hz4 HF.out.1 HOK.out.2 HQQ.out h34);have HRS:Hid (RES=aB now p e F1 F2):=aa (by
   rw[<- uh HR];unfold bn;rw[if_pos HOK.out,if_neg (by have:=uh HST;omega)])
  clear hz4 CB p1 p2 h1 h2;generalize aB now p e F1 F2=EV at*;rcases h34 with h3|h4
  .rw [h3]at p0;clear h3;go_wp2_with fail
   refine CE.out.mono ?_;rintro r z6 hE;obtain⟨cs,rfl,hsz,hall,hX2,hEv⟩:=hE.out HZ.out.b HZ.out.x hXw;have HE2:=aa (zA hX2 hEv);clear hE hX2 hEv CE
   go_wp2_with (first
    | (refine wpList_store_rowTo rfl 74 (.tmp 6) (.tmp 59) rfl rfl X cs rfl rfl 74 k_ HE2.out.1 (by rw[hsz];exact aw) (by rw[hsz];rfl) hall ?_))
   refine bodyPost_ret (v:=.agg cs) (by simp[results,results54,asAddr,Act.put,de (setRow_heap z6 X _ cs _ _ HE2.out.1) hsz]) rfl ?_;rw[uh HRS];exact HE2.out.2
  .rw [h4]at p0;clear h4;go_wp2_with fail
   refine CE.out.mono ?_;rintro r z6 hE;obtain⟨cs,rfl,hsz,hall,hX2,hEv⟩:=hE.out HZ.out.b HZ.out.x hXw;have HE2:=aa (zA hX2 hEv);clear hE hX2 hEv CE
   go_wp2_with (first
    | (refine wpList_store_rowTo rfl 74 (.tmp 6) (.tmp 59) rfl rfl X cs rfl rfl 74 k_ HE2.out.1 (by rw[hsz];exact aw) (by rw[hsz];rfl) hall ?_))
   refine bodyPost_ret (v:=.agg cs) (by simp[results,results54,asAddr,Act.put,de (setRow_heap z6 X _ cs _ _ HE2.out.1) hsz]) rfl ?_;rw[uh HRS];exact HE2.out.2
 have h3:p.code≠3:=fun h=>h34 (Or.inl h)
 have h4:p.code≠4:=fun h=>h34 (Or.inr h)
 clear hz4 CB;by_cases h5:p.code=5
 .rw [h5]at p0;have CE:=aa (cR z z1 B (aU now p [] (0,[]) ai ai) ⟨e,F1,F2,[],[]⟩ v1 v2 z4 HL4.out rfl rfl HF2.out ⟨#[82,84,82]⟩ (by decide) (fun a ha=>bK _ a ((aO (i:=10) (c:=(aU now p [] (0,[]) ai ai)) rfl HF.out.2.1.1 HF.out.2.1.2 (fun h=>absurd h (by decide)) (fun h=>absurd h (by decide))).1 a ha)) (aO (i:=10) (c:=(aU now p [] (0,[]) ai ai)) rfl HF.out.2.1.1 HF.out.2.1.2 (fun h=>absurd h (by decide)) (fun h=>absurd h (by decide))).2);have HRS:Hid (RES=bj (aU now p [] (0,[]) ai ai) ⟨e,F1,F2,[],[]⟩ ⟨#[82,84,82]⟩):=aa (by
   rw[<- uh HR];unfold bn;rw[if_pos HOK.out,if_neg (by have:=uh HST;omega)];unfold aB;rw[if_neg h1,if_neg h2,if_neg h34,if_neg (fun h=>absurd (h5.symm.trans h.1) (by decide)),if_pos h5];rfl)
  generalize bj (aU now p [] (0,[]) ai ai) ⟨e,F1,F2,[],[]⟩ ⟨#[82,84,82]⟩=EV at*;go_wp2_with fail
  refine CE.out.mono ?_;rintro r z6 hE;obtain⟨cs,rfl,hsz,hall,hX2,hEv⟩:=hE.out HZ.out.b HZ.out.x hXw;have HE2:=aa (zA hX2 hEv);clear hE hX2 hEv CE
  go_wp2_with (first
   | (refine wpList_store_rowTo rfl 74 (.tmp 6) (.tmp 63) rfl rfl X cs rfl rfl 74 k_ HE2.out.1 (by rw[hsz];exact aw) (by rw[hsz];rfl) hall ?_))
  refine bodyPost_ret (v:=.agg cs) (by simp[results,results54,asAddr,Act.put,de (setRow_heap z6 X _ cs _ _ HE2.out.1) hsz]) rfl ?_;rw[uh HRS];exact HE2.out.2
 by_cases h6:p.code=6
 .rw [h6]at p0;have CE:=aa (cR z z1 B (aU now p [] (0,[]) ai ai) ⟨e,F1,F2,[],[]⟩ v1 v2 z4 HL4.out rfl rfl HF2.out ⟨#[82,84,65]⟩ (by decide) (fun a ha=>bK _ a ((aO (i:=11) (c:=(aU now p [] (0,[]) ai ai)) rfl HF.out.2.1.1 HF.out.2.1.2 (fun h=>absurd h (by decide)) (fun h=>absurd h (by decide))).1 a ha)) (aO (i:=11) (c:=(aU now p [] (0,[]) ai ai)) rfl HF.out.2.1.1 HF.out.2.1.2 (fun h=>absurd h (by decide)) (fun h=>absurd h (by decide))).2);have HRS:Hid (RES=bj (aU now p [] (0,[]) ai ai) ⟨e,F1,F2,[],[]⟩ ⟨#[82,84,65]⟩):=aa (by
   rw[<- uh HR];unfold bn;rw[if_pos HOK.out,if_neg (by have:=uh HST;omega)];unfold aB;rw[if_neg h1,if_neg h2,if_neg h34,if_neg (fun h=>absurd (h6.symm.trans h.1) (by decide)),if_neg h5,if_pos h6];rfl)
  generalize bj (aU now p [] (0,[]) ai ai) ⟨e,F1,F2,[],[]⟩ ⟨#[82,84,65]⟩=EV at*;go_wp2_with fail
  refine CE.out.mono ?_;rintro r z6 hE;obtain⟨cs,rfl,hsz,hall,hX2,hEv⟩:=hE.out HZ.out.b HZ.out.x hXw;have HE2:=aa (zA hX2 hEv);clear hE hX2 hEv CE
  go_wp2_with (first
   | (refine wpList_store_rowTo rfl 74 (.tmp 6) (.tmp 67) rfl rfl X cs rfl rfl 74 k_ HE2.out.1 (by rw[hsz];exact aw) (by rw[hsz];rfl) hall ?_))
  refine bodyPost_ret (v:=.agg cs) (by simp[results,results54,asAddr,Act.put,de (setRow_heap z6 X _ cs _ _ HE2.out.1) hsz]) rfl ?_;rw[uh HRS];exact HE2.out.2
 by_cases h7:p.code=7
 .rw [h7]at p0;by_cases hz:p.data.size=0
  .have ht0:p.data=⟨#[]⟩:=by
    apply ByteArray.ext
    exact Array.eq_empty_of_size_eq_zero hz
   rw[ht0]at p2
   go_wp2_with (first
    | (refine wpList_buildTo rfl 74 _ rfl (some 73) rfl (aC ag () () () () 4) (by as_aux_lemma=>kernel_rfl) ?_)
    | (refine wpList_store_rowTo rfl 74 (.tmp 6) (.tmp 73) rfl rfl X (aC ag () () () () 4) rfl rfl 74 k_ (uh KX _ HL4.out.low).1 aw rfl (aG _ _ _ _ _ _ _ _ _ _ _ _ _ _) ?_))
   refine bodyPost_ret (v:=.agg (aC ag () () () () 4)) (by simp[results,results54,asAddr,Act.put,de (setRow_heap z4 X _ (aC ag () () () () 4) _ _ (uh KX _ HL4.out.low).1)]) rfl ?_;have hres:RES=bA 4:=by
    rw[<- uh HR];unfold bn;rw[if_pos HOK.out,if_neg (by have:=uh HST;omega)];unfold aB;rw[if_neg h1,if_neg h2,if_neg h34,if_pos ⟨h7,hz⟩]
   rw[hres];exact bE (am (uh KX _ HL4.out.low).2 hXw _) 4
  .have HD:Hid (¬(p.code=7/\p.data.size=0)):=aa fun h=>hz h.2
   obtain⟨t,ht⟩ := ex p.data;have HB:Hid (f_ p.data=f_ t):=aa (by rw[ht]);rw[ht]at p2 hz;clear ht;obtain⟨⟨l⟩⟩:=t;cases l with
   | nil=>exact absurd rfl hz
   | cons b l =>
    clear hz;have d0:(ByteArray.mk ⟨b::l⟩).toList.isEmpty=false:=by rw[ByteArray.toList_eq];rfl
    have d00:((ByteArray.mk ⟨b::l⟩).toList==[])=false:=by rw[ByteArray.toList_eq];rfl
    have d3:0<(ByteArray.mk ⟨b::l⟩).size:=by show 0<l.length+1;omega
    have d4:¬((ByteArray.mk ⟨b::l⟩).size=0):=by omega
    have hbg:(ByteArray.mk ⟨b::l⟩)[0]'d3=b:=rfl;have hhb:f_ ⟨⟨b::l⟩⟩=decide (1<=b.toNat/\b.toNat<=7):=rfl;by_cases hlo:1<=b.toNat
    .by_cases hhi:b.toNat<=7
     .have HHD:Hid (f_ p.data=true):=aa (by rw[uh HB,hhb];exact decide_eq_true ⟨hlo,hhi⟩);have q1:(1:Int)<=(b.toNat:Int):=by omega
      have q2:(b.toNat:Int)<=7:=by omega
      have q3:(1:Int)<=(((ByteArray.mk ⟨b::l⟩)[0]'d3).toNat:Int):=q1;have q4:(((ByteArray.mk ⟨b::l⟩)[0]'d3).toNat:Int)<=7:=q2;clear hlo hhi hbg hhb;have CE:=aa (cR z z1 B (aU now p [] (0,[]) ai ai) ⟨e,F1,F2,[],[]⟩ v1 v2 z4 HL4.out rfl rfl HF2.out ⟨#[82,88,74,45]⟩ (by decide) (fun a ha=>bK _ a ((aO (i:=14) (c:=(aU now p [] (0,[]) ai ai)) rfl HF.out.2.1.1 HF.out.2.1.2 (fun h=>absurd h (by decide)) (fun h=>absurd h (by decide))).1 a ha)) (aO (i:=14) (c:=(aU now p [] (0,[]) ai ai)) rfl HF.out.2.1.1 HF.out.2.1.2 (fun h=>absurd h (by decide)) (fun h=>absurd h (by decide))).2);have HRS:Hid (RES=bj (aU now p [] (0,[]) ai ai) ⟨e,F1,F2,[],[]⟩ ⟨#[82,88,74,45]⟩):=aa (by
       rw[<- uh HR];unfold bn;rw[if_pos HOK.out,if_neg (by have:=uh HST;omega)];unfold aB;rw[if_neg h1,if_neg h2,if_neg h34,if_neg HD.out,if_neg h5,if_neg h6,if_pos h7,if_pos HHD.out];rfl)
      generalize bj (aU now p [] (0,[]) ai ai) ⟨e,F1,F2,[],[]⟩ ⟨#[82,88,74,45]⟩=EV at*;go_wp2_with fail
      refine CE.out.mono ?_;rintro r z6 hE;obtain⟨cs,rfl,hsz,hall,hX2,hEv⟩:=hE.out HZ.out.b HZ.out.x hXw;have HE2:=aa (zA hX2 hEv);clear hE hX2 hEv CE
      go_wp2_with (first
       | (refine wpList_store_rowTo rfl 74 (.tmp 6) (.tmp 85) rfl rfl X cs rfl rfl 74 k_ HE2.out.1 (by rw[hsz];exact aw) (by rw[hsz];rfl) hall ?_))
      refine bodyPost_ret (v:=.agg cs) (by simp[results,results54,asAddr,Act.put,de (setRow_heap z6 X _ cs _ _ HE2.out.1) hsz]) rfl ?_;rw[uh HRS];exact HE2.out.2
     .have HHD:Hid (¬f_ p.data=true):=aa (by rw[uh HB,hhb];intro h;exact hhi (of_decide_eq_true h).2);have q1:(1:Int)<=(b.toNat:Int):=by omega
      have q2:¬((b.toNat:Int)<=7):=by omega
      have q3:(1:Int)<=(((ByteArray.mk ⟨b::l⟩)[0]'d3).toNat:Int):=q1;have q4:¬((((ByteArray.mk ⟨b::l⟩)[0]'d3).toNat:Int)<=7):=q2;clear hlo hhi hbg hhb;have CE:=aa (cR z z1 B (aU now p [] (0,[]) ai ai) ⟨e,F1,F2,[],[]⟩ v1 v2 z4 HL4.out rfl rfl HF2.out ⟨#[82,88,74,43]⟩ (by decide) (fun a ha=>bK _ a ((aO (i:=13) (c:=(aU now p [] (0,[]) ai ai)) rfl HF.out.2.1.1 HF.out.2.1.2 (fun h=>absurd h (by decide)) (fun h=>absurd h (by decide))).1 a ha)) (aO (i:=13) (c:=(aU now p [] (0,[]) ai ai)) rfl HF.out.2.1.1 HF.out.2.1.2 (fun h=>absurd h (by decide)) (fun h=>absurd h (by decide))).2);have HRS:Hid (RES=bj (aU now p [] (0,[]) ai ai) ⟨e,F1,F2,[],[]⟩ ⟨#[82,88,74,43]⟩):=aa (by
       rw[<- uh HR];unfold bn;rw[if_pos HOK.out,if_neg (by have:=uh HST;omega)];unfold aB;rw[if_neg h1,if_neg h2,if_neg h34,if_neg HD.out,if_neg h5,if_neg h6,if_pos h7,if_neg HHD.out];rfl)
      generalize bj (aU now p [] (0,[]) ai ai) ⟨e,F1,F2,[],[]⟩ ⟨#[82,88,74,43]⟩=EV at*;go_wp2_with fail
      refine CE.out.mono ?_;rintro r z6 hE;obtain⟨cs,rfl,hsz,hall,hX2,hEv⟩:=hE.out HZ.out.b HZ.out.x hXw;have HE2:=aa (zA hX2 hEv);clear hE hX2 hEv CE
      go_wp2_with (first
       | (refine wpList_store_rowTo rfl 74 (.tmp 6) (.tmp 87) rfl rfl X cs rfl rfl 74 k_ HE2.out.1 (by rw[hsz];exact aw) (by rw[hsz];rfl) hall ?_))
      refine bodyPost_ret (v:=.agg cs) (by simp[results,results54,asAddr,Act.put,de (setRow_heap z6 X _ cs _ _ HE2.out.1) hsz]) rfl ?_;rw[uh HRS];exact HE2.out.2
    .have HHD:Hid (¬f_ p.data=true):=aa (by rw[uh HB,hhb];intro h;exact hlo (of_decide_eq_true h).1);have q1:¬((1:Int)<=(b.toNat:Int)):=by omega
     have q3:¬((1:Int)<=(((ByteArray.mk ⟨b::l⟩)[0]'d3).toNat:Int)):=q1;clear hlo hbg hhb;have CE:=aa (cR z z1 B (aU now p [] (0,[]) ai ai) ⟨e,F1,F2,[],[]⟩ v1 v2 z4 HL4.out rfl rfl HF2.out ⟨#[82,88,74,43]⟩ (by decide) (fun a ha=>bK _ a ((aO (i:=13) (c:=(aU now p [] (0,[]) ai ai)) rfl HF.out.2.1.1 HF.out.2.1.2 (fun h=>absurd h (by decide)) (fun h=>absurd h (by decide))).1 a ha)) (aO (i:=13) (c:=(aU now p [] (0,[]) ai ai)) rfl HF.out.2.1.1 HF.out.2.1.2 (fun h=>absurd h (by decide)) (fun h=>absurd h (by decide))).2);have HRS:Hid (RES=bj (aU now p [] (0,[]) ai ai) ⟨e,F1,F2,[],[]⟩ ⟨#[82,88,74,43]⟩):=aa (by
      rw[<- uh HR];unfold bn;rw[if_pos HOK.out,if_neg (by have:=uh HST;omega)];unfold aB;rw[if_neg h1,if_neg h2,if_neg h34,if_neg HD.out,if_neg h5,if_neg h6,if_pos h7,if_neg HHD.out];rfl)
     generalize bj (aU now p [] (0,[]) ai ai) ⟨e,F1,F2,[],[]⟩ ⟨#[82,88,74,43]⟩=EV at*;go_wp2_with fail
     refine CE.out.mono ?_;rintro r z6 hE;obtain⟨cs,rfl,hsz,hall,hX2,hEv⟩:=hE.out HZ.out.b HZ.out.x hXw;have HE2:=aa (zA hX2 hEv);clear hE hX2 hEv CE
     go_wp2_with (first
      | (refine wpList_store_rowTo rfl 74 (.tmp 6) (.tmp 87) rfl rfl X cs rfl rfl 74 k_ HE2.out.1 (by rw[hsz];exact aw) (by rw[hsz];rfl) hall ?_))
     refine bodyPost_ret (v:=.agg cs) (by simp[results,results54,asAddr,Act.put,de (setRow_heap z6 X _ cs _ _ HE2.out.1) hsz]) rfl ?_;rw[uh HRS];exact HE2.out.2
 by_cases h9:p.code=9
 .rw [h9]at p0;have CE:=aa (cR z z1 B (aU now p [] (0,[]) ai ai) ⟨e,F1,F2,[],[]⟩ v1 v2 z4 HL4.out rfl rfl HF2.out ⟨#[82,88,82]⟩ (by decide) (fun a ha=>bK _ a ((aO (i:=15) (c:=(aU now p [] (0,[]) ai ai)) rfl HF.out.2.1.1 HF.out.2.1.2 (fun h=>absurd h (by decide)) (fun h=>absurd h (by decide))).1 a ha)) (aO (i:=15) (c:=(aU now p [] (0,[]) ai ai)) rfl HF.out.2.1.1 HF.out.2.1.2 (fun h=>absurd h (by decide)) (fun h=>absurd h (by decide))).2);have HRS:Hid (RES=bj (aU now p [] (0,[]) ai ai) ⟨e,F1,F2,[],[]⟩ ⟨#[82,88,82]⟩):=aa (by
   rw[<- uh HR];unfold bn;rw[if_pos HOK.out,if_neg (by have:=uh HST;omega)];unfold aB;rw[if_neg h1,if_neg h2,if_neg h34,if_neg (fun h=>absurd (h9.symm.trans h.1) (by decide)),if_neg h5,if_neg h6,if_neg h7,if_pos (Or.inl h9)];rfl)
  generalize bj (aU now p [] (0,[]) ai ai) ⟨e,F1,F2,[],[]⟩ ⟨#[82,88,82]⟩=EV at*;go_wp2_with fail
  refine CE.out.mono ?_;rintro r z6 hE;obtain⟨cs,rfl,hsz,hall,hX2,hEv⟩:=hE.out HZ.out.b HZ.out.x hXw;have HE2:=aa (zA hX2 hEv);clear hE hX2 hEv CE
  go_wp2_with (first
   | (refine wpList_store_rowTo rfl 74 (.tmp 6) (.tmp 93) rfl rfl X cs rfl rfl 74 k_ HE2.out.1 (by rw[hsz];exact aw) (by rw[hsz];rfl) hall ?_))
  refine bodyPost_ret (v:=.agg cs) (by simp[results,results54,asAddr,Act.put,de (setRow_heap z6 X _ cs _ _ HE2.out.1) hsz]) rfl ?_;rw[uh HRS];exact HE2.out.2
 by_cases h10:p.code=10
 .rw [h10]at p0;have CE:=aa (cR z z1 B (aU now p [] (0,[]) ai ai) ⟨e,F1,F2,[],[]⟩ v1 v2 z4 HL4.out rfl rfl HF2.out ⟨#[82,88,82]⟩ (by decide) (fun a ha=>bK _ a ((aO (i:=15) (c:=(aU now p [] (0,[]) ai ai)) rfl HF.out.2.1.1 HF.out.2.1.2 (fun h=>absurd h (by decide)) (fun h=>absurd h (by decide))).1 a ha)) (aO (i:=15) (c:=(aU now p [] (0,[]) ai ai)) rfl HF.out.2.1.1 HF.out.2.1.2 (fun h=>absurd h (by decide)) (fun h=>absurd h (by decide))).2);have HRS:Hid (RES=bj (aU now p [] (0,[]) ai ai) ⟨e,F1,F2,[],[]⟩ ⟨#[82,88,82]⟩):=aa (by
   rw[<- uh HR];unfold bn;rw[if_pos HOK.out,if_neg (by have:=uh HST;omega)];unfold aB;rw[if_neg h1,if_neg h2,if_neg h34,if_neg (fun h=>absurd (h10.symm.trans h.1) (by decide)),if_neg h5,if_neg h6,if_neg h7,if_pos (Or.inr (Or.inl h10))];rfl)
  generalize bj (aU now p [] (0,[]) ai ai) ⟨e,F1,F2,[],[]⟩ ⟨#[82,88,82]⟩=EV at*;go_wp2_with fail
  refine CE.out.mono ?_;rintro r z6 hE;obtain⟨cs,rfl,hsz,hall,hX2,hEv⟩:=hE.out HZ.out.b HZ.out.x hXw;have HE2:=aa (zA hX2 hEv);clear hE hX2 hEv CE
  go_wp2_with (first
   | (refine wpList_store_rowTo rfl 74 (.tmp 6) (.tmp 93) rfl rfl X cs rfl rfl 74 k_ HE2.out.1 (by rw[hsz];exact aw) (by rw[hsz];rfl) hall ?_))
  refine bodyPost_ret (v:=.agg cs) (by simp[results,results54,asAddr,Act.put,de (setRow_heap z6 X _ cs _ _ HE2.out.1) hsz]) rfl ?_;rw[uh HRS];exact HE2.out.2
 by_cases h11:p.code=11
 .rw [h11]at p0;have CE:=aa (cR z z1 B (aU now p [] (0,[]) ai ai) ⟨e,F1,F2,[],[]⟩ v1 v2 z4 HL4.out rfl rfl HF2.out ⟨#[82,88,82]⟩ (by decide) (fun a ha=>bK _ a ((aO (i:=15) (c:=(aU now p [] (0,[]) ai ai)) rfl HF.out.2.1.1 HF.out.2.1.2 (fun h=>absurd h (by decide)) (fun h=>absurd h (by decide))).1 a ha)) (aO (i:=15) (c:=(aU now p [] (0,[]) ai ai)) rfl HF.out.2.1.1 HF.out.2.1.2 (fun h=>absurd h (by decide)) (fun h=>absurd h (by decide))).2);have HRS:Hid (RES=bj (aU now p [] (0,[]) ai ai) ⟨e,F1,F2,[],[]⟩ ⟨#[82,88,82]⟩):=aa (by
   rw[<- uh HR];unfold bn;rw[if_pos HOK.out,if_neg (by have:=uh HST;omega)];unfold aB;rw[if_neg h1,if_neg h2,if_neg h34,if_neg (fun h=>absurd (h11.symm.trans h.1) (by decide)),if_neg h5,if_neg h6,if_neg h7,if_pos (Or.inr (Or.inr h11))];rfl)
  generalize bj (aU now p [] (0,[]) ai ai) ⟨e,F1,F2,[],[]⟩ ⟨#[82,88,82]⟩=EV at*;go_wp2_with fail
  refine CE.out.mono ?_;rintro r z6 hE;obtain⟨cs,rfl,hsz,hall,hX2,hEv⟩:=hE.out HZ.out.b HZ.out.x hXw;have HE2:=aa (zA hX2 hEv);clear hE hX2 hEv CE
  go_wp2_with (first
   | (refine wpList_store_rowTo rfl 74 (.tmp 6) (.tmp 93) rfl rfl X cs rfl rfl 74 k_ HE2.out.1 (by rw[hsz];exact aw) (by rw[hsz];rfl) hall ?_))
  refine bodyPost_ret (v:=.agg cs) (by simp[results,results54,asAddr,Act.put,de (setRow_heap z6 X _ cs _ _ HE2.out.1) hsz]) rfl ?_;rw[uh HRS];exact HE2.out.2
 have b1:(p.code==1)=false:=zL h1;have b2:(p.code==2)=false:=zL h2;have b3:(p.code==3)=false:=zL h3;have b4:(p.code==4)=false:=zL h4;have b5:(p.code==5)=false:=zL h5;have b6:(p.code==6)=false:=zL h6;have b7:(p.code==7)=false:=zL h7;have b9:(p.code==9)=false:=zL h9;have b10:(p.code==10)=false:=zL h10;have b11:(p.code==11)=false:=zL h11;have CE:=aa (cR z z1 B (aU now p [] (0,[]) ai ai) ⟨e,F1,F2,[],[]⟩ v1 v2 z4 HL4.out rfl rfl HF2.out ⟨#[82,85,67]⟩ (by decide) (fun a ha=>bK _ a ((aO (i:=12) (c:=(aU now p [] (0,[]) ai ai)) rfl HF.out.2.1.1 HF.out.2.1.2 (fun h=>absurd h (by decide)) (fun h=>absurd h (by decide))).1 a ha)) (aO (i:=12) (c:=(aU now p [] (0,[]) ai ai)) rfl HF.out.2.1.1 HF.out.2.1.2 (fun h=>absurd h (by decide)) (fun h=>absurd h (by decide))).2);have HRS:Hid (RES=bj (aU now p [] (0,[]) ai ai) ⟨e,F1,F2,[],[]⟩ ⟨#[82,85,67]⟩):=aa (by
  rw[<- uh HR];unfold bn;rw[if_pos HOK.out,if_neg (by have:=uh HST;omega)];unfold aB;rw[if_neg h1,if_neg h2,if_neg h34,if_neg (fun h=>h7 h.1),if_neg h5,if_neg h6,if_neg h7,if_neg (fun h=>h.elim h9 (fun h=>h.elim h10 h11))];rfl)
 generalize bj (aU now p [] (0,[]) ai ai) ⟨e,F1,F2,[],[]⟩ ⟨#[82,85,67]⟩=EV at*;go_wp2_with fail
 refine CE.out.mono ?_;rintro r z6 hE;obtain⟨cs,rfl,hsz,hall,hX2,hEv⟩:=hE.out HZ.out.b HZ.out.x hXw;have HE2:=aa (zA hX2 hEv);clear hE hX2 hEv CE
 go_wp2_with (first
  | (refine wpList_store_rowTo rfl 74 (.tmp 6) (.tmp 95) rfl rfl X cs rfl rfl 74 k_ HE2.out.1 (by rw[hsz];exact aw) (by rw[hsz];rfl) hall ?_))
 refine bodyPost_ret (v:=.agg cs) (by simp[results,results54,asAddr,Act.put,de (setRow_heap z6 X _ cs _ _ HE2.out.1) hsz]) rfl ?_;rw[uh HRS];exact HE2.out.2
theorem BC{W:World}{E:Nat}{cl:List Value}{T:TypeId}(h:W.heap[E]?=some (.cells cl.toArray T)):W.rangeAt E 0 cl:=by
 intro j u hu;rw[cr h,Nat.zero_add,List.getElem?_toArray];exact hu
theorem cj(k:Int):EoB (bA k):=⟨Nat.zero_le _,Nat.zero_le _,Nat.zero_le _,Nat.zero_le _⟩
theorem fe{c:Cx}{s:St}{t:ByteArray}(hf:Fit 0 c s)(hl:(bO s.e.st t).2.1.length<=30):EoB (bj c s t):=by
 unfold bj;generalize bO s.e.st t=R at*;obtain⟨st,A,cd⟩:=R;dsimp only at hl|-;split
 .have h:=hf.fold A A.length;rw[List.take_length]at h;have l20:∀F,cC F=true->F.length<=2000:=fun F hF=>by
   have:=iP hF
   unfold Op.right at this;rw[zK]at this;have:=of_decide_eq_true this.1
   omega
  exact⟨l20 _ h.f1,l20 _ h.f2,zE h.sn (by omega),zE h.tl (by omega)⟩
 .exact cj _
theorem oQ(e:En)(F1 F2:List Op.Opt)(p:Op.Pk)(now:Int):EoB (bn e F1 F2 p now):=by
 unfold bn;split
 .rename_i h
  obtain⟨hf,hs,_⟩:=Aw h.1;have hd:p.data.size<=250:=by
   have:=h.2
   unfold Op.pok at this;exact(of_decide_eq_true this).2.2.2.2
  have hf2:Fit 0 (aU now p [] (0,[]) ai ai) ⟨e,F1,F2,[],[]⟩:=hf.came p h.2 rfl rfl _ _;have key:∀k,k<16->k≠6->k≠7->EoB (bj (aU now p [] (0,[]) ai ai) ⟨e,F1,F2,[],[]⟩ (im k)):=fun k hk h6 h7=>fe hf2 (aO (c:=aU now p [] (0,[]) ai ai) (gp hk) hs.1 hs.2 (fun h=>absurd h h6) (fun h=>absurd h h7)).2
  split
  .exact cj _
  unfold aB;split
  .split
   .have hfx:=hf.came p h.2 (eS hd) (kB e (eS hd)) ai ai;by_cases ha:(dI e (ar p.data).1).1=2
    .rw [if_pos ha];exact fe hfx (aO (i:=6) (c:=aU now p (ar p.data).1 (dI e (ar p.data).1) ai ai) (gp (by decide)) hs.1 hs.2 (fun _=>ha) (fun h=>absurd h (by decide))).2
    .rw [if_neg ha];exact fe hfx (aO (i:=7) (c:=aU now p (ar p.data).1 (dI e (ar p.data).1) ai ai) (gp (by decide)) hs.1 hs.2 (fun h=>absurd h (by decide)) (fun _=>ha)).2
   .exact cj _
  split
  .split
   .exact key 8 (by decide) (by decide) (by decide)
   .exact cj _
  split
  .split
   .split
    .refine fe (hf2.asks ?_) (aO (i:=9) (c:=aU now p [] (0,[]) ai ai) (gp (by decide)) hs.1 hs.2 (fun h=>absurd h (by decide)) (fun h=>absurd h (by decide))).2;split
     .exact gK (eF hf.ask) _
     .exact nf (eF hf.ask) _
    .exact cj _
   .exact cj _
  split
  .exact cj _
  .apply key
   .split
    .decide
    split
    .decide
    split
    .split<;>decide
    split<;>decide
   .split
    .decide
    split
    .decide
    split
    .split<;>decide
    split<;>decide
   .split
    .decide
    split
    .decide
    split
    .split<;>decide
    split<;>decide
 .exact cj _
section
variable {z:World} {N:Nat} {c:Array Value}
end
section
variable {w:World} {A:Nat} {ca:List Value} {x y:Int} {t:ByteArray} {o:EO} {bw lo1 hi1:Nat} {cw:Array Value} {bx lo2 hi2:Nat} {e:En} {F1 F2:List Op.Opt} {cl:List Value} {q q':World} {bg:Nat} {cg:Array Value}
end
structure Sd where
 e:En
 F1:List Op.Opt
 F2:List Op.Opt
 ln:List Op.Pk
structure Mw where
 a:Sd
 b:Sd
 now:Int
def be(s:Sd)(o:EO):Sd:=if o.cd=0 then⟨o.e,o.F1,o.F2,(s.ln++o.sn).take 40⟩else s
def oe(s:Sd)(t:ByteArray)(now:Int):Sd:=be s (kC s.e s.F1 s.F2 t now)
def gd(s:Sd)(now:Int):Sd:=be s (dq s.e s.F1 s.F2 now)
def fk(s:Sd)(p:Op.Pk)(now:Int):Sd:=be s (bn s.e s.F1 s.F2 p now)
def qU(m a g:Int)(p c d:Bool):Sd:=⟨eP m a g p c d,[],[],[]⟩
def lV:ByteArray:=⟨#[79,112,101,110]⟩
def xL:ByteArray:=⟨#[85,112]⟩
def eo(s:Sd):Sd:=oe (oe s lV 0) xL 0
def dN(s:Sd)(l:List Op.Pk):Sd:=⟨s.e,s.F1,s.F2,l⟩
def ml:List Op.Pk->List Op.Pk
 | []=>[]
 | p::r=>if(p::r).length<40 then p::p::r else p::r
def aI(w:Mw):Mw:=match w.a.ln with
 | []=>w
 | p::r=>⟨dN w.a r,fk w.b p w.now,w.now⟩
def aN(w:Mw):Mw:=match w.b.ln with
 | []=>w
 | p::r=>⟨fk w.a p w.now,dN w.b r,w.now⟩
def z_(w:Mw):Mw:=⟨gd w.a (w.now+1),gd w.b (w.now+1),w.now+1⟩
def fQ(w:Mw)(i:Int):Mw :=
 if i=0 then aI w
 else if i=1 then⟨dN w.a w.a.ln.tail,w.b,w.now⟩
 else if i=2 then⟨dN w.a (ml w.a.ln),w.b,w.now⟩
 else if i=3 then aN w
 else if i=4 then⟨w.a,dN w.b w.b.ln.tail,w.now⟩
 else if i=5 then⟨w.a,dN w.b (ml w.b.ln),w.now⟩
 else if i=6 then z_ w
 else w
def au{α:Type}(f:α->α):Nat->α->α
 | 0,x=>x
 | n+1,x=>f (au f n x)
def cT(w:Mw):Mw :=
 let u:=au aI w.a.ln.length w
 z_ (au aN u.b.ln.length u)
def jX(m1 a1 g1:Int)(p1 c1 d1:Bool)(m2 a2 g2:Int)(p2 c2 d2:Bool)(L:List Int)(st:Bool):Mw :=
 let u:=L.foldl fQ ⟨eo (qU m1 a1 g1 p1 c1 d1),eo (qU m2 a2 g2 p2 c2 d2),0⟩
 if st=true then au cT 100 u else u
def ve(o:EO):Prop:=(o.cd≠0->o.sn=[])/\EoB o
theorem qV(c:Cx)(s:St)(t:ByteArray)(hc:(bj c s t).cd≠0):(bj c s t).sn=[]:=by
 unfold bj at hc|-;split
 .rename_i h0
  rw[if_pos h0]at hc;exact absurd rfl hc
 .rfl
theorem lW(e:En)(F1 F2:List Op.Opt)(t:ByteArray)(now:Int):ve (kC e F1 F2 t now):=by
 refine⟨?_,s_ e F1 F2 t now cj fun s t hf hl=>fe hf hl⟩;unfold kC;repeat' split
 all_goals first|exact fun _=>rfl|exact qV _ _ _
theorem nh(e:En)(F1 F2:List Op.Opt)(now:Int):EoB (dq e F1 F2 now):=by
 unfold dq;split
 .rename_i h
  obtain⟨hf,hs,_⟩:=Aw h;split
  .exact cj _
  split
  .exact fe hf (dh (i:=4) (by decide) rfl hs.1 hs.2).2
  .exact fe hf (dh (i:=5) (by decide) rfl hs.1 hs.2).2
 .exact cj _
theorem kD(e:En)(F1 F2:List Op.Opt)(now:Int):ve (dq e F1 F2 now):=by
 refine⟨?_,nh e F1 F2 now⟩;unfold dq;repeat' split
 all_goals first|exact fun _=>rfl|exact qV _ _ _
theorem iF(e:En)(F1 F2:List Op.Opt)(p:Op.Pk)(now:Int):ve (bn e F1 F2 p now):=by
 refine⟨?_,oQ e F1 F2 p now⟩;unfold bn aB;repeat' split
 all_goals first|exact fun _=>rfl|exact qV _ _ _
theorem xM(l m:List Op.Pk)(i:Nat)(hi:i<m.length):(if((l++m.take i).take 40).length<40 then(l++m.take i).take 40++[m[i]]else(l++m.take i).take 40)=(l++m.take (i+1)).take 40:=by
 have e:m.take (i+1)=m.take i++[m[i]]:=by rw[List.take_append_getElem hi]
 rw[e,<- List.append_assoc];generalize l++m.take i=x;generalize m[i]=y;split
 .rename_i h
  have:x.length<40:=by simp at h;omega
  rw[List.take_of_length_le (by omega),List.take_of_length_le (by simp;omega)]
 .rename_i h
  have:40<=x.length:=by simp at h;omega
  rw[List.take_append_of_le_length this]
end Go.Proofs.YtjdgiimfpkideaaGreatDoor
