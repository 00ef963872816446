/- HrE WkP -/
import Derived.Test.YtjdgiimfpkideaaGreatDoorS29
import Derived.Test.YtjdgiimfpkideaaGreatDoorS26
set_option maxHeartbeats 16000000
set_option maxRecDepth 100000
set_option linter.unusedSimpArgs false
namespace Go.Proofs.YtjdgiimfpkideaaGreatDoor
open Go.RowKit Go.Proofs.Tryz
variable {w z w0 w1 q:World} {A X B:Nat} {cs:Array Value} {p:Op.Pk} {c:Cx} {s:St} {v1 v2 vs vt:Value}
structure Hb(w:World)(A X:Nat)(cs:Array Value)(p:Op.Pk)(z:World):Prop where
 a:z.heap[A]?=some (.cells cs 32)
 p:z.heap[A+1]?=some (.cells #[p.code,p.id,p.data] 85)
 x:z.heap[X]?=some (.cells k_ 74)
 b:Below w w z
theorem Hb.step{z':World}(h:Hb w A X cs p z)(hb:Below z z z'):Hb w A X cs p z' :=
 ⟨(hb.block _ (ge.1 h.a).1).trans h.a,(hb.block _ (ge.1 h.p).1).trans h.p,(hb.block _ (ge.1 h.x).1).trans h.x,h.b.trans (hb.mono h.b.size)⟩
theorem Hb.pc(h:Hb w A X cs p z):z.cell? (A+1,0)=some (.int .i64 p.code)/\z.cell? (A+1,1)=some (.int .i64 p.id)/\z.cell? (A+1,2)=some (p.data:V) :=
 ⟨by rw[cr h.p];rfl,by rw[cr h.p];rfl,by rw[cr h.p];rfl⟩
theorem qM(e:En)(x1 x2:Option Addr)(y1 y2:Nat)(F1 F2:List Op.Opt)(p:Op.Pk)(now:Int)(w:World)(l1:F1.length<=1048576)(l2:F2.length<=1048576)(h1:HoldsO w (x1,F1.length,y1) F1)(h2:HoldsO w (x2,F2.length,y2) F2)(hEv:EvT w)(hNx:NxT w)(hSp:SpT w)(hEt:Et w):Calls prog 67 #[.agg (aA e (x1,F1.length,y1) (x2,F2.length,y2)),.agg #[p.code,p.id,p.data],now] w fun r w'=>EvA w (bn e F1 F2 p now) r w':=by
 have CR:=aa fun W (hb:Below w w W)=>eG e x1 x2 y1 y2 F1 F2 W (by unfold maxLen;omega) (by unfold maxLen;omega) (h1.below hb rfl) (h2.below hb rfl)
 have CW:=aa fun W (hb:Below w w W) (r:Op.right F1=true/\Op.right F2=true)=>qK e x1 x2 y1 y2 F1 F2 now W r.1 r.2 (h1.below hb rfl) (h2.below hb rfl)
 have CT:=aa fun W=>qB now W
 have CP:Hid (∀W,Calls prog 92 #[.agg #[p.code,p.id,p.data]] W fun e w'=>e=.returned (.bool (Op.pok p))/\Below W W w'):=aa fun W=>dZ p.code p.id p.data W
 clear h1 h2;have HF:=aa (Aw (e:=e) (F1:=F1) (F2:=F2) (now:=now));have HG:=aa (ez (e:=e) (F1:=F1) (F2:=F2));have HV:=aa (zA hEv (zA hNx (zA hSp hEt)));clear hEv hNx hSp hEt;obtain⟨hA,hP,hX,hb⟩:=kh w (.cells (aA e (x1,F1.length,y1) (x2,F2.length,y2)) 32) (.cells #[p.code,p.id,p.data] 85) (.cells k_ 74);obtain⟨A,eA⟩ := ex w.heap.size;have hXw0:w.heap.size<=A+1+1:=by omega
 rw[eA]at hA hP hX;have H0:=aa (zA hA (zA hP (zA hX hb)));clear hA hP hX hb;obtain⟨RES,hRES⟩ := ex (bn e F1 F2 p now);rw[hRES];have HR:=aa hRES;clear hRES;obtain⟨ok1,hok1⟩:∃b,dJ e F1 F2=b:=⟨_,rfl⟩;obtain⟨ok2,hok2⟩:∃b,bh 0 1000000000 now=b:=⟨_,rfl⟩;obtain⟨ok3,hok3⟩:∃b,Op.pok p=b:=⟨_,rfl⟩;rw[hok1]at CR HF HG;rw[hok2]at CT HF;rw[hok3]at CP;have HO1:=aa hok1;have HO2:=aa hok2;have HO3:=aa hok3;clear hok1 hok2 hok3;obtain⟨n1,e1⟩:∃n,F1.length=n:=⟨_,rfl⟩;obtain⟨n2,e2⟩:∃n,F2.length=n:=⟨_,rfl⟩;rw[e1]at CR CW H0|-;rw[e2]at CR CW H0|-;go_enter func67,ntmps67
 go_upto_region 1 with fail
 obtain⟨X,hXe⟩ := ex (A+1+1);have hXw:w.heap.size<=X:=by omega
 rw[hXe]at H0|-;have HXA:=aa (zA eA hXe);clear hXe hXw0 eA;refine bb (Hb w A X (aA e (x1,n1,y1) (x2,n2,y2)) p) ?_ ?_
 .exact ⟨H0.out.1,H0.out.2.1,H0.out.2.2.1,H0.out.2.2.2⟩
 clear H0;intro z hz;have HZ:=aa hz;clear hz
 go_wp2_with (first
  | (refine wpList_load_row rfl 32 (.tmp 3) rfl A rfl 32 (aA e (x1,n1,y1) (x2,n2,y2)) (0,0) _ HZ.out.a underlying32 rfl aL ?_))
 refine(uh CR _ HZ.out.b).mono ?_;rintro r z1⟨rfl,hb1⟩;have H1:=aa (HZ.out.step hb1);clear hb1 CR HZ;obtain⟨p0,p1,p2⟩:=H1.out.pc;cases ok1
 .go_wp2_with (first
   | (refine wpList_buildTo rfl 74 _ rfl (some 23) rfl (aC ag () () () () 1) (by as_aux_lemma=>kernel_rfl) ?_)
    | (refine wpList_store_rowTo rfl 74 (.tmp 6) (.tmp 23) rfl rfl X (aC ag () () () () 1) rfl rfl 74 k_ H1.out.x aw rfl (aG _ _ _ _ _ _ _ _ _ _ _ _ _ _) ?_))
  refine bodyPost_ret (v:=.agg (aC ag () () () () 1)) (by simp[results,results67,asAddr,Act.put,de (setRow_heap z1 X _ (aC ag () () () () 1) _ _ H1.out.x)]) rfl ?_;have hres:RES=bA 1:=by
   rw[<- uh HR];unfold bn;rw[if_neg (fun h=>by have:=h.1;rw[uh HO1]at this;exact absurd this (by simp))]
  rw[hres];exact bE (am H1.out.b hXw _) 1
 cases ok2
 .go_wp2_with (first
   | (go_at_call 83;refine cq (uh CT _) ?_)
   | (refine wpList_buildTo rfl 74 _ rfl (some 23) rfl (aC ag () () () () 1) (by as_aux_lemma=>kernel_rfl) ?_)
    | (refine wpList_store_rowTo rfl 74 (.tmp 6) (.tmp 23) rfl rfl X (aC ag () () () () 1) rfl rfl 74 k_ H1.out.x aw rfl (aG _ _ _ _ _ _ _ _ _ _ _ _ _ _) ?_))
  refine bodyPost_ret (v:=.agg (aC ag () () () () 1)) (by simp[results,results67,asAddr,Act.put,de (setRow_heap z1 X _ (aC ag () () () () 1) _ _ H1.out.x)]) rfl ?_;have hres:RES=bA 1:=by
   rw[<- uh HR];unfold bn;rw[if_neg (fun h=>by have:=h.1;rw[uh HO1,uh HO2]at this;exact absurd this (by simp))]
  rw[hres];exact bE (am H1.out.b hXw _) 1
 go_wp2_with (first
  | (go_at_call 83;refine cq (uh CT _) ?_))
 refine(uh CP _).mono ?_;rintro r z2⟨rfl,hb2⟩;have H2:=aa (H1.out.step hb2);clear hb2 CP H1 p0 p1 p2 CT;cases ok3
 .go_wp2_with (first
   | (refine wpList_buildTo rfl 74 _ rfl (some 23) rfl (aC ag () () () () 1) (by as_aux_lemma=>kernel_rfl) ?_)
    | (refine wpList_store_rowTo rfl 74 (.tmp 6) (.tmp 23) rfl rfl X (aC ag () () () () 1) rfl rfl 74 k_ H2.out.x aw rfl (aG _ _ _ _ _ _ _ _ _ _ _ _ _ _) ?_))
  refine bodyPost_ret (v:=.agg (aC ag () () () () 1)) (by simp[results,results67,asAddr,Act.put,de (setRow_heap z2 X _ (aC ag () () () () 1) _ _ H2.out.x)]) rfl ?_;have hres:RES=bA 1:=by
   rw[<- uh HR];unfold bn;rw[if_neg (fun h=>by have:=h.2;rw[uh HO3]at this;exact absurd this (by simp))]
  rw[hres];exact bE (am H2.out.b hXw _) 1
 replace HF:=aa (uh HF (by first|rfl|trivial));replace CW:=aa fun W hb=>uh CW W hb (uh HG (by first|rfl|trivial))
 have c12:z2.cell? (A,12)=some (.int .i64 e.st):=by rw[cr H2.out.a];rfl
 have HOK:Hid ((dJ e F1 F2&&bh 0 1000000000 now)=true/\Op.pok p=true):=aa ⟨by rw[uh HO1,uh HO2];rfl,uh HO3⟩;clear HG HO1 HO2 HO3;by_cases hs0:e.st=0
 .rw [hs0]at c12
  go_wp2_with (first
   | (refine wpList_buildTo rfl 74 _ rfl (some 32) rfl (aC ag () () () () 8) (by as_aux_lemma=>kernel_rfl) ?_)
    | (refine wpList_store_rowTo rfl 74 (.tmp 6) (.tmp 32) rfl rfl X (aC ag () () () () 8) rfl rfl 74 k_ H2.out.x aw rfl (aG _ _ _ _ _ _ _ _ _ _ _ _ _ _) ?_))
  refine bodyPost_ret (v:=.agg (aC ag () () () () 8)) (by simp[results,results67,asAddr,Act.put,de (setRow_heap z2 X _ (aC ag () () () () 8) _ _ H2.out.x)]) rfl ?_;have hres:RES=bA 8:=by
   rw[<- uh HR];unfold bn;rw[if_pos HOK.out,if_pos (by omega)]
  rw[hres];exact bE (am H2.out.b hXw _) 8
 by_cases hs1:e.st=1
 .rw [hs1]at c12
  go_wp2_with (first
   | (refine wpList_buildTo rfl 74 _ rfl (some 32) rfl (aC ag () () () () 8) (by as_aux_lemma=>kernel_rfl) ?_)
    | (refine wpList_store_rowTo rfl 74 (.tmp 6) (.tmp 32) rfl rfl X (aC ag () () () () 8) rfl rfl 74 k_ H2.out.x aw rfl (aG _ _ _ _ _ _ _ _ _ _ _ _ _ _) ?_))
  refine bodyPost_ret (v:=.agg (aC ag () () () () 8)) (by simp[results,results67,asAddr,Act.put,de (setRow_heap z2 X _ (aC ag () () () () 8) _ _ H2.out.x)]) rfl ?_;have hres:RES=bA 8:=by
   rw[<- uh HR];unfold bn;rw[if_pos HOK.out,if_pos (by omega)]
  rw[hres];exact bE (am H2.out.b hXw _) 8
 have hb0:(e.st==0)=false:=zL hs0;have hb1:(e.st==1)=false:=zL hs1;have HST:Hid (1<e.st):=aa (by have:=HF.out.2.1.1;omega);clear hs0 hs1
 go_wp2_with (first
  | (refine wpList_load_row rfl 32 (.tmp 3) rfl A rfl 32 (aA e (x1,n1,y1) (x2,n2,y2)) (0,0) _ H2.out.a underlying32 rfl aL ?_))
 refine(uh CW _ H2.out.b).mono ?_;rintro r z3⟨B,v1,v2,rfl,hL⟩;have HL:=aa hL;have hlow:=hL.low;have p0:=(hlow.cell (p:=(A+1,0)) (World.block_lt_of_cell? _ _ H2.out.pc.1)).trans H2.out.pc.1;have p1:=(hlow.cell (p:=(A+1,1)) (World.block_lt_of_cell? _ _ H2.out.pc.2.1)).trans H2.out.pc.2.1;have p2:=(hlow.cell (p:=(A+1,2)) (World.block_lt_of_cell? _ _ H2.out.pc.2.2)).trans H2.out.pc.2.2;have k31:=hL.cell (i:=31) rfl;have k32:=hL.cell (i:=32) rfl;have k33:=hL.cell (i:=33) rfl;have f31:=hL.frz 31;have f32:=hL.frz 32;have f33:=hL.frz 33;clear hL hlow CW c12;go_upto_region 7 with fail
 refine bb (fun z=>Lay 129 z2 z3 B (aU now p [] (0,[]) ai ai) ⟨e,F1,F2,[],[]⟩ v1 v2 ai ai z) (HL.out.cameP p.code p.id p.data) ?_;clear p0 p1 p2 k31 k32 k33 f31 f32 f33 HL;intro z4 hz4;have HL4:=aa hz4;have CK:=aa (xH hz4 HF.out.1 HOK.out.2 ((HV.out.2.2.2.below H2.out.b HV.out.2.2.2.lt).below hz4.low (Nat.lt_of_lt_of_le HV.out.2.2.2.lt H2.out.b.size)));clear hz4;go_wp2_with fail
 refine CK.out.mono ?_;rintro r z5⟨c',e',k,cd,rfl,hl,hok,herr⟩;have HL5:=aa hl;clear hl CK HL4;by_cases hcd:cd=0
 .subst hcd;obtain⟨hh,hk16,hfit,h6,h7,hst⟩:=hok rfl;have HH:=aa hh;have hE0:=mR z2 z3 B c' ⟨e',F1,F2,[],[]⟩ v1 v2 z5 HL5.out rfl rfl hfit k (im k) (gp hk16) (HV.out.1.below H2.out.b) (HV.out.2.1.below H2.out.b) (HV.out.2.2.1.below H2.out.b) (aO (gp hk16) (by show 0<=e'.st;rw[hst];exact HF.out.2.1.1) (by show e'.st<=9;rw[hst];exact HF.out.2.1.2) h6 h7).1 (aO (c:=c') (gp hk16) (by show 0<=e'.st;rw[hst];exact HF.out.2.1.1) (by show e'.st<=9;rw[hst];exact HF.out.2.1.2) h6 h7).2;have CE:=aa hE0;clear hE0 hok herr hh h6 h7 hst hfit HL5 hk16;have hres:RES=bj c' ⟨e',F1,F2,[],[]⟩ (im k):=by
   rw[<- uh HR];unfold bn;rw[if_pos HOK.out,if_neg (by have:=uh HST;omega)];exact uh HH
  have HRS:=aa hres;clear hres HH;generalize bj c' ⟨e',F1,F2,[],[]⟩ (im k)=EV at*;go_wp2_with fail
  refine CE.out.mono ?_;rintro r z6 hE;obtain⟨cs,rfl,hsz,hall,hX2,hEv⟩:=hE.out H2.out.b H2.out.x hXw;have HE2:=aa (zA hX2 hEv);clear hE hX2 hEv CE
  go_wp2_with (first
   | (refine wpList_store_rowTo rfl 74 (.tmp 6) (.tmp 51) rfl rfl X cs rfl rfl 74 k_ HE2.out.1 (by rw[hsz];exact aw) (by rw[hsz];rfl) hall ?_))
  refine bodyPost_ret (v:=.agg cs) (by simp[results,results67,asAddr,Act.put,de (setRow_heap z6 X _ cs _ _ HE2.out.1) hsz]) rfl ?_;rw[uh HRS];exact HE2.out.2
 .have hcb:(cd != 0)=true:=by simpa using hcd
  have hh:=herr hcd;have HH:=aa hh;have hb5:Below w w z5:=H2.out.b.trans (HL5.out.low.mono H2.out.b.size);have hX5:z5.heap[X]?=some (.cells k_ 74):=(HL5.out.low.block _ (ge.1 H2.out.x).1).trans H2.out.x;have HX5:=aa (zA hX5 hb5);clear hh herr hok hcd hb5 hX5 HL5
  go_wp2_with (first
   | (refine wpList_buildTo rfl 74 _ rfl (some 48) rfl (aC ag () () () () cd) (by as_aux_lemma=>kernel_rfl) ?_)
   | (refine wpList_store_rowTo rfl 74 (.tmp 6) (.tmp 48) rfl rfl X (aC ag () () () () cd) rfl rfl 74 k_ HX5.out.1 aw rfl (aG _ _ _ _ _ _ _ _ _ _ _ _ _ _) ?_))
  refine bodyPost_ret (v:=.agg (aC ag () () () () cd)) (by simp[results,results67,asAddr,Act.put,de (setRow_heap z5 X _ (aC ag () () () () cd) _ _ HX5.out.1)]) rfl ?_;have hres:RES=bA cd:=by
   rw[<- uh HR];unfold bn;rw[if_pos HOK.out,if_neg (by have:=uh HST;omega)];exact uh HH
  rw[hres];exact bE (am HX5.out.2 hXw _) cd
def cO(e:En):En:={e with m2:=e.m1,a2:=e.a1,g2:=e.g1,p2:=e.p1,c2:=e.c1,d2:=e.d1,fl:=0}
def kC(e:En)(F1 F2:List Op.Opt)(t:ByteArray)(now:Int):EO :=
 if 8000<t.size then bA 2
 else if(dJ e F1 F2&&bh 0 1000000000 now)=true then
  if t=⟨#[85,112]⟩then bj (bY now) ⟨cO e,F1,F2,[],[]⟩ t
  else if t=⟨#[68,111,119,110]⟩\/t=⟨#[79,112,101,110]⟩\/t=⟨#[67,108,111,115,101]⟩then bj (bY now) ⟨e,F1,F2,[],[]⟩ t
  else bA 6
 else bA 1
theorem Fit.fresh{n:Nat}{e:En}{F1 F2:List Op.Opt}{sn:List Op.Pk}{tl:List ByteArray}(h:Fit n c ⟨e,F1,F2,sn,tl⟩):Fit n c ⟨cO e,F1,F2,sn,tl⟩ :=
 ⟨h.cf,h.cf,h.id,h.tr,⟨show(0:Int)<=0 by decide,show(0:Int)<=3 by decide⟩,h.now,h.f1,h.f2,h.sn,h.tl,h.hd,h.ao,h.cd,h.du⟩
theorem fP{t u:ByteArray}(h:t.toList=u.data.toList):t=u:=by
 rw[ByteArray.toList_eq]at h;obtain⟨⟨l⟩⟩:=t;obtain⟨⟨m⟩⟩:=u;have:l=m:=h
 rw[this]
theorem Lay.fresh{T:TypeId}(h:Lay T w0 w1 B c s v1 v2 vs vt q):Lay T w0 w1 B c {s with e:={s.e with m2:=s.e.m1,a2:=s.e.a1,g2:=s.e.g1,p2:=s.e.p1,c2:=s.e.c1,d2:=s.e.d1}} v1 v2 vs vt ((((((q.setCell (B,6) s.e.m1).setCell (B,7) s.e.a1).setCell (B,8) s.e.g1).setCell (B,9) s.e.p1).setCell (B,10) s.e.c1).setCell (B,11) s.e.d1) :=
 (((((h.setRaw 6 _ {s.e with m2:=s.e.m1} rfl).setRaw 7 _ {s.e with m2:=s.e.m1,a2:=s.e.a1} rfl).setRaw 8 _ {s.e with m2:=s.e.m1,a2:=s.e.a1,g2:=s.e.g1} rfl).setRaw 9 _ {s.e with m2:=s.e.m1,a2:=s.e.a1,g2:=s.e.g1,p2:=s.e.p1} rfl).setRaw 10 _ {s.e with m2:=s.e.m1,a2:=s.e.a1,g2:=s.e.g1,p2:=s.e.p1,c2:=s.e.c1} rfl).setRaw 11 _ {s.e with m2:=s.e.m1,a2:=s.e.a1,g2:=s.e.g1,p2:=s.e.p1,c2:=s.e.c1,d2:=s.e.d1} rfl
theorem u7(h:Lay 129 w0 w1 B c s v1 v2 vs vt q):Calls prog 86 #[(B,0)] q fun r q'=>r=.returned (.tuple #[])/\Lay 129 w0 w1 B c {s with e:=cO s.e} v1 v2 vs vt q':=by
 have b0:=h.cell (i:=0) rfl;have b1:=h.cell (i:=1) rfl;have b2:=h.cell (i:=2) rfl;have b3:=h.cell (i:=3) rfl;have b4:=h.cell (i:=4) rfl;have b5:=h.cell (i:=5) rfl;have c6:=(h).cell (i:=6) rfl;have f6:=(h).frz 6;have t6:=(h).setRaw 6 s.e.m1 {s.e with m2:=s.e.m1} rfl;have c7:=(t6).cell (i:=7) rfl;have f7:=(t6).frz 7;have t7:=(t6).setRaw 7 s.e.a1 {s.e with m2:=s.e.m1,a2:=s.e.a1} rfl;have c8:=(t7).cell (i:=8) rfl;have f8:=(t7).frz 8;have t8:=(t7).setRaw 8 s.e.g1 {s.e with m2:=s.e.m1,a2:=s.e.a1,g2:=s.e.g1} rfl;have c9:=(t8).cell (i:=9) rfl;have f9:=(t8).frz 9;have t9:=(t8).setRaw 9 s.e.p1 {s.e with m2:=s.e.m1,a2:=s.e.a1,g2:=s.e.g1,p2:=s.e.p1} rfl;have c10:=(t9).cell (i:=10) rfl;have f10:=(t9).frz 10;have t10:=(t9).setRaw 10 s.e.c1 {s.e with m2:=s.e.m1,a2:=s.e.a1,g2:=s.e.g1,p2:=s.e.p1,c2:=s.e.c1} rfl;have c11:=(t10).cell (i:=11) rfl;have f11:=(t10).frz 11;have t11:=(t10).setRaw 11 s.e.d1 {s.e with m2:=s.e.m1,a2:=s.e.a1,g2:=s.e.g1,p2:=s.e.p1,c2:=s.e.c1,d2:=s.e.d1} rfl;have c16:=(t11).cell (i:=16) rfl;have f16:=(t11).frz 16;have t16:=(t11).setRaw 16 (0:Int) (cO s.e) rfl;have HL:=aa t16;clear h t6 t7 t8 t9 t10 t11 t16;dsimp only at c7 c8 c9 c10 c11 c16;go_enter func86,ntmps86
 go_wp2
 exact Great.bodyPost_end0 rfl rfl ⟨rfl,uh HL⟩
theorem ET(e:En)(x1 x2:Option Addr)(y1 y2:Nat)(F1 F2:List Op.Opt)(t:ByteArray)(now:Int)(w:World)(l1:F1.length<=1048576)(l2:F2.length<=1048576)(h1:HoldsO w (x1,F1.length,y1) F1)(h2:HoldsO w (x2,F2.length,y2) F2):Calls prog 29 #[.agg (aA e (x1,F1.length,y1) (x2,F2.length,y2)),t,now] w fun r w'=>EvA w (kC e F1 F2 t now) r w':=by
 have CB:=aa fun W (hb:Below w w W)=>mU e x1 x2 y1 y2 F1 F2 now W l1 l2 (h1.below hb rfl) (h2.below hb rfl)
 clear h1 h2;have HF:=aa (Aw (e:=e) (F1:=F1) (F2:=F2) (now:=now));obtain⟨_,hA,hX,hb⟩:=br w (.cells (aA e (x1,F1.length,y1) (x2,F2.length,y2)) 32) (.cells k_ 74);obtain⟨A,eA⟩ := ex w.heap.size;have hXw:w.heap.size<=A+1:=by omega
 rw[eA]at hA hX;have H0:=aa (zA hA (zA hX hb));clear hA hX hb;unfold kC;generalize (dJ e F1 F2&&bh 0 1000000000 now)=ok at*;obtain⟨n1,e1⟩:∃n,F1.length=n:=⟨_,rfl⟩;obtain⟨n2,e2⟩:∃n,F2.length=n:=⟨_,rfl⟩;rw[e1]at CB H0|-;rw[e2]at CB H0|-;go_enter func29,ntmps29
 go_upto_region 1 with fail
 refine bb (fun z=>z.heap[A]?=some (.cells (aA e (x1,n1,y1) (x2,n2,y2)) 32)/\z.heap[A+1]?=some (.cells k_ 74)/\Below w w z) ?_ ?_
 .exact uh H0
 clear H0;rintro z hz;have HZ:=aa hz;clear hz;by_cases hts:8000<t.size
 .have ht2:(8000:Int)<(t.size:Int):=by omega
  go_wp2_with (first
   | (refine wpList_buildTo rfl 74 _ rfl (some 12) rfl (aC ag () () () () 2) (by as_aux_lemma=>kernel_rfl) ?_)
   | (refine wpList_store_rowTo rfl 74 (.tmp 6) (.tmp 12) rfl rfl (A+1) (aC ag () () () () 2) rfl rfl 74 k_ HZ.out.2.1 aw rfl (aG _ _ _ _ _ _ _ _ _ _ _ _ _ _) ?_))
  refine bodyPost_ret (v:=.agg (aC ag () () () () 2)) (by simp[results,results29,asAddr,de (setRow_heap z (A+1) _ (aC ag () () () () 2) _ _ HZ.out.2.1)]) rfl ?_;exact bE (am HZ.out.2.2 hXw _) 2
 have ht2:¬((8000:Int)<(t.size:Int)):=by omega
 go_wp2_with (first
  | (refine wpList_load_row rfl 32 (.tmp 3) rfl A rfl 32 (aA e (x1,n1,y1) (x2,n2,y2)) (0,0) _ HZ.out.1 underlying32 rfl aL ?_))
 refine(uh CB _ HZ.out.2.2).mono ?_;rintro r z1⟨B,v1,v2,rfl,hL⟩;have hl:=hL.low;have hA1:=(hl.block A (ge.1 HZ.out.1).1).trans HZ.out.1;have hX1:=(hl.block (A+1) (ge.1 HZ.out.2.1).1).trans HZ.out.2.1;have H1:=aa (zA hA1 (zA hX1 (HZ.out.2.2.trans (hl.mono HZ.out.2.2.size))));have HL:=aa hL;clear hL hl hA1 hX1 CB;cases ok
 .go_wp2_with (first
   | (refine wpList_buildTo rfl 74 _ rfl (some 21) rfl (aC ag () () () () 1) (by as_aux_lemma=>kernel_rfl) ?_)
   | (refine wpList_store_rowTo rfl 74 (.tmp 6) (.tmp 21) rfl rfl (A+1) (aC ag () () () () 1) rfl rfl 74 k_ H1.out.2.1 aw rfl (aG _ _ _ _ _ _ _ _ _ _ _ _ _ _) ?_))
  refine bodyPost_ret (v:=.agg (aC ag () () () () 1)) (by simp[results,results29,asAddr,de (setRow_heap z1 (A+1) _ (aC ag () () () () 1) _ _ H1.out.2.1)]) rfl ?_;exact bE (am H1.out.2.2 hXw _) 1
 .replace HF:=aa (uh HF rfl);by_cases hNUp:t=⟨#[85,112]⟩
  .subst hNUp;have b0:=HL.out.cell (i:=0) rfl;have b1:=HL.out.cell (i:=1) rfl;have b2:=HL.out.cell (i:=2) rfl;have b3:=HL.out.cell (i:=3) rfl;have b4:=HL.out.cell (i:=4) rfl;have b5:=HL.out.cell (i:=5) rfl;have c6:=HL.out.cell (i:=6) rfl;have f6:=HL.out.frz 6;have t6:=HL.out.setRaw 6 e.m1 {e with m2:=e.m1} rfl;have c7:=(t6).cell (i:=7) rfl;have f7:=(t6).frz 7;have t7:=(t6).setRaw 7 e.a1 {e with m2:=e.m1,a2:=e.a1} rfl;have c8:=(t7).cell (i:=8) rfl;have f8:=(t7).frz 8;have t8:=(t7).setRaw 8 e.g1 {e with m2:=e.m1,a2:=e.a1,g2:=e.g1} rfl;have c9:=(t8).cell (i:=9) rfl;have f9:=(t8).frz 9;have t9:=(t8).setRaw 9 e.p1 {e with m2:=e.m1,a2:=e.a1,g2:=e.g1,p2:=e.p1} rfl;have c10:=(t9).cell (i:=10) rfl;have f10:=(t9).frz 10;have t10:=(t9).setRaw 10 e.c1 {e with m2:=e.m1,a2:=e.a1,g2:=e.g1,p2:=e.p1,c2:=e.c1} rfl;have c11:=(t10).cell (i:=11) rfl;have f11:=(t10).frz 11;have t11:=(t10).setRaw 11 e.d1 {e with m2:=e.m1,a2:=e.a1,g2:=e.g1,p2:=e.p1,c2:=e.c1,d2:=e.d1} rfl;have c16:=(t11).cell (i:=16) rfl;have f16:=(t11).frz 16;have t16:=(t11).setRaw 16 (0:Int) (cO e) rfl;have CE:=aa (cR z z1 B (bY now) ⟨cO e,F1,F2,[],[]⟩ v1 v2 _ t16 rfl rfl HF.out.1.fresh ⟨#[85,112]⟩ (by decide) (fun a ha=>jT _ a ((dh (i:=0) (by decide) rfl HF.out.2.1.1 HF.out.2.1.2).1 a ha)) (dh (i:=0) (by decide) rfl HF.out.2.1.1 HF.out.2.1.2).2);clear t6 t7 t8 t9 t10 t11 t16;dsimp only at b0 b1 b2 b3 b4 b5 c6 c7 c8 c9 c10 c11 c16;go_wp2_with fail
   refine CE.out.mono ?_;rintro r z9 hE;clear CE;obtain⟨cs,rfl,hsz,hall,hX2,hEv⟩:=hE.out HZ.out.2.2 HZ.out.2.1 hXw;have HE2:=aa (zA hX2 hEv);clear hE hX2 hEv
   go_wp2_with (first
    | (refine wpList_store_rowTo rfl 74 (.tmp 6) (.tmp 54) rfl rfl (A+1) cs rfl rfl 74 k_ HE2.out.1 (by rw[hsz];exact aw) (by rw[hsz];rfl) hall ?_))
   refine bodyPost_ret (v:=.agg cs) (by simp[results,results29,asAddr,de (setRow_heap z9 (A+1) _ cs _ _ HE2.out.1) hsz]) rfl ?_;exact HE2.out.2
  by_cases hNDown:t=⟨#[68,111,119,110]⟩
  .subst hNDown;have CE:=aa (cR z z1 B (bY now) ⟨e,F1,F2,[],[]⟩ v1 v2 z1 HL.out rfl rfl HF.out.1 ⟨#[68,111,119,110]⟩ (by decide) (fun a ha=>jT _ a ((dh (i:=1) (by decide) rfl HF.out.2.1.1 HF.out.2.1.2).1 a ha)) (dh (i:=1) (by decide) rfl HF.out.2.1.1 HF.out.2.1.2).2);go_wp2_with fail
   refine CE.out.mono ?_;rintro r z9 hE;clear CE;obtain⟨cs,rfl,hsz,hall,hX2,hEv⟩:=hE.out HZ.out.2.2 HZ.out.2.1 hXw;have HE2:=aa (zA hX2 hEv);clear hE hX2 hEv
   go_wp2_with (first
    | (refine wpList_store_rowTo rfl 74 (.tmp 6) (.tmp 54) rfl rfl (A+1) cs rfl rfl 74 k_ HE2.out.1 (by rw[hsz];exact aw) (by rw[hsz];rfl) hall ?_))
   refine bodyPost_ret (v:=.agg cs) (by simp[results,results29,asAddr,de (setRow_heap z9 (A+1) _ cs _ _ HE2.out.1) hsz]) rfl ?_;exact HE2.out.2
  by_cases hNOpen:t=⟨#[79,112,101,110]⟩
  .subst hNOpen;have CE:=aa (cR z z1 B (bY now) ⟨e,F1,F2,[],[]⟩ v1 v2 z1 HL.out rfl rfl HF.out.1 ⟨#[79,112,101,110]⟩ (by decide) (fun a ha=>jT _ a ((dh (i:=2) (by decide) rfl HF.out.2.1.1 HF.out.2.1.2).1 a ha)) (dh (i:=2) (by decide) rfl HF.out.2.1.1 HF.out.2.1.2).2);go_wp2_with fail
   refine CE.out.mono ?_;rintro r z9 hE;clear CE;obtain⟨cs,rfl,hsz,hall,hX2,hEv⟩:=hE.out HZ.out.2.2 HZ.out.2.1 hXw;have HE2:=aa (zA hX2 hEv);clear hE hX2 hEv
   go_wp2_with (first
    | (refine wpList_store_rowTo rfl 74 (.tmp 6) (.tmp 54) rfl rfl (A+1) cs rfl rfl 74 k_ HE2.out.1 (by rw[hsz];exact aw) (by rw[hsz];rfl) hall ?_))
   refine bodyPost_ret (v:=.agg cs) (by simp[results,results29,asAddr,de (setRow_heap z9 (A+1) _ cs _ _ HE2.out.1) hsz]) rfl ?_;exact HE2.out.2
  by_cases hNClose:t=⟨#[67,108,111,115,101]⟩
  .subst hNClose;have CE:=aa (cR z z1 B (bY now) ⟨e,F1,F2,[],[]⟩ v1 v2 z1 HL.out rfl rfl HF.out.1 ⟨#[67,108,111,115,101]⟩ (by decide) (fun a ha=>jT _ a ((dh (i:=3) (by decide) rfl HF.out.2.1.1 HF.out.2.1.2).1 a ha)) (dh (i:=3) (by decide) rfl HF.out.2.1.1 HF.out.2.1.2).2);go_wp2_with fail
   refine CE.out.mono ?_;rintro r z9 hE;clear CE;obtain⟨cs,rfl,hsz,hall,hX2,hEv⟩:=hE.out HZ.out.2.2 HZ.out.2.1 hXw;have HE2:=aa (zA hX2 hEv);clear hE hX2 hEv
   go_wp2_with (first
    | (refine wpList_store_rowTo rfl 74 (.tmp 6) (.tmp 54) rfl rfl (A+1) cs rfl rfl 74 k_ HE2.out.1 (by rw[hsz];exact aw) (by rw[hsz];rfl) hall ?_))
   refine bodyPost_ret (v:=.agg cs) (by simp[results,results29,asAddr,de (setRow_heap z9 (A+1) _ cs _ _ HE2.out.1) hsz]) rfl ?_;exact HE2.out.2
  have nlUp:(t.toList==[85,112])=false:=zL fun h=>hNUp (fP h)
  have nlDown:(t.toList==[68,111,119,110])=false:=zL fun h=>hNDown (fP h)
  have nlOpen:(t.toList==[79,112,101,110])=false:=zL fun h=>hNOpen (fP h)
  have nlClose:(t.toList==[67,108,111,115,101])=false:=zL fun h=>hNClose (fP h)
  go_wp2_with (first
   | (refine wpList_buildTo rfl 74 _ rfl (some 36) rfl (aC ag () () () () 6) (by as_aux_lemma=>kernel_rfl) ?_)
   | (refine wpList_store_rowTo rfl 74 (.tmp 6) (.tmp 36) rfl rfl (A+1) (aC ag () () () () 6) rfl rfl 74 k_ H1.out.2.1 aw rfl (aG _ _ _ _ _ _ _ _ _ _ _ _ _ _) ?_))
  refine bodyPost_ret (v:=.agg (aC ag () () () () 6)) (by simp[results,results29,asAddr,de (setRow_heap z1 (A+1) _ (aC ag () () () () 6) _ _ H1.out.2.1)]) rfl ?_;exact bE (am H1.out.2.2 hXw _) 6
theorem iE(i:Nat)(t:ByteArray)(w:World)(ht:kF[i]?=some t)(hT:EvT w):Calls prog 84 #[t] w fun e w'=>e=.returned (.tuple #[i,true])/\w'=w:=by
 refine(oZ t w hT).mono ?_;rintro e w'⟨hw,⟨j,hj,he⟩ |⟨hn,_⟩⟩
 .have:i=j:=by
   have hd:((List.range 16).all fun a=>(List.range 16).all fun b=>decide (a=b) || !((kF.getD a ⟨#[]⟩).data.toList==(kF.getD b ⟨#[]⟩).data.toList))=true:=by kernel_rfl
   have hi:i<16:=(List.getElem?_eq_some_iff.1 ht).1;have hj':j<16:=(List.getElem?_eq_some_iff.1 hj).1;have h:=List.all_eq_true.1 (List.all_eq_true.1 hd i (List.mem_range.2 hi)) j (List.mem_range.2 hj');rw[List.getD_eq_getElem?_getD,List.getD_eq_getElem?_getD,ht,hj]at h;simpa using h
  subst this;exact⟨he,hw⟩
 .exact absurd ht (hn i)
theorem D9(t:ByteArray)(w:World)(hT:EvT w)(h0:∀i:Nat,i<4->kF[i]?≠some t):Calls prog 84 #[t] w fun e w'=>w'=w/\((∃i:Nat,3<i/\e=.returned (.tuple #[i,true]))\/e=.returned (.tuple #[(0:Int),false])):=by
 refine(oZ t w hT).mono ?_;rintro e w'⟨hw,⟨j,hj,he⟩ |⟨_,he⟩⟩
 .refine ⟨hw,Or.inl ⟨j,?_,he⟩⟩;by_cases h4:j<4
  .exact absurd hj (h0 j h4)
  .omega
 .exact ⟨hw,Or.inr he⟩
theorem u_(e:En)(x1 x2:Option Addr)(y1 y2:Nat)(F1 F2:List Op.Opt)(t:ByteArray)(now:Int)(w:World)(l1:F1.length<=1048576)(l2:F2.length<=1048576)(h1:HoldsO w (x1,F1.length,y1) F1)(h2:HoldsO w (x2,F2.length,y2) F2)(hEv:EvT w)(hNx:NxT w)(hSp:SpT w):Calls prog 63 #[.agg (aA e (x1,F1.length,y1) (x2,F2.length,y2)),t,now] w fun r w'=>EvA w (kC e F1 F2 t now) r w':=by
 have CR:=aa fun W (hb:Below w w W)=>eG e x1 x2 y1 y2 F1 F2 W (by unfold maxLen;omega) (by unfold maxLen;omega) (h1.below hb rfl) (h2.below hb rfl)
 have CW:=aa fun W (hb:Below w w W) (r:Op.right F1=true/\Op.right F2=true)=>qK e x1 x2 y1 y2 F1 F2 now W r.1 r.2 (h1.below hb rfl) (h2.below hb rfl)
 have CT:=aa fun W=>qB now W
 clear h1 h2;have HF:=aa (Aw (e:=e) (F1:=F1) (F2:=F2) (now:=now));have HG:=aa (ez (e:=e) (F1:=F1) (F2:=F2));obtain⟨_,hA,hX,hb⟩:=br w (.cells (aA e (x1,F1.length,y1) (x2,F2.length,y2)) 32) (.cells k_ 74);obtain⟨A,eA⟩ := ex w.heap.size;have hXw:w.heap.size<=A+1:=by omega
 rw[eA]at hA hX;have H0:=aa (zA hA (zA hX hb));clear hA hX hb;unfold kC;generalize dJ e F1 F2=ok1 at*;generalize bh 0 1000000000 now=ok2 at*;obtain⟨n1,e1⟩:∃n,F1.length=n:=⟨_,rfl⟩;obtain⟨n2,e2⟩:∃n,F2.length=n:=⟨_,rfl⟩;rw[e1]at CR CW H0|-;rw[e2]at CR CW H0|-;go_enter func63,ntmps63
 go_upto_region 1 with fail
 refine bb (fun z=>z.heap[A]?=some (.cells (aA e (x1,n1,y1) (x2,n2,y2)) 32)/\z.heap[A+1]?=some (.cells k_ 74)/\Below w w z) ?_ ?_
 .exact uh H0
 clear H0;rintro z hz;have HZ:=aa hz;clear hz;by_cases hts:8000<t.size
 .have ht2:(8000:Int)<(t.size:Int):=by omega
  go_wp2_with (first
   | (refine wpList_buildTo rfl 74 _ rfl (some 13) rfl (aC ag () () () () 2) (by as_aux_lemma=>kernel_rfl) ?_)
   | (refine wpList_store_rowTo rfl 74 (.tmp 6) (.tmp 13) rfl rfl (A+1) (aC ag () () () () 2) rfl rfl 74 k_ HZ.out.2.1 aw rfl (aG _ _ _ _ _ _ _ _ _ _ _ _ _ _) ?_))
  refine bodyPost_ret (v:=.agg (aC ag () () () () 2)) (by simp[results,results63,asAddr,de (setRow_heap z (A+1) _ (aC ag () () () () 2) _ _ HZ.out.2.1)]) rfl ?_;exact bE (am HZ.out.2.2 hXw _) 2
 have ht2:¬((8000:Int)<(t.size:Int)):=by omega
 go_wp2_with (first
  | (refine wpList_load_row rfl 32 (.tmp 3) rfl A rfl 32 (aA e (x1,n1,y1) (x2,n2,y2)) (0,0) _ HZ.out.1 underlying32 rfl aL ?_))
 refine(uh CR _ HZ.out.2.2).mono ?_;rintro r z1⟨rfl,hb1⟩;have hA1:=(hb1.block A (ge.1 HZ.out.1).1).trans HZ.out.1;have hX1:=(hb1.block (A+1) (ge.1 HZ.out.2.1).1).trans HZ.out.2.1;have H1:=aa (zA hA1 (zA hX1 (HZ.out.2.2.trans (hb1.mono HZ.out.2.2.size))));clear hA1 hX1 hb1 CR HZ;cases ok1
 .go_wp2_with (first
   | (go_at_call 83;refine cq (uh CT _) ?_)
   | (refine wpList_buildTo rfl 74 _ rfl (some 22) rfl (aC ag () () () () 1) (by as_aux_lemma=>kernel_rfl) ?_)
   | (refine wpList_store_rowTo rfl 74 (.tmp 6) (.tmp 22) rfl rfl (A+1) (aC ag () () () () 1) rfl rfl 74 k_ H1.out.2.1 aw rfl (aG _ _ _ _ _ _ _ _ _ _ _ _ _ _) ?_))
  refine bodyPost_ret (v:=.agg (aC ag () () () () 1)) (by simp[results,results63,asAddr,de (setRow_heap z1 (A+1) _ (aC ag () () () () 1) _ _ H1.out.2.1)]) rfl ?_;exact bE (am H1.out.2.2 hXw _) 1
 .cases ok2
  .go_wp2_with (first
    | (go_at_call 83;refine cq (uh CT _) ?_)
    | (refine wpList_buildTo rfl 74 _ rfl (some 22) rfl (aC ag () () () () 1) (by as_aux_lemma=>kernel_rfl) ?_)
    | (refine wpList_store_rowTo rfl 74 (.tmp 6) (.tmp 22) rfl rfl (A+1) (aC ag () () () () 1) rfl rfl 74 k_ H1.out.2.1 aw rfl (aG _ _ _ _ _ _ _ _ _ _ _ _ _ _) ?_))
   refine bodyPost_ret (v:=.agg (aC ag () () () () 1)) (by simp[results,results63,asAddr,de (setRow_heap z1 (A+1) _ (aC ag () () () () 1) _ _ H1.out.2.1)]) rfl ?_;exact bE (am H1.out.2.2 hXw _) 1
  .replace HF:=aa (uh HF rfl);replace CW:=aa fun W hb=>uh CW W hb (uh HG rfl)
   by_cases hNUp:t=⟨#[85,112]⟩
   .subst hNUp;have CN:=aa fun W (hW:EvT W)=>iE 0 ⟨#[85,112]⟩ W rfl hW
    go_wp2_with (first
     | (go_at_call 83;refine cq (uh CT _) ?_)
     | (go_at_call 84;refine cq (uh CN _ (hEv.below H1.out.2.2)) ?_)
     | (refine wpList_load_row rfl 32 (.tmp 3) rfl A rfl 32 (aA e (x1,n1,y1) (x2,n2,y2)) (0,0) _ H1.out.1 underlying32 rfl aL ?_))
    refine(uh CW _ H1.out.2.2).mono ?_;rintro r z2⟨B,v1,v2,rfl,hL⟩;have HL:=aa hL;clear hL;go_wp2_with fail
    refine(u7 HL.out).mono ?_;rintro r z3⟨rfl,hL3⟩;have CE:=aa (fL z1 z2 B (bY now) ⟨cO e,F1,F2,[],[]⟩ v1 v2 z3 hL3 rfl rfl HF.out.1.fresh 0 ⟨#[85,112]⟩ rfl (hEv.below H1.out.2.2) (hNx.below H1.out.2.2) (hSp.below H1.out.2.2) (dh (i:=0) (by decide) rfl HF.out.2.1.1 HF.out.2.1.2).1 (dh (i:=0) (by decide) rfl HF.out.2.1.1 HF.out.2.1.2).2);clear hL3;go_wp2_with fail
    refine CE.out.mono ?_;rintro r z9 hE;clear CE;obtain⟨cs,rfl,hsz,hall,hX2,hEv⟩:=hE.out H1.out.2.2 H1.out.2.1 hXw;have HE2:=aa (zA hX2 hEv);clear hE hX2 hEv
    go_wp2_with (first
     | (refine wpList_store_rowTo rfl 74 (.tmp 6) (.tmp 46) rfl rfl (A+1) cs rfl rfl 74 k_ HE2.out.1 (by rw[hsz];exact aw) (by rw[hsz];rfl) hall ?_))
    refine bodyPost_ret (v:=.agg cs) (by simp[results,results63,asAddr,de (setRow_heap z9 (A+1) _ cs _ _ HE2.out.1) hsz]) rfl ?_;exact HE2.out.2
   by_cases hNDown:t=⟨#[68,111,119,110]⟩
   .subst hNDown;have CN:=aa fun W (hW:EvT W)=>iE 1 ⟨#[68,111,119,110]⟩ W rfl hW
    go_wp2_with (first
     | (go_at_call 83;refine cq (uh CT _) ?_)
     | (go_at_call 84;refine cq (uh CN _ (hEv.below H1.out.2.2)) ?_)
     | (refine wpList_load_row rfl 32 (.tmp 3) rfl A rfl 32 (aA e (x1,n1,y1) (x2,n2,y2)) (0,0) _ H1.out.1 underlying32 rfl aL ?_))
    refine(uh CW _ H1.out.2.2).mono ?_;rintro r z2⟨B,v1,v2,rfl,hL⟩;have HL:=aa hL;clear hL;have CE:=aa (fL z1 z2 B (bY now) ⟨e,F1,F2,[],[]⟩ v1 v2 z2 HL.out rfl rfl HF.out.1 1 ⟨#[68,111,119,110]⟩ rfl (hEv.below H1.out.2.2) (hNx.below H1.out.2.2) (hSp.below H1.out.2.2) (dh (i:=1) (by decide) rfl HF.out.2.1.1 HF.out.2.1.2).1 (dh (i:=1) (by decide) rfl HF.out.2.1.1 HF.out.2.1.2).2);go_wp2_with fail
    refine CE.out.mono ?_;rintro r z9 hE;clear CE;obtain⟨cs,rfl,hsz,hall,hX2,hEv⟩:=hE.out H1.out.2.2 H1.out.2.1 hXw;have HE2:=aa (zA hX2 hEv);clear hE hX2 hEv
    go_wp2_with (first
     | (refine wpList_store_rowTo rfl 74 (.tmp 6) (.tmp 46) rfl rfl (A+1) cs rfl rfl 74 k_ HE2.out.1 (by rw[hsz];exact aw) (by rw[hsz];rfl) hall ?_))
    refine bodyPost_ret (v:=.agg cs) (by simp[results,results63,asAddr,de (setRow_heap z9 (A+1) _ cs _ _ HE2.out.1) hsz]) rfl ?_;exact HE2.out.2
   by_cases hNOpen:t=⟨#[79,112,101,110]⟩
   .subst hNOpen;have CN:=aa fun W (hW:EvT W)=>iE 2 ⟨#[79,112,101,110]⟩ W rfl hW
    go_wp2_with (first
     | (go_at_call 83;refine cq (uh CT _) ?_)
     | (go_at_call 84;refine cq (uh CN _ (hEv.below H1.out.2.2)) ?_)
     | (refine wpList_load_row rfl 32 (.tmp 3) rfl A rfl 32 (aA e (x1,n1,y1) (x2,n2,y2)) (0,0) _ H1.out.1 underlying32 rfl aL ?_))
    refine(uh CW _ H1.out.2.2).mono ?_;rintro r z2⟨B,v1,v2,rfl,hL⟩;have HL:=aa hL;clear hL;have CE:=aa (fL z1 z2 B (bY now) ⟨e,F1,F2,[],[]⟩ v1 v2 z2 HL.out rfl rfl HF.out.1 2 ⟨#[79,112,101,110]⟩ rfl (hEv.below H1.out.2.2) (hNx.below H1.out.2.2) (hSp.below H1.out.2.2) (dh (i:=2) (by decide) rfl HF.out.2.1.1 HF.out.2.1.2).1 (dh (i:=2) (by decide) rfl HF.out.2.1.1 HF.out.2.1.2).2);go_wp2_with fail
    refine CE.out.mono ?_;rintro r z9 hE;clear CE;obtain⟨cs,rfl,hsz,hall,hX2,hEv⟩:=hE.out H1.out.2.2 H1.out.2.1 hXw;have HE2:=aa (zA hX2 hEv);clear hE hX2 hEv
    go_wp2_with (first
     | (refine wpList_store_rowTo rfl 74 (.tmp 6) (.tmp 46) rfl rfl (A+1) cs rfl rfl 74 k_ HE2.out.1 (by rw[hsz];exact aw) (by rw[hsz];rfl) hall ?_))
    refine bodyPost_ret (v:=.agg cs) (by simp[results,results63,asAddr,de (setRow_heap z9 (A+1) _ cs _ _ HE2.out.1) hsz]) rfl ?_;exact HE2.out.2
   by_cases hNClose:t=⟨#[67,108,111,115,101]⟩
   .subst hNClose;have CN:=aa fun W (hW:EvT W)=>iE 3 ⟨#[67,108,111,115,101]⟩ W rfl hW
    go_wp2_with (first
     | (go_at_call 83;refine cq (uh CT _) ?_)
     | (go_at_call 84;refine cq (uh CN _ (hEv.below H1.out.2.2)) ?_)
     | (refine wpList_load_row rfl 32 (.tmp 3) rfl A rfl 32 (aA e (x1,n1,y1) (x2,n2,y2)) (0,0) _ H1.out.1 underlying32 rfl aL ?_))
    refine(uh CW _ H1.out.2.2).mono ?_;rintro r z2⟨B,v1,v2,rfl,hL⟩;have HL:=aa hL;clear hL;have CE:=aa (fL z1 z2 B (bY now) ⟨e,F1,F2,[],[]⟩ v1 v2 z2 HL.out rfl rfl HF.out.1 3 ⟨#[67,108,111,115,101]⟩ rfl (hEv.below H1.out.2.2) (hNx.below H1.out.2.2) (hSp.below H1.out.2.2) (dh (i:=3) (by decide) rfl HF.out.2.1.1 HF.out.2.1.2).1 (dh (i:=3) (by decide) rfl HF.out.2.1.1 HF.out.2.1.2).2);go_wp2_with fail
    refine CE.out.mono ?_;rintro r z9 hE;clear CE;obtain⟨cs,rfl,hsz,hall,hX2,hEv⟩:=hE.out H1.out.2.2 H1.out.2.1 hXw;have HE2:=aa (zA hX2 hEv);clear hE hX2 hEv
    go_wp2_with (first
     | (refine wpList_store_rowTo rfl 74 (.tmp 6) (.tmp 46) rfl rfl (A+1) cs rfl rfl 74 k_ HE2.out.1 (by rw[hsz];exact aw) (by rw[hsz];rfl) hall ?_))
    refine bodyPost_ret (v:=.agg cs) (by simp[results,results63,asAddr,de (setRow_heap z9 (A+1) _ cs _ _ HE2.out.1) hsz]) rfl ?_;exact HE2.out.2
   have h4:∀i:Nat,i<4->kF[i]?≠some t:=by
    intro i hi h;match i,hi with
    | 0,_=>exact hNUp (Option.some.inj h).symm
    | 1,_=>exact hNDown (Option.some.inj h).symm
    | 2,_=>exact hNOpen (Option.some.inj h).symm
    | 3,_=>exact hNClose (Option.some.inj h).symm
   have CN:=aa fun W (hW:EvT W)=>D9 t W hW h4
   go_wp2_with (first|(go_at_call 83;refine cq (uh CT _) ?_))
   refine(uh CN _ (hEv.below H1.out.2.2)).mono ?_;rintro r ws⟨hws,⟨i,hi,rfl⟩|rfl⟩
   .replace hws:=hws.symm;subst hws;have di:(3:Int)<(i:Int):=by omega
    go_wp2_with (first
     | (go_at_call 83;refine cq (uh CT _) ?_)
     | (refine wpList_buildTo rfl 74 _ rfl (some 34) rfl (aC ag () () () () 6) (by as_aux_lemma=>kernel_rfl) ?_)
     | (refine wpList_store_rowTo rfl 74 (.tmp 6) (.tmp 34) rfl rfl (A+1) (aC ag () () () () 6) rfl rfl 74 k_ H1.out.2.1 aw rfl (aG _ _ _ _ _ _ _ _ _ _ _ _ _ _) ?_))
    refine bodyPost_ret (v:=.agg (aC ag () () () () 6)) (by simp[results,results63,asAddr,de (setRow_heap z1 (A+1) _ (aC ag () () () () 6) _ _ H1.out.2.1)]) rfl ?_;exact bE (am H1.out.2.2 hXw _) 6
   .replace hws:=hws.symm;subst hws
    go_wp2_with (first
     | (go_at_call 83;refine cq (uh CT _) ?_)
     | (refine wpList_buildTo rfl 74 _ rfl (some 34) rfl (aC ag () () () () 6) (by as_aux_lemma=>kernel_rfl) ?_)
     | (refine wpList_store_rowTo rfl 74 (.tmp 6) (.tmp 34) rfl rfl (A+1) (aC ag () () () () 6) rfl rfl 74 k_ H1.out.2.1 aw rfl (aG _ _ _ _ _ _ _ _ _ _ _ _ _ _) ?_))
    refine bodyPost_ret (v:=.agg (aC ag () () () () 6)) (by simp[results,results63,asAddr,de (setRow_heap z1 (A+1) _ (aC ag () () () () 6) _ _ H1.out.2.1)]) rfl ?_;exact bE (am H1.out.2.2 hXw _) 6
theorem s_(e:En)(F1 F2:List Op.Opt)(t:ByteArray)(now:Int)(hl:∀k,EoB (bA k))(hv:∀(s:St)(t:ByteArray),Fit 0 (bY now) s->(bO s.e.st t).2.1.length<=30->EoB (bj (bY now) s t)):EoB (kC e F1 F2 t now):=by
 unfold kC;split
 .exact hl _
 split
 .rename_i h
  obtain⟨hf,hs,_⟩:=Aw h;split
  .rename_i ht
   subst ht;exact hv _ _ hf.fresh (dh (i:=0) (by decide) rfl hs.1 hs.2).2
  split
  .rename_i ht
   rcases ht with rfl|rfl|rfl
   .exact hv _ _ hf (dh (i:=1) (by decide) rfl hs.1 hs.2).2
   .exact hv _ _ hf (dh (i:=2) (by decide) rfl hs.1 hs.2).2
   .exact hv _ _ hf (dh (i:=3) (by decide) rfl hs.1 hs.2).2
  .exact hl _
 .exact hl _
end Go.Proofs.YtjdgiimfpkideaaGreatDoor
