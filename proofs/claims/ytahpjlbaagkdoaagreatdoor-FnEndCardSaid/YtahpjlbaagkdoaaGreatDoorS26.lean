/- HrQ CfW CfL -/
import Derived.Test.YtahpjlbaagkdoaaGreatDoorS25
set_option maxHeartbeats 8000000
set_option maxRecDepth 100000
set_option linter.unusedSimpArgs false
namespace Go.Proofs.YtahpjlbaagkdoaaGreatDoor
open Go.RowKit Go.Proofs.Tryz
theorem set2b_ot {W:World} {E k:Nat} {x0 x1:Value} (hk:k≠E):((W.setCell ⟨E,35,none⟩ x0).setCell ⟨E,36,none⟩ x1).heap[k]?=W.heap[k]? :=
 (Below.heap_setCell _ ⟨E,36,none⟩ _ _ hk).trans (Below.heap_setCell _ ⟨E,35,none⟩ _ _ hk)
theorem HoldsO.one {w:World} {v:Value} {F:List Op.Opt} (h:HoldsO w v F):v.oneCell'=true:=by
 obtain ⟨_,_,rfl⟩:=h.form;rfl
theorem iReqNo {w0 w1:World} {B:Nat} {c:Cx} {s:St} {v1 v2 vs vt:Value} {q:World} (h:Lay 83 w0 w1 B c s v1 v2 vs vt q) (hs:c.cd.size≤250) (hE:Et q) (h0:(oread c.cd).2≠0) :
  Calls prog 91 #[.pointer (some ⟨B,0,none⟩)] q fun r q'=>Lay 83 w0 w1 B c s v1 v2 vs vt q'∧r=.returned (.tuple #[.int .i64 0,.int .i64 (oread c.cd).2]):=by
 have CO:=hide (implOptsRead c.cd q (by unfold maxLen;omega) hE);have c33:=h.cell (i:=33) rfl;have HL:=hide h;clear h hE hs;generalize oread c.cd=OO at *;obtain ⟨L,cd⟩:=OO;dsimp only at h0 ⊢;generalize c.cd=t at *;have hb0:(cd != 0)=true:=by simpa using h0
 have hb1:(cd == 0)=false:=by simpa using h0
 clear h0;go_enter func91,ntmps91
 go_wp2_with fail
 refine (uh CO).mono ?_;rintro e z1 ⟨ad,cp,rfl,ho,hb⟩;dsimp only at ho;dsimp only;have E1:=hide ((uh HL).step hb);clear hb ho CO c33 HL;go_upto_region 2 with fail
 refine gen_world (fun z=>Lay 83 w0 w1 B c s v1 v2 vs vt z∧z.heap[z1.heap.size]?=some (.cells #[.slice ad L.length cp,.int .i64 cd] 172)) ?_ ?_
 ·exact ⟨(uh E1).step ((Below.refl z1.heap.size z1).alloc (Nat.le_refl _) _),heap_alloc_new z1 _⟩
 intro z2 hz2;generalize z1.heap.size=M at *;have E2:=hide hz2;obtain ⟨m0,m1⟩:=row2a hz2.2;clear hz2 E1;go_wp2_with fail
 go_quiet (fail)
 go_wp2
 refine bodyPost_ret (v:=.tuple #[.int .i64 0,.int .i64 cd]) (by simp [results,results91,go_sem]) rfl ⟨(uh E2).1.step (below_drewN (Below.refl _ _) _),rfl⟩
theorem iReqYes {w0 w1:World} {B:Nat} {c:Cx} {s:St} {v1 v2 vs vt:Value} {q:World} (h:Lay 83 w0 w1 B c s v1 v2 vs vt q) (hs:c.cd.size≤250) (hE:Et q) (h0:(oread c.cd).2=0) :
  Calls prog 91 #[.pointer (some ⟨B,0,none⟩)] q fun r q'=>∃ vh va,Lay 83 w0 w1 B { c with hd:=(oread c.cd).1,vh:=vh,ac:=(ansF s.e (oread c.cd).1).1,ao:=(ansF s.e (oread c.cd).1).2,va:=va } s v1 v2 vs vt q'∧r=.returned (.tuple #[.int .i64 (if (ansF s.e (oread c.cd).1).1=2 then 6 else 7),.int .i64 0]):=by
 have CO:=hide (implOptsRead c.cd q (by unfold maxLen;omega) hE);have hr:=oread_right c.cd;have c33:=h.cell (i:=33) rfl;have HL:=hide h;have hBq:=h.lt;clear h hE hs;generalize oread c.cd=OO at *;obtain ⟨L,cd⟩:=OO;dsimp only at h0 hr ⊢;subst h0;have CR:Hid (∀ (c':Cx) (z:World) (v:Value),Lay 83 w0 w1 B c' s v1 v2 vs vt z→HoldsO z v L→Calls prog 129 #[.pointer (some ⟨B,0,none⟩),v] z fun r q'=>∃ v',r=.returned (.agg #[.int .i64 (ansF s.e L).1,v'])∧HoldsO q' v' (ansF s.e L).2∧Below z.heap.size z q'):=hide fun c' z v hz hv=>iReplyTo hz v L hr hv
 generalize ansF s.e L=AA at *;obtain ⟨AC,AO⟩:=AA;dsimp only at CR ⊢;obtain ⟨NN,hNN⟩:∃ NN:Int,(if AC=2 then 6 else 7)=NN:=⟨_,rfl⟩;rw [hNN];have HN:=hide hNN;clear hNN;go_enter func91,ntmps91
 go_wp2_with fail
 refine (uh CO).mono ?_;rintro e z1 ⟨ad,cp,rfl,ho,hb⟩;dsimp only at ho;dsimp only;have E1:=hide (And.intro hb ho);have hzB:B<z1.heap.size:=Nat.lt_of_lt_of_le hBq hb.size;clear hb ho CO c33;go_upto_region 2 with fail
 refine gen_world (fun z=>(Below q.heap.size q z∧z.ownsRow q.heap.size 116 2 (.slice ad L.length cp) L.length (ocells L))∧z.heap[z1.heap.size]?=some (.cells #[.slice ad L.length cp,.int .i64 0] 172)) ?_ ?_
 ·have hbA:=(Below.refl z1.heap.size z1).alloc (Nat.le_refl _) (.cells #[.slice ad L.length cp,.int .i64 0] 172);exact ⟨⟨(uh E1).1.trans (hbA.mono (uh E1).1.size),own_below (uh E1).2 hbA⟩,heap_alloc_new z1 _⟩
 intro z2 hz2;have hMB:¬ (z1.heap.size=B):=by omega
 have hMB2:¬ (B=z1.heap.size):=by omega
 generalize z1.heap.size=M at *;have E2:=hide hz2;obtain ⟨m0,m1⟩:=row2a hz2.2;have hL2:=(uh HL).step hz2.1.1;have k34:=hL2.cell (i:=34) rfl;have f34:=hL2.frz 34;clear hz2 E1 hL2;go_upto_region 5 with fail
 refine gen_world (fun z=>Lay 83 w0 w1 B { c with hd:=L,vh:=.slice ad L.length cp } s v1 v2 vs vt z∧z.heap[M]?=some (.cells #[.slice ad L.length cp,.int .i64 0] 172)) ?_ ?_
 ·exact ⟨(uh HL).had9 (uh E2).1.1 _ L (uh E2).1.2,(Below.heap_setCell _ ⟨B,34,none⟩ _ _ hMB).trans (uh E2).2⟩
 clear k34 f34 m0 m1 E2 HL;intro z3 hz3;have E3:=hide hz3;clear hz3;have SY:Hid (∀ y9:World,y9.heap[M]?=some (.cells #[.slice ad L.length cp,.int .i64 0] 172)→y9.cell? ⟨M,0,none⟩=some (.slice ad L.length cp)):=hide fun y9 hz=>(row2a hz).1
 replace CR:Hid (∀ (z:World),Lay 83 w0 w1 B { c with hd:=L,vh:=.slice ad L.length cp } s v1 v2 vs vt z→Calls prog 129 #[.pointer (some ⟨B,0,none⟩),.slice ad L.length cp] z fun r q'=>∃ v',r=.returned (.agg #[.int .i64 AC,v'])∧HoldsO q' v' AO∧Below z.heap.size z q'):=hide fun z hz=>uh CR _ z _ hz hz.hh
 have E4:Hid (Lay 83 w0 w1 B { c with hd:=L,vh:=.slice ad L.length cp } s v1 v2 vs vt z3.drew∧z3.drew.heap[M]?=some (.cells #[.slice ad L.length cp,.int .i64 0] 172)):=hide ⟨(uh E3).1.step (Below.refl _ _).drew,(uh E3).2⟩;refine wp_region_held_drew (S:=fun y9=>y9.cell? ⟨M,0,none⟩=some (.slice ad L.length cp)) (by kernel_rfl) (uh SY _ (uh E4).2) (fun hHeld=>?_);generalize z3.drew=yy at E4 hHeld ⊢;clear E3;refine t2 0 ?_;refine t2 1 ?_;refine t2 2 ?_;refine t2 3 ?_;refine t2 4 ?_;refine t2 5 ?_;refine r1 6 rfl (fun K hK=>?_);go_simp;refine (uh CR _ (uh E4).1).mono ?_;rintro e z31 ⟨v5,rfl,ho31,hb31⟩;obtain ⟨xa,xc,rfl⟩:=ho31.form;have E31:=hide (And.intro ((uh E4).1.step hb31) ((hb31.block _ (ge.1 (uh E4).2).1).trans (uh E4).2));have A31:=hide ho31;clear hb31 ho31;go_wp2_with fail
 refine ro hK (uh SY _ (uh E31).2) fun _=>?_
 clear hK K;refine t2 7 ?_;refine t2 8 ?_;refine r1 9 rfl (fun K hK=>?_);have k35:=(uh E31).1.cell (i:=35) rfl;have k36:=(uh E31).1.cell (i:=36) rfl;have f35:=(uh E31).1.frz 35;have f36:=(uh E31).1.frz 36;have ZF:=hide ((uh E31).1.ans9 AC (.slice xa AO.length xc) AO (uh A31));have ZM:=hide ((set2b_ot (x0:=.int .i64 AC) (x1:=.slice xa AO.length xc) (fun e=>hMB (show M=B from e))).trans (uh E31).2);go_simp;clear k35 k36 f35 f36;refine ro hK (uh SY _ (uh ZM)) fun _=>?_
 clear hK K;refine dn ?_ _;go_upto_region 6 with fail
 refine gen_world (Lay 83 w0 w1 B { c with hd:=L,vh:=.slice ad L.length cp,ac:=AC,ao:=AO,va:=.slice xa AO.length xc } s v1 v2 vs vt) (uh ZF) ?_;intro z9 hz9;have E9:=hide hz9;have k35:=hz9.cell (i:=35) rfl;clear hz9 ZF ZM CR SY;by_cases ha:AC=2
 ·rw [if_pos ha] at HN;have hb2:(AC == 2)=true:=by simpa using ha
  clear ha;go_wp2
  refine bodyPost_ret (v:=.tuple #[.int .i64 6,.int .i64 0]) (by simp [results,results91,go_sem]) rfl ?_;exact ⟨⟨_,_,uh E9⟩,by rw [← uh HN]⟩
 ·rw [if_neg ha] at HN;have hb2:(AC == 2)=false:=by simpa using ha
  clear ha;go_wp2
  refine bodyPost_ret (v:=.tuple #[.int .i64 7,.int .i64 0]) (by simp [results,results91,go_sem]) rfl ?_;exact ⟨⟨_,_,uh E9⟩,by rw [← uh HN]⟩
structure CfS (w:World) (M:Nat) (x:Cf) (q:World):Prop where
 x:q.heap[w.heap.size]?=some (.cells (cfC x) 24)
 r:q.heap[w.heap.size+1]?=some (.cells #[.int .i64 0,.int .i64 0,.int .i64 0,.bool false,.bool false,.bool false] 24)
 m:q.heap[M]?=some (.map rules 6)
 b:Below w.heap.size w q
theorem CfS.step {w:World} {M:Nat} {x:Cf} {q q':World} (h:CfS w M x q) (hb:Below q.heap.size q q'):CfS w M x q' :=
 ⟨(hb.block _ (ge.1 h.x).1).trans h.x,(hb.block _ (ge.1 h.r).1).trans h.r,(hb.block _ (ge.1 h.m).1).trans h.m,h.b.trans (hb.mono h.b.size)⟩
theorem set6_other {W:World} {E g:Nat} (hg:g≠E) (x0 x1 x2 x3 x4 x5:Value):((((((W.setCell ⟨E,0,none⟩ x0).setCell ⟨E,1,none⟩ x1).setCell ⟨E,2,none⟩ x2).setCell ⟨E,3,none⟩ x3).setCell ⟨E,4,none⟩ x4).setCell ⟨E,5,none⟩ x5).heap[g]?=W.heap[g]?:=by
 rw [Below.heap_setCell _ _ _ _ hg,Below.heap_setCell _ _ _ _ hg,Below.heap_setCell _ _ _ _ hg,Below.heap_setCell _ _ _ _ hg,Below.heap_setCell _ _ _ _ hg,Below.heap_setCell _ _ _ _ hg]
theorem CfS.put {w:World} {M:Nat} {x:Cf} {q:World} (h:CfS w M x q) (h2:w.heap.size+1<M) (y:Cf) :
  CfS w M y ((((((q.setCell ⟨w.heap.size,0,none⟩ (.int .i64 y.m)).setCell ⟨w.heap.size,1,none⟩ (.int .i64 y.a)).setCell ⟨w.heap.size,2,none⟩ (.int .i64 y.g)).setCell ⟨w.heap.size,3,none⟩ (.bool y.p)).setCell ⟨w.heap.size,4,none⟩ (.bool y.c)).setCell ⟨w.heap.size,5,none⟩ (.bool y.d)) :=
 ⟨set6_at h.x _ _ _ _ _ _,(set6_other (by omega) _ _ _ _ _ _).trans h.r,(set6_other (by omega) _ _ _ _ _ _).trans h.m,set6_below h.b (Nat.le_refl _) _ _ _ _ _ _⟩
theorem row6g {w:World} {B:Nat} {x0 x1 x2 x3 x4 x5:Value} {T:TypeId} (h:w.heap[B]?=some (.cells #[x0,x1,x2,x3,x4,x5] T)) :
  w.frozen? ⟨B,0,none⟩=false∧w.frozen? ⟨B,1,none⟩=false∧w.frozen? ⟨B,2,none⟩=false∧w.frozen? ⟨B,3,none⟩=false∧w.frozen? ⟨B,4,none⟩=false∧w.frozen? ⟨B,5,none⟩=false:=⟨frz h _,frz h _,frz h _,frz h _,frz h _,frz h _⟩
theorem implWithout (x:Cf) (v:Value) (F:List Op.Opt) (w:World) (hx:okC x=true) (hr:Op.right F=true) (h:HoldsO w v F) :
  Calls prog 131 #[.agg (cfC x),v] w fun e w'=>e=.returned (.agg (cfC (woF x F)))∧Below w.heap.size w w':=by
 have hFl:=Op.right_len hr;have C0:=hide fun W=>implCfg (x.m:Int) x.a x.g x.p x.c x.d W
 have C1:=hide fun W (hb:Below w.heap.size w W)=>implRightAll v F W (by unfold maxLen;omega) (h.below hb rfl)
 rw [show cfgOk (x.m:Int) x.a x.g=true from hx] at C0;rw [hr] at C1;have HFO:=hide (Op.right_all hr);have HAT:=hide fun i hi=>h.at i hi
 obtain ⟨ad,cp,rfl⟩:=h.form;obtain ⟨n,hn⟩:∃ n,F.length=n:=⟨_,rfl⟩;obtain ⟨_,hA,hR,hb⟩:=start2r w (.cells (cfC x) 24) (.cells #[.int .i64 0,.int .i64 0,.int .i64 0,.bool false,.bool false,.bool false] 24);have H0:=hide (And.intro hA (And.intro hR hb));have d0:¬ ((400:Int)<(n:Int)):=by omega
 clear h hr hA hR hb;have HTL:Hid (F.take n=F):=hide (List.take_of_length_le (by omega));obtain ⟨R,hR⟩:∃ R,woF x F=R:=⟨_,rfl⟩;rw [hR];have HR:=hide hR;clear hR;have hx0:woF x (F.take 0)=x:=rfl;rw [hn] at C1 ⊢;go_enter func131,ntmps131
 go_wp2_with fail
 refine (uh C0 _).mono ?_;rintro e w1 ⟨rfl,hb1⟩;have hA1:=(hb1.block w.heap.size (by simp;omega)).trans (uh H0).1;have hR1:=(hb1.block (w.heap.size+1) (by simp)).trans (uh H0).2.1;have hB1:=(uh H0).2.2.trans (hb1.mono (uh H0).2.2.size);have H1:=hide (And.intro hA1 (And.intro hR1 hB1));clear hA1 hR1 hB1 hb1 H0 C0;go_wp2_with fail
 refine (uh C1 _ (uh H1).2.2).mono ?_;rintro e w2 ⟨rfl,hb2⟩;have hA2:=(hb2.block w.heap.size (ge.1 (uh H1).1).1).trans (uh H1).1;have hR2:=(hb2.block (w.heap.size+1) (ge.1 (uh H1).2.1).1).trans (uh H1).2.1;have hB2:=(uh H1).2.2.trans (hb2.mono (uh H1).2.2.size);have H2:=hide (And.intro hA2 (And.intro hR2 hB2));clear hA2 hR2 hB2 hb2 H1 C1;go_wp2_with fail
 refine (optionRules _).mono ?_;rintro e w3 ⟨rfl,hm3,hb3⟩;have hI:CfS w w2.heap.size (woF x (F.take 0)) w3:=by
  have hl1:=(ge.1 (uh H2).1).1;have hl2:=(ge.1 (uh H2).2.1).1;rw [hx0];exact ⟨(hb3.block _ hl1).trans (uh H2).1,(hb3.block _ hl2).trans (uh H2).2.1,hm3,(uh H2).2.2.trans (hb3.mono (uh H2).2.2.size)⟩
 have hM:w.heap.size+1<w2.heap.size:=(ge.1 (uh H2).2.1).1;have HI:=hide hI;clear hI hm3 hb3 H2 hx0 hx;go_wp2_with fail
 generalize w2.heap.size=M at *;go_loopw [26] (fun y wr=>∃ i:Nat,i≤n∧y=.int .i64 i∧CfS w M (woF x (F.take i)) wr) (fun y _=>n - (intOf y).toNat)
 case atStart=>exact ⟨0,Nat.zero_le _,rfl,uh HI⟩
 case round =>
  obtain ⟨i,hi,rfl,hS⟩:=hrel;clear HI;by_cases hlt:i<n
  ·have d1:(i:Int)<(n:Int):=by omega
   have d2:(0:Int)≤(i:Int):=by omega
   obtain ⟨g,⟨cp2,e2⟩,hgl,k0,k1⟩:=uh HAT i (by omega);cases e2;replace k0:=(hS.b.cell (p:=⟨g,i*2,none⟩) hgl).trans k0;replace k1:=(hS.b.cell (p:=⟨g,i*2+1,none⟩) hgl).trans k1;have HSN:=hide (woF_snoc x F i (by omega));have hok:=uh HFO _ (List.getElem_mem (show i<F.length by omega));generalize F[i]'(by omega)=o at *;obtain ⟨kd,dt⟩:=o;dsimp only at k0 k1;generalize woF x (F.take i)=y at *;have hds:dt.size≤20:=by unfold Op.ok at hok;have:=of_decide_eq_true hok;exact this.2.2
   have HS:=hide hS;clear hS HAT HFO hok;go_upto_region 9 with fail
   refine gen_world (fun q=>CfS w M y q∧q.heap[wr.heap.size]?=some (.cells #[.int .i64 kd,.string dt] 116))
    ⟨(uh HS).step ((Below.refl _ _).alloc (Nat.le_refl _) _),heap_alloc_new wr _⟩ ?_
   rintro q1 ⟨hS1,hO1⟩;have hN1:M<wr.heap.size:=(ge.1 (uh HS).m).1;generalize wr.heap.size=N1 at *;have hl1:N1<q1.heap.size:=(ge.1 hO1).1;obtain ⟨c0,c1,_,_⟩:=row2x hO1;have HV1:=hide (And.intro hS1 hO1);clear hO1 HS k0 k1;rcases cf_row kd with ⟨s,f,f2,f3,f4,f5,j,hs,hJ⟩ | ⟨hs,hwo,hf⟩
   ·have hlk:=look2_at q1 M rules 6 j kd _ hS1.m hJ.fd;have hcf:=hJ.cf4;have HJ2:=hide fun v=>hJ.wo y v
    clear hS1 hJ;go_upto_region 10 with fail
    refine gen_world (fun q=>CfS w M y q∧q.heap[q1.heap.size]?=some (.cells #[.int .i64 s,fnV f,fnV f2,fnV f3,fnV f4,fnV f5] 185))
     ⟨(uh HV1).1.step ((Below.refl _ _).alloc (Nat.le_refl _) _),heap_alloc_new q1 _⟩ ?_
    rintro q4 ⟨hS4,hR4⟩;obtain ⟨_,_,_,_,r4,_⟩:=row6 hR4;obtain ⟨m0,m1,m2,m3,m4,m5⟩:=row6 hS4.x;have HV4:=hide hS4;clear hS4 hR4 HV1 c0 c1 hlk;go_wp2_with fail
    refine (uh HJ2 _).mono ?_;rintro e w6 ⟨rfl,hb6⟩;have h6:=(uh HV4).step hb6;clear m0 m1 m2 m3 m4 m5;obtain ⟨m0,m1,m2,m3,m4,m5⟩:=row6 h6.x;obtain ⟨f0',f1',f2',f3',f4',f5'⟩:=row6g h6.x;have HL:=hide (h6.put hM (woK kd y));clear h6 hb6 HV4;go_wp2_with fail
    go_roundw
    case rel=>exact ⟨i+1,by omega,by go_num,by rw [uh HSN];exact uh HL⟩
    case measure=>simp [intOf];omega
   ·have hlk:=look2_no q1 M rules 6 kd hS1.m hf;clear hS1 hf;go_wp2_with fail
    go_roundw
    case rel=>exact ⟨i+1,by omega,by go_num,by rw [uh HSN,hwo];exact (uh HV1).1.step ((Below.refl _ _).alloc (Nat.le_refl _) _)⟩
    case measure=>simp [intOf];omega
  ·have e:i=n:=by omega
   subst e;have d1:¬ ((i:Int)<(i:Int)):=by omega
   rw [uh HTL,uh HR] at hS;obtain ⟨m0,m1,m2,m3,m4,m5⟩:=row6 hS.x;obtain ⟨r0,r1,r2,r3,r4,r5⟩:=row6 hS.r;obtain ⟨f0,f1,f2,f3,f4,f5⟩:=row6g hS.r;have HS:=hide hS;clear hS HAT HFO HTL HR;go_wp2
   exact bodyPost_ret (v:=.agg (cfC R)) (by simp [results,results131,asAddr,loadC (set6_at (uh HS).r (.int .i64 R.m) (.int .i64 R.a) (.int .i64 R.g) (.bool R.p) (.bool R.c) (.bool R.d))]) rfl ⟨rfl,set6_below (uh HS).b (by omega) _ _ _ _ _ _⟩
theorem set6_cell {W:World} {E:Nat} (p:Addr) (hp:p.block≠E) (x0 x1 x2 x3 x4 x5:Value):((((((W.setCell ⟨E,0,none⟩ x0).setCell ⟨E,1,none⟩ x1).setCell ⟨E,2,none⟩ x2).setCell ⟨E,3,none⟩ x3).setCell ⟨E,4,none⟩ x4).setCell ⟨E,5,none⟩ x5).cell? p=W.cell? p:=by
 unfold World.cell?;rw [set6_other hp]
theorem implLess (x:Cf) (v:Value) (F:List Op.Opt) (w:World) (hx:okC x=true) (hr:Op.right F=true) (h:HoldsO w v F) :
  Calls prog 130 #[.agg (cfC x),v] w fun e w'=>e=.returned (.agg (cfC (lessF x F)))∧Below w.heap.size w w':=by
 have hFl:=Op.right_len hr;have C0:=hide fun W=>implCfg (x.m:Int) x.a x.g x.p x.c x.d W
 have C1:=hide fun W (hb:Below w.heap.size w W)=>implRightAll v F W (by unfold maxLen;omega) (h.below hb rfl)
 rw [show cfgOk (x.m:Int) x.a x.g=true from hx] at C0;rw [hr] at C1;have HFO:=hide (Op.right_all hr);have HAT:=hide fun i hi=>h.at i hi
 obtain ⟨ad,cp,rfl⟩:=h.form;obtain ⟨n,hn⟩:∃ n,F.length=n:=⟨_,rfl⟩;obtain ⟨_,hA,hR,hb⟩:=start2r w (.cells (cfC x) 24) (.cells #[.int .i64 0,.int .i64 0,.int .i64 0,.bool false,.bool false,.bool false] 24);have H0:=hide (And.intro hA (And.intro hR hb));have d0:¬ ((400:Int)<(n:Int)):=by omega
 clear h hr hA hR hb;have HTL:Hid (F.take n=F):=hide (List.take_of_length_le (by omega));obtain ⟨R,hR⟩:∃ R,lessF x F=R:=⟨_,rfl⟩;rw [hR];have HR:=hide hR;clear hR;have hx0:lessF x (F.take 0)=x:=rfl;rw [hn] at C1 ⊢;go_enter func130,ntmps130
 go_wp2_with fail
 refine (uh C0 _).mono ?_;rintro e w1 ⟨rfl,hb1⟩;have hA1:=(hb1.block w.heap.size (by simp;omega)).trans (uh H0).1;have hR1:=(hb1.block (w.heap.size+1) (by simp)).trans (uh H0).2.1;have hB1:=(uh H0).2.2.trans (hb1.mono (uh H0).2.2.size);have H1:=hide (And.intro hA1 (And.intro hR1 hB1));clear hA1 hR1 hB1 hb1 H0 C0;go_wp2_with fail
 refine (uh C1 _ (uh H1).2.2).mono ?_;rintro e w2 ⟨rfl,hb2⟩;have hA2:=(hb2.block w.heap.size (ge.1 (uh H1).1).1).trans (uh H1).1;have hR2:=(hb2.block (w.heap.size+1) (ge.1 (uh H1).2.1).1).trans (uh H1).2.1;have hB2:=(uh H1).2.2.trans (hb2.mono (uh H1).2.2.size);have H2:=hide (And.intro hA2 (And.intro hR2 hB2));clear hA2 hR2 hB2 hb2 H1 C1;go_wp2_with fail
 refine (optionRules _).mono ?_;rintro e w3 ⟨rfl,hm3,hb3⟩;have hI:CfS w w2.heap.size (lessF x (F.take 0)) w3:=by
  have hl1:=(ge.1 (uh H2).1).1;have hl2:=(ge.1 (uh H2).2.1).1;rw [hx0];exact ⟨(hb3.block _ hl1).trans (uh H2).1,(hb3.block _ hl2).trans (uh H2).2.1,hm3,(uh H2).2.2.trans (hb3.mono (uh H2).2.2.size)⟩
 have hM:w.heap.size+1<w2.heap.size:=(ge.1 (uh H2).2.1).1;have HI:=hide hI;clear hI hm3 hb3 H2 hx0 hx;go_wp2_with fail
 generalize w2.heap.size=M at *;go_loopw [26] (fun y wr=>∃ i:Nat,i≤n∧y=.int .i64 i∧CfS w M (lessF x (F.take i)) wr) (fun y _=>n - (intOf y).toNat)
 case atStart=>exact ⟨0,Nat.zero_le _,rfl,uh HI⟩
 case round =>
  obtain ⟨i,hi,rfl,hS⟩:=hrel;clear HI;by_cases hlt:i<n
  ·have d1:(i:Int)<(n:Int):=by omega
   have d2:(0:Int)≤(i:Int):=by omega
   obtain ⟨g,⟨cp2,e2⟩,hgl,k0,k1⟩:=uh HAT i (by omega);cases e2;replace k0:=(hS.b.cell (p:=⟨g,i*2,none⟩) hgl).trans k0;replace k1:=(hS.b.cell (p:=⟨g,i*2+1,none⟩) hgl).trans k1;have HSN:=hide (lessF_snoc x F i (by omega));have hok:=uh HFO _ (List.getElem_mem (show i<F.length by omega));generalize F[i]'(by omega)=o at *;obtain ⟨kd,dt⟩:=o;dsimp only at k0 k1;generalize lessF x (F.take i)=y at *;have hds:dt.size≤20:=by unfold Op.ok at hok;have:=of_decide_eq_true hok;exact this.2.2
   have HS:=hide hS;clear hS HAT HFO hok;go_upto_region 9 with fail
   refine gen_world (fun q=>CfS w M y q∧q.heap[wr.heap.size]?=some (.cells #[.int .i64 kd,.string dt] 116))
    ⟨(uh HS).step ((Below.refl _ _).alloc (Nat.le_refl _) _),heap_alloc_new wr _⟩ ?_
   rintro q1 ⟨hS1,hO1⟩;have hN1:M<wr.heap.size:=(ge.1 (uh HS).m).1;generalize wr.heap.size=N1 at *;have hl1:N1<q1.heap.size:=(ge.1 hO1).1;obtain ⟨c0,c1,_,_⟩:=row2x hO1;have HV1:=hide (And.intro hS1 hO1);clear hO1 HS k0 k1;unfold lessOne at HSN;dsimp only at HSN;rcases cf_row kd with ⟨s,f,f2,f3,f4,f5,j,hs,hJ⟩ | ⟨hs,hwo,hf⟩
   ·have CR:=hide (ruleOf_yes M kd dt s f f2 f3 f4 f5 j q1 hS1.m hJ.fd);have hcf:=hJ.cf3;have HJL:=hide hJ.ls;have h4:=sizeK_le hs;clear hS1 hJ;go_wp2_with fail
    refine (uh CR).mono ?_;rintro e w3' ⟨rfl,hb3⟩;have HV3:=hide (And.intro ((uh HV1).1.step hb3) ((hb3.block N1 hl1).trans (uh HV1).2));have hl3:N1<w3'.heap.size:=Nat.lt_of_lt_of_le hl1 hb3.size;clear hb3 HV1 hl1 c0 c1 CR;cases hq:((dt.size:Int) == (s:Int))
    ·have hne:¬ (sizeK kd=some dt.size):=fun e=>by
      rw [hs] at e;cases e;rw [beq_self_eq_true] at hq;cases hq
     rw [if_neg hne] at HSN;go_wp2_with fail
     go_roundw
     case rel=>exact ⟨i+1,by omega,by go_num,by rw [uh HSN];exact (uh HV3).1.step ((Below.refl _ _).alloc (Nat.le_refl _) _)⟩
     case measure=>simp [intOf];omega
    ·have hes:dt.size=s:=by have:=eq_of_beq hq;omega
     rw [if_pos (by rw [hs,hes])] at HSN;have CN:=hide fun v=>numberOf kd dt v (by omega)
     have HJ2:=hide fun v=>uh HJL y (numOf dt.data.toList) v
     have CO:=hide fun v=>rightOr (lessK kd y (numOf dt.data.toList)) y v
     generalize numOf dt.data.toList=nx at *;clear HJL;go_upto_region 11 with fail
     refine gen_world (fun q=>CfS w M y q∧q.heap[N1]?=some (.cells #[.int .i64 kd,.string dt] 116)∧q.heap[w3'.heap.size]?=some (.cells #[.int .i64 s,fnV f,fnV f2,fnV f3,fnV f4,fnV f5] 185))
      ⟨(uh HV3).1.step ((Below.refl _ _).alloc (Nat.le_refl _) _),(Below.heap_alloc _ _ _ hl3).trans (uh HV3).2,heap_alloc_new w3' _⟩ ?_
     rintro q4 ⟨hS4,hO4,hR4⟩;generalize w3'.heap.size=N2 at *;obtain ⟨c0,c1,_,_⟩:=row2x hO4;obtain ⟨_,_,_,r3,_,_⟩:=row6 hR4;obtain ⟨m0,m1,m2,m3,m4,m5⟩:=row6 hS4.x;have HV4:=hide (And.intro hS4 (And.intro hO4 hR4));clear hS4 hO4 hR4 HV3;have hn1:N1<q4.heap.size:=(ge.1 (uh HV4).2.1).1;have hn2:N2<q4.heap.size:=(ge.1 (uh HV4).2.2).1;have n1X:N1≠w.heap.size:=by omega
     have n2X:N2≠w.heap.size:=by omega
     clear m0 m1 m2 m3 m4 m5;refine wp_region_held_drew (S:=fun z=>z.cell? ⟨N1,0,none⟩=some (.int .i64 kd)∧z.cell? ⟨N1,1,none⟩=some (.string dt)∧z.cell? ⟨N2,3,none⟩=some (fnV f3)) (by kernel_rfl) ?_ (fun hHeld=>?_)
     ·exact ⟨c0,c1,r3⟩
     refine t2 0 ?_;refine t2 1 ?_;refine t2 3 ?_;refine wpAnyH_ready (rs:=[2,4,6]) (by kernel_rfl) (by simp) ?_;refine AllReadyH.cons rfl (fun K hK=>?_) (AllReadyH.cons rfl (fun K hK=>?_) (AllReadyH.cons rfl (fun K hK=>?_) AllReadyH.nil))
     ·obtain ⟨m0,m1,m2,m3,m4,m5⟩:=row6 (uh HV4).1.x;go_simp;refine hK.out _ _ ?_ (fun hH1=>?_)
      ·exact ⟨c0,c1,r3⟩
      clear hK K m0 m1 m2 m3 m4 m5;try simp only [Act.put,sA,sZ,sS,gA,gZ,gS]
      refine wpAnyH_ready (rs:=[4,6]) (by kernel_rfl) (by simp) ?_;refine AllReadyH.cons rfl (fun K hK=>?_) (AllReadyH.cons rfl (fun K hK=>?_) AllReadyH.nil)
      ·go_simp;refine (uh CN _).mono ?_;rintro e w5 ⟨rfl,hb5⟩;have B5:Below q4.heap.size q4 w5:=(Below.refl _ _).drew.trans hb5;clear hb5;go_wp2_with fail
       refine hK.out _ _ ?_ (fun hH2=>?_)
       ·exact ⟨(B5.cell (p:=⟨N1,0,none⟩) hn1).trans c0,(B5.cell (p:=⟨N1,1,none⟩) hn1).trans c1,(B5.cell (p:=⟨N2,3,none⟩) hn2).trans r3⟩
       clear hK K;try simp only [Act.put,sA,sZ,sS,gA,gZ,gS]
       refine wpAnyH_ready (rs:=[5,6]) (by kernel_rfl) (by simp) ?_;refine AllReadyH.cons rfl (fun K hK=>?_) (AllReadyH.cons rfl (fun K hK=>?_) AllReadyH.nil)
       ·go_simp;refine (uh HJ2 _).mono ?_;rintro e w6 ⟨rfl,hb6⟩;have B6:Below q4.heap.size q4 w6:=B5.trans (hb6.mono B5.size);clear hb6;go_wp2_with fail
        refine hK.out _ _ ?_ (fun hH3=>?_)
        ·exact ⟨(B6.cell (p:=⟨N1,0,none⟩) hn1).trans c0,(B6.cell (p:=⟨N1,1,none⟩) hn1).trans c1,(B6.cell (p:=⟨N2,3,none⟩) hn2).trans r3⟩
        clear hK K;try simp only [Act.put,sA,sZ,sS,gA,gZ,gS]
        refine r1 6 rfl (fun K hK=>?_)
        ·obtain ⟨m0,m1,m2,m3,m4,m5⟩:=row6 ((uh HV4).1.step B6).x;go_simp;refine hK.out _ _ ?_ (fun hH4=>?_)
         ·exact ⟨(B6.cell (p:=⟨N1,0,none⟩) hn1).trans c0,(B6.cell (p:=⟨N1,1,none⟩) hn1).trans c1,(B6.cell (p:=⟨N2,3,none⟩) hn2).trans r3⟩
         clear hK K m0 m1 m2 m3 m4 m5;try simp only [Act.put,sA,sZ,sS,gA,gZ,gS]
         refine r1 7 rfl (fun K hK=>?_)
         ·go_simp;refine (uh CO _).mono ?_;rintro e w7 ⟨rfl,hb7⟩;have B7:Below q4.heap.size q4 w7:=B6.trans (hb7.mono B6.size);clear hb7;go_wp2_with fail
          refine hK.out _ _ ?_ (fun hH5=>?_)
          ·exact ⟨(B7.cell (p:=⟨N1,0,none⟩) hn1).trans c0,(B7.cell (p:=⟨N1,1,none⟩) hn1).trans c1,(B7.cell (p:=⟨N2,3,none⟩) hn2).trans r3⟩
          clear hK K;try simp only [Act.put,sA,sZ,sS,gA,gZ,gS]
          refine r1 8 rfl (fun K hK=>?_)
          ·have h7:=(uh HV4).1.step B7;obtain ⟨m0,m1,m2,m3,m4,m5⟩:=row6 h7.x;obtain ⟨f0',f1',f2',f3',f4',f5'⟩:=row6g h7.x;have HL:=hide (h7.put hM (rightOrF (lessK kd y nx) y));clear h7;go_simp;refine hK.out _ _ ?_ (fun hH6=>?_)
           ·have TT:=fun p (hp:p.block≠w.heap.size)=>set6_cell (W:=w7) (E:=w.heap.size) p hp (.int .i64 (rightOrF (lessK kd y nx) y).m) (.int .i64 (rightOrF (lessK kd y nx) y).a) (.int .i64 (rightOrF (lessK kd y nx) y).g) (.bool (rightOrF (lessK kd y nx) y).p) (.bool (rightOrF (lessK kd y nx) y).c) (.bool (rightOrF (lessK kd y nx) y).d)
            exact ⟨(TT ⟨N1,0,none⟩ n1X).trans ((B7.cell (p:=⟨N1,0,none⟩) hn1).trans c0),(TT ⟨N1,1,none⟩ n1X).trans ((B7.cell (p:=⟨N1,1,none⟩) hn1).trans c1),(TT ⟨N2,3,none⟩ n2X).trans ((B7.cell (p:=⟨N2,3,none⟩) hn2).trans r3)⟩
           clear hK K;try simp only [Act.put,sA,sZ,sS,gA,gZ,gS]
           refine dn ?_ _;go_wp2_with fail
           go_roundw
           case rel=>exact ⟨i+1,by omega,by go_num,by rw [uh HSN];exact uh HL⟩
           case measure=>simp [intOf];omega
       ·obtain ⟨m0,m1,m2,m3,m4,m5⟩:=row6 ((uh HV4).1.step B5).x;go_simp;refine hK.out _ _ ?_ (fun hH7=>?_)
        ·exact ⟨(B5.cell (p:=⟨N1,0,none⟩) hn1).trans c0,(B5.cell (p:=⟨N1,1,none⟩) hn1).trans c1,(B5.cell (p:=⟨N2,3,none⟩) hn2).trans r3⟩
        clear hK K m0 m1 m2 m3 m4 m5;try simp only [Act.put,sA,sZ,sS,gA,gZ,gS]
        refine r1 5 rfl (fun K hK=>?_)
        ·go_simp;refine (uh HJ2 _).mono ?_;rintro e w6 ⟨rfl,hb6⟩;have B6:Below q4.heap.size q4 w6:=B5.trans (hb6.mono B5.size);clear hb6;go_wp2_with fail
         refine hK.out _ _ ?_ (fun hH8=>?_)
         ·exact ⟨(B6.cell (p:=⟨N1,0,none⟩) hn1).trans c0,(B6.cell (p:=⟨N1,1,none⟩) hn1).trans c1,(B6.cell (p:=⟨N2,3,none⟩) hn2).trans r3⟩
         clear hK K;try simp only [Act.put,sA,sZ,sS,gA,gZ,gS]
         refine r1 7 rfl (fun K hK=>?_)
         ·go_simp;refine (uh CO _).mono ?_;rintro e w7 ⟨rfl,hb7⟩;have B7:Below q4.heap.size q4 w7:=B6.trans (hb7.mono B6.size);clear hb7;go_wp2_with fail
          refine hK.out _ _ ?_ (fun hH9=>?_)
          ·exact ⟨(B7.cell (p:=⟨N1,0,none⟩) hn1).trans c0,(B7.cell (p:=⟨N1,1,none⟩) hn1).trans c1,(B7.cell (p:=⟨N2,3,none⟩) hn2).trans r3⟩
          clear hK K;try simp only [Act.put,sA,sZ,sS,gA,gZ,gS]
          refine r1 8 rfl (fun K hK=>?_)
          ·have h7:=(uh HV4).1.step B7;obtain ⟨m0,m1,m2,m3,m4,m5⟩:=row6 h7.x;obtain ⟨f0',f1',f2',f3',f4',f5'⟩:=row6g h7.x;have HL:=hide (h7.put hM (rightOrF (lessK kd y nx) y));clear h7;go_simp;refine hK.out _ _ ?_ (fun hH10=>?_)
           ·have TT:=fun p (hp:p.block≠w.heap.size)=>set6_cell (W:=w7) (E:=w.heap.size) p hp (.int .i64 (rightOrF (lessK kd y nx) y).m) (.int .i64 (rightOrF (lessK kd y nx) y).a) (.int .i64 (rightOrF (lessK kd y nx) y).g) (.bool (rightOrF (lessK kd y nx) y).p) (.bool (rightOrF (lessK kd y nx) y).c) (.bool (rightOrF (lessK kd y nx) y).d)
            exact ⟨(TT ⟨N1,0,none⟩ n1X).trans ((B7.cell (p:=⟨N1,0,none⟩) hn1).trans c0),(TT ⟨N1,1,none⟩ n1X).trans ((B7.cell (p:=⟨N1,1,none⟩) hn1).trans c1),(TT ⟨N2,3,none⟩ n2X).trans ((B7.cell (p:=⟨N2,3,none⟩) hn2).trans r3)⟩
           clear hK K;try simp only [Act.put,sA,sZ,sS,gA,gZ,gS]
           refine dn ?_ _;go_wp2_with fail
           go_roundw
           case rel=>exact ⟨i+1,by omega,by go_num,by rw [uh HSN];exact uh HL⟩
           case measure=>simp [intOf];omega
      ·obtain ⟨m0,m1,m2,m3,m4,m5⟩:=row6 (uh HV4).1.x;go_simp;refine hK.out _ _ ?_ (fun hH11=>?_)
       ·exact ⟨c0,c1,r3⟩
       clear hK K m0 m1 m2 m3 m4 m5;try simp only [Act.put,sA,sZ,sS,gA,gZ,gS]
       refine r1 4 rfl (fun K hK=>?_)
       ·go_simp;refine (uh CN _).mono ?_;rintro e w5 ⟨rfl,hb5⟩;have B5:Below q4.heap.size q4 w5:=(Below.refl _ _).drew.trans hb5;clear hb5;go_wp2_with fail
        refine hK.out _ _ ?_ (fun hH12=>?_)
        ·exact ⟨(B5.cell (p:=⟨N1,0,none⟩) hn1).trans c0,(B5.cell (p:=⟨N1,1,none⟩) hn1).trans c1,(B5.cell (p:=⟨N2,3,none⟩) hn2).trans r3⟩
        clear hK K;try simp only [Act.put,sA,sZ,sS,gA,gZ,gS]
        refine r1 5 rfl (fun K hK=>?_)
        ·go_simp;refine (uh HJ2 _).mono ?_;rintro e w6 ⟨rfl,hb6⟩;have B6:Below q4.heap.size q4 w6:=B5.trans (hb6.mono B5.size);clear hb6;go_wp2_with fail
         refine hK.out _ _ ?_ (fun hH13=>?_)
         ·exact ⟨(B6.cell (p:=⟨N1,0,none⟩) hn1).trans c0,(B6.cell (p:=⟨N1,1,none⟩) hn1).trans c1,(B6.cell (p:=⟨N2,3,none⟩) hn2).trans r3⟩
         clear hK K;try simp only [Act.put,sA,sZ,sS,gA,gZ,gS]
         refine r1 7 rfl (fun K hK=>?_)
         ·go_simp;refine (uh CO _).mono ?_;rintro e w7 ⟨rfl,hb7⟩;have B7:Below q4.heap.size q4 w7:=B6.trans (hb7.mono B6.size);clear hb7;go_wp2_with fail
          refine hK.out _ _ ?_ (fun hH14=>?_)
          ·exact ⟨(B7.cell (p:=⟨N1,0,none⟩) hn1).trans c0,(B7.cell (p:=⟨N1,1,none⟩) hn1).trans c1,(B7.cell (p:=⟨N2,3,none⟩) hn2).trans r3⟩
          clear hK K;try simp only [Act.put,sA,sZ,sS,gA,gZ,gS]
          refine r1 8 rfl (fun K hK=>?_)
          ·have h7:=(uh HV4).1.step B7;obtain ⟨m0,m1,m2,m3,m4,m5⟩:=row6 h7.x;obtain ⟨f0',f1',f2',f3',f4',f5'⟩:=row6g h7.x;have HL:=hide (h7.put hM (rightOrF (lessK kd y nx) y));clear h7;go_simp;refine hK.out _ _ ?_ (fun hH15=>?_)
           ·have TT:=fun p (hp:p.block≠w.heap.size)=>set6_cell (W:=w7) (E:=w.heap.size) p hp (.int .i64 (rightOrF (lessK kd y nx) y).m) (.int .i64 (rightOrF (lessK kd y nx) y).a) (.int .i64 (rightOrF (lessK kd y nx) y).g) (.bool (rightOrF (lessK kd y nx) y).p) (.bool (rightOrF (lessK kd y nx) y).c) (.bool (rightOrF (lessK kd y nx) y).d)
            exact ⟨(TT ⟨N1,0,none⟩ n1X).trans ((B7.cell (p:=⟨N1,0,none⟩) hn1).trans c0),(TT ⟨N1,1,none⟩ n1X).trans ((B7.cell (p:=⟨N1,1,none⟩) hn1).trans c1),(TT ⟨N2,3,none⟩ n2X).trans ((B7.cell (p:=⟨N2,3,none⟩) hn2).trans r3)⟩
           clear hK K;try simp only [Act.put,sA,sZ,sS,gA,gZ,gS]
           refine dn ?_ _;go_wp2_with fail
           go_roundw
           case rel=>exact ⟨i+1,by omega,by go_num,by rw [uh HSN];exact uh HL⟩
           case measure=>simp [intOf];omega
     ·go_simp;refine (uh CN _).mono ?_;rintro e w5 ⟨rfl,hb5⟩;have B5:Below q4.heap.size q4 w5:=(Below.refl _ _).drew.trans hb5;clear hb5;go_wp2_with fail
      refine hK.out _ _ ?_ (fun hH16=>?_)
      ·exact ⟨(B5.cell (p:=⟨N1,0,none⟩) hn1).trans c0,(B5.cell (p:=⟨N1,1,none⟩) hn1).trans c1,(B5.cell (p:=⟨N2,3,none⟩) hn2).trans r3⟩
      clear hK K;try simp only [Act.put,sA,sZ,sS,gA,gZ,gS]
      refine wpAnyH_ready (rs:=[2,6]) (by kernel_rfl) (by simp) ?_;refine AllReadyH.cons rfl (fun K hK=>?_) (AllReadyH.cons rfl (fun K hK=>?_) AllReadyH.nil)
      ·obtain ⟨m0,m1,m2,m3,m4,m5⟩:=row6 ((uh HV4).1.step B5).x;go_simp;refine hK.out _ _ ?_ (fun hH17=>?_)
       ·exact ⟨(B5.cell (p:=⟨N1,0,none⟩) hn1).trans c0,(B5.cell (p:=⟨N1,1,none⟩) hn1).trans c1,(B5.cell (p:=⟨N2,3,none⟩) hn2).trans r3⟩
       clear hK K m0 m1 m2 m3 m4 m5;try simp only [Act.put,sA,sZ,sS,gA,gZ,gS]
       refine wpAnyH_ready (rs:=[5,6]) (by kernel_rfl) (by simp) ?_;refine AllReadyH.cons rfl (fun K hK=>?_) (AllReadyH.cons rfl (fun K hK=>?_) AllReadyH.nil)
       ·go_simp;refine (uh HJ2 _).mono ?_;rintro e w6 ⟨rfl,hb6⟩;have B6:Below q4.heap.size q4 w6:=B5.trans (hb6.mono B5.size);clear hb6;go_wp2_with fail
        refine hK.out _ _ ?_ (fun hH18=>?_)
        ·exact ⟨(B6.cell (p:=⟨N1,0,none⟩) hn1).trans c0,(B6.cell (p:=⟨N1,1,none⟩) hn1).trans c1,(B6.cell (p:=⟨N2,3,none⟩) hn2).trans r3⟩
        clear hK K;try simp only [Act.put,sA,sZ,sS,gA,gZ,gS]
        refine r1 6 rfl (fun K hK=>?_)
        ·obtain ⟨m0,m1,m2,m3,m4,m5⟩:=row6 ((uh HV4).1.step B6).x;go_simp;refine hK.out _ _ ?_ (fun hH19=>?_)
         ·exact ⟨(B6.cell (p:=⟨N1,0,none⟩) hn1).trans c0,(B6.cell (p:=⟨N1,1,none⟩) hn1).trans c1,(B6.cell (p:=⟨N2,3,none⟩) hn2).trans r3⟩
         clear hK K m0 m1 m2 m3 m4 m5;try simp only [Act.put,sA,sZ,sS,gA,gZ,gS]
         refine r1 7 rfl (fun K hK=>?_)
         ·go_simp;refine (uh CO _).mono ?_;rintro e w7 ⟨rfl,hb7⟩;have B7:Below q4.heap.size q4 w7:=B6.trans (hb7.mono B6.size);clear hb7;go_wp2_with fail
          refine hK.out _ _ ?_ (fun hH20=>?_)
          ·exact ⟨(B7.cell (p:=⟨N1,0,none⟩) hn1).trans c0,(B7.cell (p:=⟨N1,1,none⟩) hn1).trans c1,(B7.cell (p:=⟨N2,3,none⟩) hn2).trans r3⟩
          clear hK K;try simp only [Act.put,sA,sZ,sS,gA,gZ,gS]
          refine r1 8 rfl (fun K hK=>?_)
          ·have h7:=(uh HV4).1.step B7;obtain ⟨m0,m1,m2,m3,m4,m5⟩:=row6 h7.x;obtain ⟨f0',f1',f2',f3',f4',f5'⟩:=row6g h7.x;have HL:=hide (h7.put hM (rightOrF (lessK kd y nx) y));clear h7;go_simp;refine hK.out _ _ ?_ (fun hH21=>?_)
           ·have TT:=fun p (hp:p.block≠w.heap.size)=>set6_cell (W:=w7) (E:=w.heap.size) p hp (.int .i64 (rightOrF (lessK kd y nx) y).m) (.int .i64 (rightOrF (lessK kd y nx) y).a) (.int .i64 (rightOrF (lessK kd y nx) y).g) (.bool (rightOrF (lessK kd y nx) y).p) (.bool (rightOrF (lessK kd y nx) y).c) (.bool (rightOrF (lessK kd y nx) y).d)
            exact ⟨(TT ⟨N1,0,none⟩ n1X).trans ((B7.cell (p:=⟨N1,0,none⟩) hn1).trans c0),(TT ⟨N1,1,none⟩ n1X).trans ((B7.cell (p:=⟨N1,1,none⟩) hn1).trans c1),(TT ⟨N2,3,none⟩ n2X).trans ((B7.cell (p:=⟨N2,3,none⟩) hn2).trans r3)⟩
           clear hK K;try simp only [Act.put,sA,sZ,sS,gA,gZ,gS]
           refine dn ?_ _;go_wp2_with fail
           go_roundw
           case rel=>exact ⟨i+1,by omega,by go_num,by rw [uh HSN];exact uh HL⟩
           case measure=>simp [intOf];omega
       ·obtain ⟨m0,m1,m2,m3,m4,m5⟩:=row6 ((uh HV4).1.step B5).x;go_simp;refine hK.out _ _ ?_ (fun hH22=>?_)
        ·exact ⟨(B5.cell (p:=⟨N1,0,none⟩) hn1).trans c0,(B5.cell (p:=⟨N1,1,none⟩) hn1).trans c1,(B5.cell (p:=⟨N2,3,none⟩) hn2).trans r3⟩
        clear hK K m0 m1 m2 m3 m4 m5;try simp only [Act.put,sA,sZ,sS,gA,gZ,gS]
        refine r1 5 rfl (fun K hK=>?_)
        ·go_simp;refine (uh HJ2 _).mono ?_;rintro e w6 ⟨rfl,hb6⟩;have B6:Below q4.heap.size q4 w6:=B5.trans (hb6.mono B5.size);clear hb6;go_wp2_with fail
         refine hK.out _ _ ?_ (fun hH23=>?_)
         ·exact ⟨(B6.cell (p:=⟨N1,0,none⟩) hn1).trans c0,(B6.cell (p:=⟨N1,1,none⟩) hn1).trans c1,(B6.cell (p:=⟨N2,3,none⟩) hn2).trans r3⟩
         clear hK K;try simp only [Act.put,sA,sZ,sS,gA,gZ,gS]
         refine r1 7 rfl (fun K hK=>?_)
         ·go_simp;refine (uh CO _).mono ?_;rintro e w7 ⟨rfl,hb7⟩;have B7:Below q4.heap.size q4 w7:=B6.trans (hb7.mono B6.size);clear hb7;go_wp2_with fail
          refine hK.out _ _ ?_ (fun hH24=>?_)
          ·exact ⟨(B7.cell (p:=⟨N1,0,none⟩) hn1).trans c0,(B7.cell (p:=⟨N1,1,none⟩) hn1).trans c1,(B7.cell (p:=⟨N2,3,none⟩) hn2).trans r3⟩
          clear hK K;try simp only [Act.put,sA,sZ,sS,gA,gZ,gS]
          refine r1 8 rfl (fun K hK=>?_)
          ·have h7:=(uh HV4).1.step B7;obtain ⟨m0,m1,m2,m3,m4,m5⟩:=row6 h7.x;obtain ⟨f0',f1',f2',f3',f4',f5'⟩:=row6g h7.x;have HL:=hide (h7.put hM (rightOrF (lessK kd y nx) y));clear h7;go_simp;refine hK.out _ _ ?_ (fun hH25=>?_)
           ·have TT:=fun p (hp:p.block≠w.heap.size)=>set6_cell (W:=w7) (E:=w.heap.size) p hp (.int .i64 (rightOrF (lessK kd y nx) y).m) (.int .i64 (rightOrF (lessK kd y nx) y).a) (.int .i64 (rightOrF (lessK kd y nx) y).g) (.bool (rightOrF (lessK kd y nx) y).p) (.bool (rightOrF (lessK kd y nx) y).c) (.bool (rightOrF (lessK kd y nx) y).d)
            exact ⟨(TT ⟨N1,0,none⟩ n1X).trans ((B7.cell (p:=⟨N1,0,none⟩) hn1).trans c0),(TT ⟨N1,1,none⟩ n1X).trans ((B7.cell (p:=⟨N1,1,none⟩) hn1).trans c1),(TT ⟨N2,3,none⟩ n2X).trans ((B7.cell (p:=⟨N2,3,none⟩) hn2).trans r3)⟩
           clear hK K;try simp only [Act.put,sA,sZ,sS,gA,gZ,gS]
           refine dn ?_ _;go_wp2_with fail
           go_roundw
           case rel=>exact ⟨i+1,by omega,by go_num,by rw [uh HSN];exact uh HL⟩
           case measure=>simp [intOf];omega
      ·obtain ⟨m0,m1,m2,m3,m4,m5⟩:=row6 ((uh HV4).1.step B5).x;go_simp;refine hK.out _ _ ?_ (fun hH26=>?_)
       ·exact ⟨(B5.cell (p:=⟨N1,0,none⟩) hn1).trans c0,(B5.cell (p:=⟨N1,1,none⟩) hn1).trans c1,(B5.cell (p:=⟨N2,3,none⟩) hn2).trans r3⟩
       clear hK K m0 m1 m2 m3 m4 m5;try simp only [Act.put,sA,sZ,sS,gA,gZ,gS]
       refine r1 2 rfl (fun K hK=>?_)
       ·obtain ⟨m0,m1,m2,m3,m4,m5⟩:=row6 ((uh HV4).1.step B5).x;go_simp;refine hK.out _ _ ?_ (fun hH27=>?_)
        ·exact ⟨(B5.cell (p:=⟨N1,0,none⟩) hn1).trans c0,(B5.cell (p:=⟨N1,1,none⟩) hn1).trans c1,(B5.cell (p:=⟨N2,3,none⟩) hn2).trans r3⟩
        clear hK K m0 m1 m2 m3 m4 m5;try simp only [Act.put,sA,sZ,sS,gA,gZ,gS]
        refine r1 5 rfl (fun K hK=>?_)
        ·go_simp;refine (uh HJ2 _).mono ?_;rintro e w6 ⟨rfl,hb6⟩;have B6:Below q4.heap.size q4 w6:=B5.trans (hb6.mono B5.size);clear hb6;go_wp2_with fail
         refine hK.out _ _ ?_ (fun hH28=>?_)
         ·exact ⟨(B6.cell (p:=⟨N1,0,none⟩) hn1).trans c0,(B6.cell (p:=⟨N1,1,none⟩) hn1).trans c1,(B6.cell (p:=⟨N2,3,none⟩) hn2).trans r3⟩
         clear hK K;try simp only [Act.put,sA,sZ,sS,gA,gZ,gS]
         refine r1 7 rfl (fun K hK=>?_)
         ·go_simp;refine (uh CO _).mono ?_;rintro e w7 ⟨rfl,hb7⟩;have B7:Below q4.heap.size q4 w7:=B6.trans (hb7.mono B6.size);clear hb7;go_wp2_with fail
          refine hK.out _ _ ?_ (fun hH29=>?_)
          ·exact ⟨(B7.cell (p:=⟨N1,0,none⟩) hn1).trans c0,(B7.cell (p:=⟨N1,1,none⟩) hn1).trans c1,(B7.cell (p:=⟨N2,3,none⟩) hn2).trans r3⟩
          clear hK K;try simp only [Act.put,sA,sZ,sS,gA,gZ,gS]
          refine r1 8 rfl (fun K hK=>?_)
          ·have h7:=(uh HV4).1.step B7;obtain ⟨m0,m1,m2,m3,m4,m5⟩:=row6 h7.x;obtain ⟨f0',f1',f2',f3',f4',f5'⟩:=row6g h7.x;have HL:=hide (h7.put hM (rightOrF (lessK kd y nx) y));clear h7;go_simp;refine hK.out _ _ ?_ (fun hH30=>?_)
           ·have TT:=fun p (hp:p.block≠w.heap.size)=>set6_cell (W:=w7) (E:=w.heap.size) p hp (.int .i64 (rightOrF (lessK kd y nx) y).m) (.int .i64 (rightOrF (lessK kd y nx) y).a) (.int .i64 (rightOrF (lessK kd y nx) y).g) (.bool (rightOrF (lessK kd y nx) y).p) (.bool (rightOrF (lessK kd y nx) y).c) (.bool (rightOrF (lessK kd y nx) y).d)
            exact ⟨(TT ⟨N1,0,none⟩ n1X).trans ((B7.cell (p:=⟨N1,0,none⟩) hn1).trans c0),(TT ⟨N1,1,none⟩ n1X).trans ((B7.cell (p:=⟨N1,1,none⟩) hn1).trans c1),(TT ⟨N2,3,none⟩ n2X).trans ((B7.cell (p:=⟨N2,3,none⟩) hn2).trans r3)⟩
           clear hK K;try simp only [Act.put,sA,sZ,sS,gA,gZ,gS]
           refine dn ?_ _;go_wp2_with fail
           go_roundw
           case rel=>exact ⟨i+1,by omega,by go_num,by rw [uh HSN];exact uh HL⟩
           case measure=>simp [intOf];omega
     ·obtain ⟨m0,m1,m2,m3,m4,m5⟩:=row6 (uh HV4).1.x;go_simp;refine hK.out _ _ ?_ (fun hH31=>?_)
      ·exact ⟨c0,c1,r3⟩
      clear hK K m0 m1 m2 m3 m4 m5;try simp only [Act.put,sA,sZ,sS,gA,gZ,gS]
      refine wpAnyH_ready (rs:=[2,4]) (by kernel_rfl) (by simp) ?_;refine AllReadyH.cons rfl (fun K hK=>?_) (AllReadyH.cons rfl (fun K hK=>?_) AllReadyH.nil)
      ·obtain ⟨m0,m1,m2,m3,m4,m5⟩:=row6 (uh HV4).1.x;go_simp;refine hK.out _ _ ?_ (fun hH32=>?_)
       ·exact ⟨c0,c1,r3⟩
       clear hK K m0 m1 m2 m3 m4 m5;try simp only [Act.put,sA,sZ,sS,gA,gZ,gS]
       refine r1 4 rfl (fun K hK=>?_)
       ·go_simp;refine (uh CN _).mono ?_;rintro e w5 ⟨rfl,hb5⟩;have B5:Below q4.heap.size q4 w5:=(Below.refl _ _).drew.trans hb5;clear hb5;go_wp2_with fail
        refine hK.out _ _ ?_ (fun hH33=>?_)
        ·exact ⟨(B5.cell (p:=⟨N1,0,none⟩) hn1).trans c0,(B5.cell (p:=⟨N1,1,none⟩) hn1).trans c1,(B5.cell (p:=⟨N2,3,none⟩) hn2).trans r3⟩
        clear hK K;try simp only [Act.put,sA,sZ,sS,gA,gZ,gS]
        refine r1 5 rfl (fun K hK=>?_)
        ·go_simp;refine (uh HJ2 _).mono ?_;rintro e w6 ⟨rfl,hb6⟩;have B6:Below q4.heap.size q4 w6:=B5.trans (hb6.mono B5.size);clear hb6;go_wp2_with fail
         refine hK.out _ _ ?_ (fun hH34=>?_)
         ·exact ⟨(B6.cell (p:=⟨N1,0,none⟩) hn1).trans c0,(B6.cell (p:=⟨N1,1,none⟩) hn1).trans c1,(B6.cell (p:=⟨N2,3,none⟩) hn2).trans r3⟩
         clear hK K;try simp only [Act.put,sA,sZ,sS,gA,gZ,gS]
         refine r1 7 rfl (fun K hK=>?_)
         ·go_simp;refine (uh CO _).mono ?_;rintro e w7 ⟨rfl,hb7⟩;have B7:Below q4.heap.size q4 w7:=B6.trans (hb7.mono B6.size);clear hb7;go_wp2_with fail
          refine hK.out _ _ ?_ (fun hH35=>?_)
          ·exact ⟨(B7.cell (p:=⟨N1,0,none⟩) hn1).trans c0,(B7.cell (p:=⟨N1,1,none⟩) hn1).trans c1,(B7.cell (p:=⟨N2,3,none⟩) hn2).trans r3⟩
          clear hK K;try simp only [Act.put,sA,sZ,sS,gA,gZ,gS]
          refine r1 8 rfl (fun K hK=>?_)
          ·have h7:=(uh HV4).1.step B7;obtain ⟨m0,m1,m2,m3,m4,m5⟩:=row6 h7.x;obtain ⟨f0',f1',f2',f3',f4',f5'⟩:=row6g h7.x;have HL:=hide (h7.put hM (rightOrF (lessK kd y nx) y));clear h7;go_simp;refine hK.out _ _ ?_ (fun hH36=>?_)
           ·have TT:=fun p (hp:p.block≠w.heap.size)=>set6_cell (W:=w7) (E:=w.heap.size) p hp (.int .i64 (rightOrF (lessK kd y nx) y).m) (.int .i64 (rightOrF (lessK kd y nx) y).a) (.int .i64 (rightOrF (lessK kd y nx) y).g) (.bool (rightOrF (lessK kd y nx) y).p) (.bool (rightOrF (lessK kd y nx) y).c) (.bool (rightOrF (lessK kd y nx) y).d)
            exact ⟨(TT ⟨N1,0,none⟩ n1X).trans ((B7.cell (p:=⟨N1,0,none⟩) hn1).trans c0),(TT ⟨N1,1,none⟩ n1X).trans ((B7.cell (p:=⟨N1,1,none⟩) hn1).trans c1),(TT ⟨N2,3,none⟩ n2X).trans ((B7.cell (p:=⟨N2,3,none⟩) hn2).trans r3)⟩
           clear hK K;try simp only [Act.put,sA,sZ,sS,gA,gZ,gS]
           refine dn ?_ _;go_wp2_with fail
           go_roundw
           case rel=>exact ⟨i+1,by omega,by go_num,by rw [uh HSN];exact uh HL⟩
           case measure=>simp [intOf];omega
      ·go_simp;refine (uh CN _).mono ?_;rintro e w5 ⟨rfl,hb5⟩;have B5:Below q4.heap.size q4 w5:=(Below.refl _ _).drew.trans hb5;clear hb5;go_wp2_with fail
       refine hK.out _ _ ?_ (fun hH37=>?_)
       ·exact ⟨(B5.cell (p:=⟨N1,0,none⟩) hn1).trans c0,(B5.cell (p:=⟨N1,1,none⟩) hn1).trans c1,(B5.cell (p:=⟨N2,3,none⟩) hn2).trans r3⟩
       clear hK K;try simp only [Act.put,sA,sZ,sS,gA,gZ,gS]
       refine r1 2 rfl (fun K hK=>?_)
       ·obtain ⟨m0,m1,m2,m3,m4,m5⟩:=row6 ((uh HV4).1.step B5).x;go_simp;refine hK.out _ _ ?_ (fun hH38=>?_)
        ·exact ⟨(B5.cell (p:=⟨N1,0,none⟩) hn1).trans c0,(B5.cell (p:=⟨N1,1,none⟩) hn1).trans c1,(B5.cell (p:=⟨N2,3,none⟩) hn2).trans r3⟩
        clear hK K m0 m1 m2 m3 m4 m5;try simp only [Act.put,sA,sZ,sS,gA,gZ,gS]
        refine r1 5 rfl (fun K hK=>?_)
        ·go_simp;refine (uh HJ2 _).mono ?_;rintro e w6 ⟨rfl,hb6⟩;have B6:Below q4.heap.size q4 w6:=B5.trans (hb6.mono B5.size);clear hb6;go_wp2_with fail
         refine hK.out _ _ ?_ (fun hH39=>?_)
         ·exact ⟨(B6.cell (p:=⟨N1,0,none⟩) hn1).trans c0,(B6.cell (p:=⟨N1,1,none⟩) hn1).trans c1,(B6.cell (p:=⟨N2,3,none⟩) hn2).trans r3⟩
         clear hK K;try simp only [Act.put,sA,sZ,sS,gA,gZ,gS]
         refine r1 7 rfl (fun K hK=>?_)
         ·go_simp;refine (uh CO _).mono ?_;rintro e w7 ⟨rfl,hb7⟩;have B7:Below q4.heap.size q4 w7:=B6.trans (hb7.mono B6.size);clear hb7;go_wp2_with fail
          refine hK.out _ _ ?_ (fun hH40=>?_)
          ·exact ⟨(B7.cell (p:=⟨N1,0,none⟩) hn1).trans c0,(B7.cell (p:=⟨N1,1,none⟩) hn1).trans c1,(B7.cell (p:=⟨N2,3,none⟩) hn2).trans r3⟩
          clear hK K;try simp only [Act.put,sA,sZ,sS,gA,gZ,gS]
          refine r1 8 rfl (fun K hK=>?_)
          ·have h7:=(uh HV4).1.step B7;obtain ⟨m0,m1,m2,m3,m4,m5⟩:=row6 h7.x;obtain ⟨f0',f1',f2',f3',f4',f5'⟩:=row6g h7.x;have HL:=hide (h7.put hM (rightOrF (lessK kd y nx) y));clear h7;go_simp;refine hK.out _ _ ?_ (fun hH41=>?_)
           ·have TT:=fun p (hp:p.block≠w.heap.size)=>set6_cell (W:=w7) (E:=w.heap.size) p hp (.int .i64 (rightOrF (lessK kd y nx) y).m) (.int .i64 (rightOrF (lessK kd y nx) y).a) (.int .i64 (rightOrF (lessK kd y nx) y).g) (.bool (rightOrF (lessK kd y nx) y).p) (.bool (rightOrF (lessK kd y nx) y).c) (.bool (rightOrF (lessK kd y nx) y).d)
            exact ⟨(TT ⟨N1,0,none⟩ n1X).trans ((B7.cell (p:=⟨N1,0,none⟩) hn1).trans c0),(TT ⟨N1,1,none⟩ n1X).trans ((B7.cell (p:=⟨N1,1,none⟩) hn1).trans c1),(TT ⟨N2,3,none⟩ n2X).trans ((B7.cell (p:=⟨N2,3,none⟩) hn2).trans r3)⟩
           clear hK K;try simp only [Act.put,sA,sZ,sS,gA,gZ,gS]
           refine dn ?_ _;go_wp2_with fail
           go_roundw
           case rel=>exact ⟨i+1,by omega,by go_num,by rw [uh HSN];exact uh HL⟩
           case measure=>simp [intOf];omega
   ·have CR:=hide (ruleOf_no M kd dt q1 hS1.m hf);rw [if_neg (by rw [hs];intro e;cases e)] at HSN;clear hS1 hf;go_wp2_with fail
    refine (uh CR).mono ?_;rintro e w3' ⟨rfl,hb3⟩;have HV3:=hide ((uh HV1).1.step hb3);clear hb3 HV1 hl1 c0 c1 CR;go_wp2_with fail
    go_roundw
    case rel=>exact ⟨i+1,by omega,by go_num,by rw [uh HSN];exact (uh HV3).step ((Below.refl _ _).alloc (Nat.le_refl _) _)⟩
    case measure=>simp [intOf];omega
  ·have e:i=n:=by omega
   subst e;have d1:¬ ((i:Int)<(i:Int)):=by omega
   rw [uh HTL,uh HR] at hS;obtain ⟨m0,m1,m2,m3,m4,m5⟩:=row6 hS.x;obtain ⟨r0,r1,r2,r3,r4,r5⟩:=row6 hS.r;obtain ⟨f0,f1,f2,f3,f4,f5⟩:=row6g hS.r;have HS:=hide hS;clear hS HAT HFO HTL HR;go_wp2
   exact bodyPost_ret (v:=.agg (cfC R)) (by simp [results,results130,asAddr,loadC (set6_at (uh HS).r (.int .i64 R.m) (.int .i64 R.a) (.int .i64 R.g) (.bool R.p) (.bool R.c) (.bool R.d))]) rfl ⟨rfl,set6_below (uh HS).b (by omega) _ _ _ _ _ _⟩
end Go.Proofs.YtahpjlbaagkdoaaGreatDoor
