/- WkR -/
import Derived.Test.YtjebigodbnefiaaGreatDoorS12
set_option maxHeartbeats 8000000
set_option maxRecDepth 100000
namespace Go.Proofs.YtjebigodbnefiaaGreatDoor
open Go.RowKit Go.Proofs.Tryz
section
variable {w0 w1:World} {B:Nat} {c:Cx} {s:St} {v1 v2 vs vt:Value} {q:World}
theorem Lay.toPeer {T:TypeId} (h:Lay T w0 w1 B c s v1 v2 vs vt q):Lay T w0 w1 B c { s with F2:=c.hd } v1 c.vh vs vt (q.setCell ⟨B,18,none⟩ c.vh):=by
 have hr:=zH q B 18 _ _ c.vh h.row;rw [List.setIfInBounds_toArray] at hr;have hk:∀ k,k≠B→(q.setCell ⟨B,18,none⟩ c.vh).heap[k]?=q.heap[k]?:=fun k hk=>heap_setCell_other q _ _ _ hk
 exact ⟨hr,ak h.o1 fun g hg=>hk g fun e=>aq h.o1 h.row h.tt.1 (e ▸ hg),ak h.oh fun g hg=>hk g fun e=>aq h.oh h.row h.tt.1 (e ▸ hg),ak h.os fun g hg=>hk g fun e=>aq h.os h.row h.tt.2.1 (e ▸ hg),ak h.ot fun g hg=>hk g fun e=>aq h.ot h.row h.tt.2.2 (e ▸ hg),ak h.oh fun g hg=>hk g fun e=>aq h.oh h.row h.tt.1 (e ▸ hg),bS h.ha h.row h.tt.1 fun k _=>hk k,h.hB,h.tt,h.aph,h.aph,h.lo,h.nr.setCell 18 _⟩
theorem yE (h:Lay 182 w0 w1 B c s v1 v2 vs vt q) {n:Nat} (hf:Fit n c s) (hn:n≤1000) :
  Calls prog 283 #[.agg #[],.pointer (some ⟨B,0,none⟩)] q fun r q'=>r=.returned (.tuple #[])∧∃ vs',Lay 182 w0 w1 B c (qc c s) v1 v2 vs' vt q':=by
 have hb:Below q.heap.size q (q.alloc (.cells #[] 245)):=(zC _ _).alloc (zD _) _;have h0:=h.step hb;have c32:=h0.cell (i:=32) rfl;have HF:=aa hf;have HL:=aa h0;clear h h0 hb hf;go_enter func283,ntmps283
 go_wp2_with fail
 refine (gF (uh HL) (zE (uh HF).sn hn) 6 _ _).mono ?_;rintro r q1 ⟨rfl,vs1,h1⟩;go_wp2
 exact Great.bodyPost_end0 rfl rfl ⟨rfl,_,h1⟩
theorem yF (h:Lay 182 w0 w1 B c s v1 v2 vs vt q) {n:Nat} (hf:Fit n c s) (hn:n≤1000) :
  Calls prog 284 #[.agg #[],.pointer (some ⟨B,0,none⟩)] q fun r q'=>r=.returned (.tuple #[])∧∃ vs',Lay 182 w0 w1 B c (qd (jm c) s) v1 v2 vs' vt q':=by
 have hb:Below q.heap.size q (q.alloc (.cells #[] 246)):=(zC _ _).alloc (zD _) _;have h0:=h.step hb;have b31:=h0.cell (i:=31) rfl;have b32:=h0.cell (i:=32) rfl;have b33:=h0.cell (i:=33) rfl;have HF:=aa hf;have CP:=aa fun W=>lq ⟨c.cc,c.ci,c.cd⟩ W
 obtain ⟨tp,htp⟩:∃ tp,rE ⟨c.cc,c.ci,c.cd⟩=tp:=⟨_,rfl⟩;rw [htp] at CP;have HL:=aa h0;clear h h0 hb hf;go_enter func284,ntmps284
 go_wp2_with fail
 refine (uh CP _).mono ?_;rintro r q1 ⟨rfl,hb1⟩;have HL1:=aa ((uh HL).step hb1);clear hb1 HL b31 b32 b33;by_cases hk:250<tp.size
 ·have HT:jm c=tp.extract 0 250:=by unfold jm d8;rw [htp,if_pos hk]
  have d1:¬ ((tp.size:Int)≤250):=by omega
  have d2:(250:Int)≤(tp.size:Int):=by omega
  have d3:min (tp.size:Int) 250=250:=by omega
  go_upto_region 2 with fail
  refine aI (fun z=>Lay 182 w0 w1 B c (s) v1 v2 vs vt z) ?_ ?_
  ·exact uh HL1
  clear HL1;rintro z hz;have HZ:=aa (hz.step (zC _ _).drew);clear hz;refine wp_region_held_drew (S:=fun z=>True) (by kernel_rfl) ?_ (fun hHeld=>?_)
  ·exact trivial
  refine tq 0 1 2 3 ?_;refine tq 5 6 7 8 ?_;refine t2 9 ?_;refine r3 4 fun K hK=>?_
  go_simp;refine (nL (uh HZ) (uh HF).id).mono ?_;rintro r z1 ⟨rfl,h1⟩;have HZ1:=aa h1;clear h1;go_wp2_with fail
  refine ro hK ?_ fun _=>?_
  ·exact trivial
  clear hK K;refine r3 10 fun K hK=>?_
  go_simp;refine (gF (uh HZ1) (zE (uh HF).sn hn) 7 _ _).mono ?_;rintro r z4 ⟨rfl,vs4,h4⟩;have HP:=aa h4;clear h4;go_wp2_with fail
  refine ro hK ?_ fun _=>?_
  ·exact trivial
  clear hK K;refine dn ?_ _;go_wp2_with fail
  exact Great.bodyPost_end0 rfl rfl ⟨rfl,_,(by rw [HT];exact uh HP)⟩
 ·have HT:jm c=tp:=by unfold jm d8;rw [htp,if_neg hk]
  have d1:(tp.size:Int)≤250:=by omega
  have d2:min (tp.size:Int) 250=(tp.size:Int):=by omega
  have d3:tp.extract 0 tp.size=tp:=by simp
  go_upto_region 2 with fail
  refine aI (fun z=>Lay 182 w0 w1 B c (s) v1 v2 vs vt z) ?_ ?_
  ·exact uh HL1
  clear HL1;rintro z hz;have HZ:=aa (hz.step (zC _ _).drew);clear hz;refine wp_region_held_drew (S:=fun z=>True) (by kernel_rfl) ?_ (fun hHeld=>?_)
  ·exact trivial
  refine tq 0 1 2 3 ?_;refine tq 5 6 7 8 ?_;refine t2 9 ?_;refine r3 4 fun K hK=>?_
  go_simp;refine (nL (uh HZ) (uh HF).id).mono ?_;rintro r z1 ⟨rfl,h1⟩;have HZ1:=aa h1;clear h1;go_wp2_with fail
  refine ro hK ?_ fun _=>?_
  ·exact trivial
  clear hK K;refine r3 10 fun K hK=>?_
  go_simp;refine (gF (uh HZ1) (zE (uh HF).sn hn) 7 _ _).mono ?_;rintro r z4 ⟨rfl,vs4,h4⟩;have HP:=aa h4;clear h4;go_wp2_with fail
  refine ro hK ?_ fun _=>?_
  ·exact trivial
  clear hK K;refine dn ?_ _;go_wp2_with fail
  exact Great.bodyPost_end0 rfl rfl ⟨rfl,_,(by rw [HT];exact uh HP)⟩
theorem yG (h:Lay 182 w0 w1 B c s v1 v2 vs vt q) {n:Nat} (hf:Fit n c s) (hn:n≤1000) :
  Calls prog 285 #[.agg #[],.pointer (some ⟨B,0,none⟩)] q fun r q'=>r=.returned (.tuple #[])∧∃ vs',Lay 182 w0 w1 B c (fj c s) v1 v2 vs' vt q':=by
 have hb:Below q.heap.size q (q.alloc (.cells #[] 247)):=(zC _ _).alloc (zD _) _;have h0:=h.step hb;have HF:=aa hf;have b31:=h0.cell (i:=31) rfl;have b33:=h0.cell (i:=33) rfl;obtain ⟨_,_,e3⟩:=g_ hf.ask;have CP:=aa fun W=>pL s.e.g2.toNat W
 rw [e3] at CP;have hcd:=hf.cd;have HL1:=aa h0;clear h h0 hb hf;go_enter func285,ntmps285
 by_cases hk:c.cc=9∧4≤c.cd.size
 ·obtain ⟨k1,k2⟩:=hk;have HS:fj c s=gE s 10 c.ci (cK s.e.g2.toNat ++ c.cd.extract 4 c.cd.size):=by unfold fj gE;rw [if_pos ⟨k1,k2⟩]
  have d2:(4:Int)≤(c.cd.size:Int):=by omega
  go_upto_region 2 with fail
  refine aI (fun z=>Lay 182 w0 w1 B c (s) v1 v2 vs vt z) ?_ ?_
  ·exact uh HL1
  clear HL1 b31 b33;rintro z hz;have c8:=hz.cell (i:=8) rfl;have c32:=hz.cell (i:=32) rfl;have c33:=hz.cell (i:=33) rfl;have HZ:=aa (hz.step (zC _ _).drew);clear hz;refine wp_region_held_drew (S:=fun z=>z.cell? ⟨B,8,none⟩=some (.int .i64 s.e.g2)∧z.cell? ⟨B,32,none⟩=some (.int .i64 c.ci)∧z.cell? ⟨B,33,none⟩=some (.string c.cd)) (by kernel_rfl) ?_ (fun hHeld=>?_)
  ·exact ⟨c8,c32,c33⟩
  refine tq 0 1 2 3 ?_;refine tq 4 5 6 7 ?_;refine tq 8 9 10 11 ?_;refine tq 13 14 15 16 ?_;refine tt 17 18 ?_;refine r3 12 fun K hK=>?_
  go_simp;refine (uh CP _).mono ?_;rintro r z2 ⟨rfl,hb⟩;have HZ2:=aa ((uh HZ).step hb);clear hb;go_wp2_with fail
  refine ro hK ?_ fun _=>?_
  ·exact ⟨(uh HZ2).cell (i:=8) rfl,(uh HZ2).cell (i:=32) rfl,(uh HZ2).cell (i:=33) rfl⟩
  clear hK K;refine t4 19 (.string (cK s.e.g2.toNat ++ c.cd.extract 4 c.cd.size)) rfl (Or.inl ⟨by rfl,?hyr19⟩) ?_
  case hyr19 =>
   intro w hSw;go_simp;have hz4:(cK s.e.g2.toNat).size=4:=rfl;rw [hz4];omega
  try simp only [Act.put,sA,sZ,sS,gA,gZ,gS]
  refine r3 20 fun K hK=>?_
  go_simp;refine (gF (uh HZ2) (zE (uh HF).sn hn) 10 _ _).mono ?_;rintro r z4 ⟨rfl,vs4,h4⟩;have HP:=aa h4;clear h4;go_wp2_with fail
  refine ro hK ?_ fun _=>?_
  ·exact ⟨(uh HP).cell (i:=8) rfl,(uh HP).cell (i:=32) rfl,(uh HP).cell (i:=33) rfl⟩
  clear hK K;refine dn ?_ _;go_wp2_with fail
  exact Great.bodyPost_end0 rfl rfl ⟨rfl,_,(by rw [HS];exact uh HP)⟩
 ·have HS:fj c s=s:=by unfold fj;rw [if_neg hk]
  by_cases k1:c.cc=9
  ·have d2:¬ ((4:Int)≤(c.cd.size:Int)):=fun h=>hk ⟨k1,by omega⟩
   go_wp2
   exact Great.bodyPost_end0 rfl rfl ⟨rfl,_,by first | (rw [HS];exact uh HL1) | exact uh HL1⟩
  ·have k2:(c.cc == 9)=false:=beq_eq_false_iff_ne.2 k1;go_wp2
   exact Great.bodyPost_end0 rfl rfl ⟨rfl,_,by first | (rw [HS];exact uh HL1) | exact uh HL1⟩
theorem yH (h:Lay 182 w0 w1 B c s v1 v2 vs vt q) {n:Nat} (hf:Fit n c s) (hn:n≤1000) (hac:c.ac=2) :
  Calls prog 282 #[.agg #[],.pointer (some ⟨B,0,none⟩)] q fun r q'=>r=.returned (.tuple #[])∧∃ v2' vs',Lay 182 w0 w1 B c (p_ c s) v1 v2' vs' vt q':=by
 have hb:Below q.heap.size q (q.alloc (.cells #[] 244)):=(zC _ _).alloc (zD _) _;have h0:=h.step hb;have HF:=aa hf;obtain ⟨a9,p9,hva⟩:=h.ha.form;obtain ⟨a8,p8,hvh⟩:=h.hh.form;have hlen:c.ao.length≤20:=by have:=bz hf.ao;unfold Op.right at this;rw [Bool.and_eq_true] at this;exact of_decide_eq_true this.1
 have HL1:=aa h0;clear h h0 hb hf;go_enter func282,ntmps282
 go_upto_region 1 with fail
 refine aI (fun z=>Lay 182 w0 w1 B c (s) v1 v2 vs vt z) ?_ ?_
 ·exact uh HL1
 clear HL1;rintro z hz;have c32:=hz.cell (i:=32) rfl;have c35:=hz.cell (i:=35) rfl;have c36:=hz.cell (i:=36) (congrArg some hva);have HZ:=aa (hz.step (zC _ _).drew);clear hz;refine wp_region_held_drew (S:=fun z=>z.cell? ⟨B,32,none⟩=some (.int .i64 c.ci)∧z.cell? ⟨B,35,none⟩=some (.int .i64 c.ac)∧z.cell? ⟨B,36,none⟩=some (.slice a9 c.ao.length p9)) (by kernel_rfl) ?_ (fun hHeld=>?_)
 ·exact ⟨c32,c35,c36⟩
 refine tq 0 1 2 3 ?_;refine tq 4 5 6 7 ?_;refine tq 8 9 10 11 ?_;refine tq 12 13 14 15 ?_;refine r3 16 fun K hK=>?_
 go_simp;refine (cP _ c.ao _ (by unfold maxLen;omega) (hva ▸ (uh HZ).ha)).mono ?_;rintro r z2 ⟨rfl,hb⟩;have HZ2:=aa ((uh HZ).step hb);clear hb;go_wp2_with fail
 refine ro hK ?_ fun _=>?_
 ·exact ⟨(uh HZ2).cell (i:=32) rfl,(uh HZ2).cell (i:=35) rfl,(uh HZ2).cell (i:=36) (congrArg some hva)⟩
 clear hK K;refine r3 17 fun K hK=>?_
 go_simp;refine (gF (uh HZ2) (zE (uh HF).sn hn) _ _ _).mono ?_;rintro r z4 ⟨rfl,vs4,h4⟩;rw [fI (bz (uh HF).ao)] at h4;have HP:=aa h4;clear h4;go_wp2_with fail
 refine ro hK ?_ fun _=>?_
 ·exact ⟨(uh HP).cell (i:=32) rfl,(uh HP).cell (i:=35) rfl,(uh HP).cell (i:=36) (congrArg some hva)⟩
 clear hK K;refine dn ?_ _;have g35:=(uh HP).cell (i:=35) rfl;have g34:=(uh HP).cell (i:=34) (congrArg some hvh);have g18:=(uh HP).cell (i:=18) rfl;have f18:=(uh HP).frz 18;have h5:=(uh HP).toPeer;rw [hvh] at h5;have g16:=h5.cell (i:=16) rfl;have f16:=h5.frz 16;have HE:=aa (h5.setRaw 16 (.int .i64 0) { s.e with fl:=0 } rfl);clear h5;dsimp only [gE] at g16;go_wp2
 exact Great.bodyPost_end0 rfl rfl ⟨rfl,_,_,uh HE⟩
theorem yI (h:Lay 182 w0 w1 B c s v1 v2 vs vt q) {n:Nat} (hf:Fit n c s) (hn:n≤1000) (hac:c.ac≠2) :
  Calls prog 282 #[.agg #[],.pointer (some ⟨B,0,none⟩)] q fun r q'=>r=.returned (.tuple #[])∧∃ v2' vs',Lay 182 w0 w1 B c (fy c s) v1 v2' vs' vt q':=by
 have hb:Below q.heap.size q (q.alloc (.cells #[] 244)):=(zC _ _).alloc (zD _) _;have h0:=h.step hb;have HF:=aa hf;obtain ⟨a9,p9,hva⟩:=h.ha.form;obtain ⟨a8,p8,hvh⟩:=h.hh.form;have hlen:c.ao.length≤20:=by have:=bz hf.ao;unfold Op.right at this;rw [Bool.and_eq_true] at this;exact of_decide_eq_true this.1
 have HL1:=aa h0;clear h h0 hb hf;go_enter func282,ntmps282
 by_cases h3:c.ac=3
 ·have HS:fy c s={ s with e:={ s.e with fl:=min 3 (s.e.fl+1) },sn:=s.sn ++ [⟨c.ac,c.ci,co (Op.bytes c.ao)⟩] }:=by unfold fy;rw [if_pos h3]
  go_upto_region 1 with fail
  refine aI (fun z=>Lay 182 w0 w1 B c (s) v1 v2 vs vt z) ?_ ?_
  ·exact uh HL1
  clear HL1;rintro z hz;have c32:=hz.cell (i:=32) rfl;have c35:=hz.cell (i:=35) rfl;have c36:=hz.cell (i:=36) (congrArg some hva);have HZ:=aa (hz.step (zC _ _).drew);clear hz;refine wp_region_held_drew (S:=fun z=>z.cell? ⟨B,32,none⟩=some (.int .i64 c.ci)∧z.cell? ⟨B,35,none⟩=some (.int .i64 c.ac)∧z.cell? ⟨B,36,none⟩=some (.slice a9 c.ao.length p9)) (by kernel_rfl) ?_ (fun hHeld=>?_)
  ·exact ⟨c32,c35,c36⟩
  refine tq 0 1 2 3 ?_;refine tq 4 5 6 7 ?_;refine tq 8 9 10 11 ?_;refine tq 12 13 14 15 ?_;refine r3 16 fun K hK=>?_
  go_simp;refine (cP _ c.ao _ (by unfold maxLen;omega) (hva ▸ (uh HZ).ha)).mono ?_;rintro r z2 ⟨rfl,hb⟩;have HZ2:=aa ((uh HZ).step hb);clear hb;go_wp2_with fail
  refine ro hK ?_ fun _=>?_
  ·exact ⟨(uh HZ2).cell (i:=32) rfl,(uh HZ2).cell (i:=35) rfl,(uh HZ2).cell (i:=36) (congrArg some hva)⟩
  clear hK K;refine r3 17 fun K hK=>?_
  go_simp;refine (gF (uh HZ2) (zE (uh HF).sn hn) _ _ _).mono ?_;rintro r z4 ⟨rfl,vs4,h4⟩;rw [fI (bz (uh HF).ao)] at h4;have HP:=aa h4;clear h4;go_wp2_with fail
  refine ro hK ?_ fun _=>?_
  ·exact ⟨(uh HP).cell (i:=32) rfl,(uh HP).cell (i:=35) rfl,(uh HP).cell (i:=36) (congrArg some hva)⟩
  clear hK K;refine dn ?_ _;have g35:=(uh HP).cell (i:=35) rfl;have g16:=(uh HP).cell (i:=16) rfl;have f16:=(uh HP).frz 16;have hfl:=(uh HF).fl;have d3:min (s.e.fl+1) 3=min 3 (s.e.fl+1):=by omega
  have HE:=aa ((uh HP).setRaw 16 (.int .i64 (min 3 (s.e.fl+1))) { s.e with fl:=min 3 (s.e.fl+1) } rfl);dsimp only [gE] at g16;go_wp2
  exact Great.bodyPost_end0 rfl rfl ⟨rfl,_,_,by first | (rw [HS,h3];exact uh HE) | exact uh HE⟩
 ·have HS:fy c s=gE s c.ac c.ci (co (Op.bytes c.ao)):=by unfold fy gE;rw [if_neg h3]
  have h3b:(c.ac == 3)=false:=beq_eq_false_iff_ne.2 h3;have h2b:(c.ac == 2)=false:=beq_eq_false_iff_ne.2 hac;go_upto_region 1 with fail
  refine aI (fun z=>Lay 182 w0 w1 B c (s) v1 v2 vs vt z) ?_ ?_
  ·exact uh HL1
  clear HL1;rintro z hz;have c32:=hz.cell (i:=32) rfl;have c35:=hz.cell (i:=35) rfl;have c36:=hz.cell (i:=36) (congrArg some hva);have HZ:=aa (hz.step (zC _ _).drew);clear hz;refine wp_region_held_drew (S:=fun z=>z.cell? ⟨B,32,none⟩=some (.int .i64 c.ci)∧z.cell? ⟨B,35,none⟩=some (.int .i64 c.ac)∧z.cell? ⟨B,36,none⟩=some (.slice a9 c.ao.length p9)) (by kernel_rfl) ?_ (fun hHeld=>?_)
  ·exact ⟨c32,c35,c36⟩
  refine tq 0 1 2 3 ?_;refine tq 4 5 6 7 ?_;refine tq 8 9 10 11 ?_;refine tq 12 13 14 15 ?_;refine r3 16 fun K hK=>?_
  go_simp;refine (cP _ c.ao _ (by unfold maxLen;omega) (hva ▸ (uh HZ).ha)).mono ?_;rintro r z2 ⟨rfl,hb⟩;have HZ2:=aa ((uh HZ).step hb);clear hb;go_wp2_with fail
  refine ro hK ?_ fun _=>?_
  ·exact ⟨(uh HZ2).cell (i:=32) rfl,(uh HZ2).cell (i:=35) rfl,(uh HZ2).cell (i:=36) (congrArg some hva)⟩
  clear hK K;refine r3 17 fun K hK=>?_
  go_simp;refine (gF (uh HZ2) (zE (uh HF).sn hn) _ _ _).mono ?_;rintro r z4 ⟨rfl,vs4,h4⟩;rw [fI (bz (uh HF).ao)] at h4;have HP:=aa h4;clear h4;go_wp2_with fail
  refine ro hK ?_ fun _=>?_
  ·exact ⟨(uh HP).cell (i:=32) rfl,(uh HP).cell (i:=35) rfl,(uh HP).cell (i:=36) (congrArg some hva)⟩
  clear hK K;refine dn ?_ _;have g35:=(uh HP).cell (i:=35) rfl;go_wp2
  exact Great.bodyPost_end0 rfl rfl ⟨rfl,_,_,by first | (rw [HS];exact uh HP) | exact uh HP⟩
theorem wS (h:Lay 182 w0 w1 B c s v1 v2 vs vt q) {n:Nat} (hf:Fit n c s) :
  Calls prog 276 #[.pointer (some ⟨B,0,none⟩)] q fun r q'=>r=.returned (.tuple #[])∧Lay 182 w0 w1 B c { s with e:=sF (aQ s.F1) (aQ s.F2) s.e } v1 v2 vs vt q':=by
 obtain ⟨a1,p1,e1⟩:=af h.o1;obtain ⟨a2,p2,e2⟩:=af h.o2;subst e1 e2;have l20:∀ F,cC F=true→F.length≤maxLen:=fun F hF=>by
  have:=bz hF
  unfold Op.right at this;rw [Bool.and_eq_true] at this;have:=of_decide_eq_true this.1
  unfold maxLen;omega
 have C1:=aa fun W (k:HoldsO W (.slice a1 s.F1.length p1) s.F1)=>gv _ s.F1 W (l20 _ hf.f1) k
 have C2:=aa fun W (k:HoldsO W (.slice a2 s.F2.length p2) s.F2)=>gv _ s.F2 W (l20 _ hf.f2) k
 generalize aQ s.F1=L1 at *;generalize aQ s.F2=L2 at *;have HL1:=aa h;clear h hf l20;go_enter func276,ntmps276
 go_upto_region 0 with fail
 refine aI (fun z=>Lay 182 w0 w1 B c s (.slice a1 s.F1.length p1) (.slice a2 s.F2.length p2) vs vt z) ?_ ?_
 ·exact uh HL1
 clear HL1;rintro z hz;have c17:=hz.cell (i:=17) rfl;have c18:=hz.cell (i:=18) rfl;have HZ:=aa (hz.step (zC _ _).drew);clear hz;refine wp_region_held_drew (S:=fun z=>z.cell? ⟨B,17,none⟩=some (.slice a1 s.F1.length p1)∧z.cell? ⟨B,18,none⟩=some (.slice a2 s.F2.length p2)) (by kernel_rfl) ?_ (fun hHeld=>?_)
 ·exact ⟨c17,c18⟩
 refine tq 0 1 2 3 ?_;refine tq 4 5 6 8 ?_;refine tt 9 10 ?_;refine t2 11 ?_;refine r3 7 fun K hK=>?_
 go_simp;refine (uh C1 _ (HoldsO.own (uh HZ).o1)).mono ?_;rintro r z1 ⟨rfl,hb⟩;have HZ1:=aa ((uh HZ).step hb);clear hb;go_wp2_with fail
 refine ro hK ?_ fun _=>?_
 ·exact ⟨(uh HZ1).cell (i:=17) rfl,(uh HZ1).cell (i:=18) rfl⟩
 clear hK K;refine r3 12 fun K hK=>?_
 go_simp;refine (uh C2 _ (HoldsO.own (uh HZ1).o2)).mono ?_;rintro r z2 ⟨rfl,hb⟩;have HZ2:=aa ((uh HZ1).step hb);clear hb;go_wp2_with fail
 refine ro hK ?_ fun _=>?_
 ·exact ⟨(uh HZ2).cell (i:=17) rfl,(uh HZ2).cell (i:=18) rfl⟩
 clear hK K;have k19:=(uh HZ2).cell (i:=19) rfl;have f19:=(uh HZ2).frz 19;have t19:=(uh HZ2).setRaw 19 (.bool true) { s.e with up:=true } rfl;have k20:=t19.cell (i:=20) rfl;have f20:=t19.frz 20;have t20:=t19.setRaw 20 (.int .i64 L1.m) { s.e with up:=true,i1:=L1.m } rfl;have k21:=t20.cell (i:=21) rfl;have f21:=t20.frz 21;have t21:=t20.setRaw 21 (.int .i64 L1.a) { s.e with up:=true,i1:=L1.m,i2:=L1.a } rfl;have k22:=t21.cell (i:=22) rfl;have f22:=t21.frz 22;have t22:=t21.setRaw 22 (.bool L1.p) { s.e with up:=true,i1:=L1.m,i2:=L1.a,i3:=L1.p } rfl;have k23:=t22.cell (i:=23) rfl;have f23:=t22.frz 23;have t23:=t22.setRaw 23 (.bool L1.c) { s.e with up:=true,i1:=L1.m,i2:=L1.a,i3:=L1.p,i4:=L1.c } rfl;have k24:=t23.cell (i:=24) rfl;have f24:=t23.frz 24;have t24:=t23.setRaw 24 (.bool L1.d) { s.e with up:=true,i1:=L1.m,i2:=L1.a,i3:=L1.p,i4:=L1.c,i5:=L1.d } rfl;have k25:=t24.cell (i:=25) rfl;have f25:=t24.frz 25;have t25:=t24.setRaw 25 (.int .i64 L2.m) { s.e with up:=true,i1:=L1.m,i2:=L1.a,i3:=L1.p,i4:=L1.c,i5:=L1.d,o1:=L2.m } rfl;have k26:=t25.cell (i:=26) rfl;have f26:=t25.frz 26;have t26:=t25.setRaw 26 (.int .i64 L2.a) { s.e with up:=true,i1:=L1.m,i2:=L1.a,i3:=L1.p,i4:=L1.c,i5:=L1.d,o1:=L2.m,o2:=L2.a } rfl;have k27:=t26.cell (i:=27) rfl;have f27:=t26.frz 27;have t27:=t26.setRaw 27 (.bool L2.p) { s.e with up:=true,i1:=L1.m,i2:=L1.a,i3:=L1.p,i4:=L1.c,i5:=L1.d,o1:=L2.m,o2:=L2.a,o3:=L2.p } rfl;have k28:=t27.cell (i:=28) rfl;have f28:=t27.frz 28;have t28:=t27.setRaw 28 (.bool L2.c) { s.e with up:=true,i1:=L1.m,i2:=L1.a,i3:=L1.p,i4:=L1.c,i5:=L1.d,o1:=L2.m,o2:=L2.a,o3:=L2.p,o4:=L2.c } rfl;have k29:=t28.cell (i:=29) rfl;have f29:=t28.frz 29;have t29:=t28.setRaw 29 (.bool L2.d) (sF L1 L2 s.e) rfl;have T19:=aa t19;have T24:=aa t24;have T29:=aa t29;clear t19 t20 t21 t22 t23 t24 t25 t26 t27 t28 t29;dsimp only at k20 k21 k22 k23 k24 k25 k26 k27 k28 k29;refine tt 13 14 ?_;refine r3 15 fun K hK=>?_
 go_simp;refine ro hK ?_ fun _=>?_
 ·exact ⟨(uh T19).cell (i:=17) rfl,(uh T19).cell (i:=18) rfl⟩
 clear hK K;refine tt 16 17 ?_;refine r3 18 fun K hK=>?_
 go_simp;refine ro hK ?_ fun _=>?_
 ·exact ⟨(uh T24).cell (i:=17) rfl,(uh T24).cell (i:=18) rfl⟩
 clear hK K;refine tt 19 20 ?_;refine r3 21 fun K hK=>?_
 go_simp;refine ro hK ?_ fun _=>?_
 ·exact ⟨(uh T29).cell (i:=17) rfl,(uh T29).cell (i:=18) rfl⟩
 clear hK K;refine dn ?_ _;go_wp2_with fail
 exact Great.bodyPost_end0 rfl rfl ⟨rfl,uh T29⟩
theorem yJ (h:Lay 182 w0 w1 B c s v1 v2 vs vt q) {n:Nat} (hf:Fit n c s) :
  Calls prog 275 #[.agg #[.string dz],.pointer (some ⟨B,0,none⟩)] q fun r q'=>r=.returned (.tuple #[])∧Lay 182 w0 w1 B c { s with e:=sF (aQ s.F1) (aQ s.F2) s.e } v1 v2 vs vt q':=by
 have hb:Below q.heap.size q (q.alloc (.cells #[.string dz] 218)):=(zC _ _).alloc (zD _) _;have HL:=aa (h.step hb);have HF:=aa hf;clear h hb hf;go_enter func275,ntmps275
 go_wp2_with fail
 refine (wS (uh HL) (uh HF)).mono ?_;rintro r q1 ⟨rfl,h1⟩;go_wp2
 exact Great.bodyPost_end0 rfl rfl ⟨rfl,h1⟩
end
end Go.Proofs.YtjebigodbnefiaaGreatDoor
