/- WkR -/
import Derived.Test.YtahpjlbaagkdoaaGreatDoorS11
set_option maxHeartbeats 8000000
set_option maxRecDepth 100000
namespace Go.Proofs.YtahpjlbaagkdoaaGreatDoor
open Go.RowKit Go.Proofs.Tryz
section
variable {w0 w1:World} {B:Nat} {c:Cx} {s:St} {v1 v2 vs vt:Value} {q:World}
theorem Lay.toPeer {T:TypeId} (h:Lay T w0 w1 B c s v1 v2 vs vt q):Lay T w0 w1 B c { s with F2:=c.hd } v1 c.vh vs vt (q.setCell ⟨B,18,none⟩ c.vh):=by
 have hr:=heap_setCell_same q B 18 _ _ c.vh h.row;rw [List.setIfInBounds_toArray] at hr;have hk:∀ k,k≠B→(q.setCell ⟨B,18,none⟩ c.vh).heap[k]?=q.heap[k]?:=fun k hk=>heap_setCell_other q _ _ _ hk
 exact ⟨hr,own_other h.o1 fun g hg=>hk g fun e=>own_ty h.o1 h.row h.tt.1 (e ▸ hg),own_other h.oh fun g hg=>hk g fun e=>own_ty h.oh h.row h.tt.1 (e ▸ hg),own_other h.os fun g hg=>hk g fun e=>own_ty h.os h.row h.tt.2.1 (e ▸ hg),own_other h.ot fun g hg=>hk g fun e=>own_ty h.ot h.row h.tt.2.2 (e ▸ hg),own_other h.oh fun g hg=>hk g fun e=>own_ty h.oh h.row h.tt.1 (e ▸ hg),hold_ty h.ha h.row h.tt.1 fun k _=>hk k,h.hB,h.tt,h.aph,h.aph,h.lo,h.nr.setCell 18 _⟩
theorem iSta (h:Lay 83 w0 w1 B c s v1 v2 vs vt q) {n:Nat} (hf:Fit n c s) (hn:n≤1000) :
  Calls prog 243 #[.agg #[],.pointer (some ⟨B,0,none⟩)] q fun r q'=>r=.returned (.tuple #[])∧∃ vs',Lay 83 w0 w1 B c (doSta c s) v1 v2 vs' vt q':=by
 have hb:Below q.heap.size q (q.alloc (.cells #[] 161)):=(Below.refl _ _).alloc (Nat.le_refl _) _;have h0:=h.step hb;have c32:=h0.cell (i:=32) rfl;have HF:=hide hf;have HL:=hide h0;clear h h0 hb hf;go_enter func243,ntmps243
 go_wp2_with fail
 refine (iSend (uh HL) (Nat.le_trans (uh HF).sn hn) 6 _ _).mono ?_;rintro r q1 ⟨rfl,vs1,h1⟩;go_wp2
 exact Great.bodyPost_end0 rfl rfl ⟨rfl,_,h1⟩
theorem iScj (h:Lay 83 w0 w1 B c s v1 v2 vs vt q) {n:Nat} (hf:Fit n c s) (hn:n≤1000) :
  Calls prog 244 #[.agg #[],.pointer (some ⟨B,0,none⟩)] q fun r q'=>r=.returned (.tuple #[])∧∃ vs',Lay 83 w0 w1 B c (doScj (cameT c) s) v1 v2 vs' vt q':=by
 have hb:Below q.heap.size q (q.alloc (.cells #[] 162)):=(Below.refl _ _).alloc (Nat.le_refl _) _;have h0:=h.step hb;have b31:=h0.cell (i:=31) rfl;have b32:=h0.cell (i:=32) rfl;have b33:=h0.cell (i:=33) rfl;have HF:=hide hf;have CP:=hide fun W=>implPkBytes ⟨c.cc,c.ci,c.cd⟩ W
 obtain ⟨tp,htp⟩:∃ tp,ptV ⟨c.cc,c.ci,c.cd⟩=tp:=⟨_,rfl⟩;rw [htp] at CP;have HL:=hide h0;clear h h0 hb hf;go_enter func244,ntmps244
 go_wp2_with fail
 refine (uh CP _).mono ?_;rintro r q1 ⟨rfl,hb1⟩;have HL1:=hide ((uh HL).step hb1);clear hb1 HL b31 b32 b33;by_cases hk:250<tp.size
 ·have HT:cameT c=tp.extract 0 250:=by unfold cameT first250;rw [htp,if_pos hk]
  have d1:¬ ((tp.size:Int)≤250):=by omega
  have d2:(250:Int)≤(tp.size:Int):=by omega
  have d3:min (tp.size:Int) 250=250:=by omega
  go_upto_region 2 with fail
  refine gen_world (fun z=>Lay 83 w0 w1 B c (s) v1 v2 vs vt z) ?_ ?_
  ·exact uh HL1
  clear HL1;rintro z hz;have HZ:=hide (hz.step (Below.refl _ _).drew);clear hz;refine wp_region_held_drew (S:=fun z=>True) (by kernel_rfl) ?_ (fun hHeld=>?_)
  ·exact trivial
  refine t2 0 ?_;refine t2 1 ?_;refine t2 2 ?_;refine t2 3 ?_;refine t2 5 ?_;refine t2 6 ?_;refine t2 7 ?_;refine t2 8 ?_;refine t2 9 ?_;refine r1 4 rfl (fun K hK=>?_);go_simp;refine (iNext (uh HZ) (uh HF).id).mono ?_;rintro r z1 ⟨rfl,h1⟩;have HZ1:=hide h1;clear h1;go_wp2_with fail
  refine ro hK ?_ fun _=>?_
  ·exact trivial
  clear hK K;refine r1 10 rfl (fun K hK=>?_);go_simp;refine (iSend (uh HZ1) (Nat.le_trans (uh HF).sn hn) 7 _ _).mono ?_;rintro r z4 ⟨rfl,vs4,h4⟩;have HP:=hide h4;clear h4;go_wp2_with fail
  refine ro hK ?_ fun _=>?_
  ·exact trivial
  clear hK K;refine dn ?_ _;go_wp2_with fail
  exact Great.bodyPost_end0 rfl rfl ⟨rfl,_,(by rw [HT];exact uh HP)⟩
 ·have HT:cameT c=tp:=by unfold cameT first250;rw [htp,if_neg hk]
  have d1:(tp.size:Int)≤250:=by omega
  have d2:min (tp.size:Int) 250=(tp.size:Int):=by omega
  have d3:tp.extract 0 tp.size=tp:=by simp
  go_upto_region 2 with fail
  refine gen_world (fun z=>Lay 83 w0 w1 B c (s) v1 v2 vs vt z) ?_ ?_
  ·exact uh HL1
  clear HL1;rintro z hz;have HZ:=hide (hz.step (Below.refl _ _).drew);clear hz;refine wp_region_held_drew (S:=fun z=>True) (by kernel_rfl) ?_ (fun hHeld=>?_)
  ·exact trivial
  refine t2 0 ?_;refine t2 1 ?_;refine t2 2 ?_;refine t2 3 ?_;refine t2 5 ?_;refine t2 6 ?_;refine t2 7 ?_;refine t2 8 ?_;refine t2 9 ?_;refine r1 4 rfl (fun K hK=>?_);go_simp;refine (iNext (uh HZ) (uh HF).id).mono ?_;rintro r z1 ⟨rfl,h1⟩;have HZ1:=hide h1;clear h1;go_wp2_with fail
  refine ro hK ?_ fun _=>?_
  ·exact trivial
  clear hK K;refine r1 10 rfl (fun K hK=>?_);go_simp;refine (iSend (uh HZ1) (Nat.le_trans (uh HF).sn hn) 7 _ _).mono ?_;rintro r z4 ⟨rfl,vs4,h4⟩;have HP:=hide h4;clear h4;go_wp2_with fail
  refine ro hK ?_ fun _=>?_
  ·exact trivial
  clear hK K;refine dn ?_ _;go_wp2_with fail
  exact Great.bodyPost_end0 rfl rfl ⟨rfl,_,(by rw [HT];exact uh HP)⟩
theorem iSer (h:Lay 83 w0 w1 B c s v1 v2 vs vt q) {n:Nat} (hf:Fit n c s) (hn:n≤1000) :
  Calls prog 247 #[.agg #[],.pointer (some ⟨B,0,none⟩)] q fun r q'=>r=.returned (.tuple #[])∧∃ vs',Lay 83 w0 w1 B c (doSer c s) v1 v2 vs' vt q':=by
 have hb:Below q.heap.size q (q.alloc (.cells #[] 163)):=(Below.refl _ _).alloc (Nat.le_refl _) _;have h0:=h.step hb;have HF:=hide hf;have b31:=h0.cell (i:=31) rfl;have b33:=h0.cell (i:=33) rfl;obtain ⟨_,_,e3⟩:=cfgNat hf.ask;have CP:=hide fun W=>num4 s.e.g2.toNat W
 rw [e3] at CP;have hcd:=hf.cd;have HL1:=hide h0;clear h h0 hb hf;go_enter func247,ntmps247
 by_cases hk:c.cc=9∧4≤c.cd.size
 ·obtain ⟨k1,k2⟩:=hk;have HS:doSer c s=putS s 10 c.ci (put4 s.e.g2.toNat ++ c.cd.extract 4 c.cd.size):=by unfold doSer putS;rw [if_pos ⟨k1,k2⟩]
  have d2:(4:Int)≤(c.cd.size:Int):=by omega
  go_upto_region 2 with fail
  refine gen_world (fun z=>Lay 83 w0 w1 B c (s) v1 v2 vs vt z) ?_ ?_
  ·exact uh HL1
  clear HL1 b31 b33;rintro z hz;have c8:=hz.cell (i:=8) rfl;have c32:=hz.cell (i:=32) rfl;have c33:=hz.cell (i:=33) rfl;have HZ:=hide (hz.step (Below.refl _ _).drew);clear hz;refine wp_region_held_drew (S:=fun z=>z.cell? ⟨B,8,none⟩=some (.int .i64 s.e.g2)∧z.cell? ⟨B,32,none⟩=some (.int .i64 c.ci)∧z.cell? ⟨B,33,none⟩=some (.string c.cd)) (by kernel_rfl) ?_ (fun hHeld=>?_)
  ·exact ⟨c8,c32,c33⟩
  refine t2 0 ?_;refine t2 1 ?_;refine t2 2 ?_;refine t2 3 ?_;refine t2 4 ?_;refine t2 5 ?_;refine t2 6 ?_;refine t2 7 ?_;refine t2 8 ?_;refine t2 9 ?_;refine t2 10 ?_;refine t2 11 ?_;refine t2 13 ?_;refine t2 14 ?_;refine t2 15 ?_;refine t2 16 ?_;refine t2 17 ?_;refine t2 18 ?_;refine r1 12 rfl (fun K hK=>?_);go_simp;refine (uh CP _).mono ?_;rintro r z2 ⟨rfl,hb⟩;have HZ2:=hide ((uh HZ).step hb);clear hb;go_wp2_with fail
  refine ro hK ?_ fun _=>?_
  ·exact ⟨(uh HZ2).cell (i:=8) rfl,(uh HZ2).cell (i:=32) rfl,(uh HZ2).cell (i:=33) rfl⟩
  clear hK K;refine t4 19 (.string (put4 s.e.g2.toNat ++ c.cd.extract 4 c.cd.size)) rfl (Or.inl ⟨by rfl,?hyr19⟩) ?_
  case hyr19 =>
   intro w hSw;go_simp;have hz4:(put4 s.e.g2.toNat).size=4:=rfl;rw [hz4];omega
  try simp only [Act.put,sA,sZ,sS,gA,gZ,gS]
  refine r1 20 rfl (fun K hK=>?_);go_simp;refine (iSend (uh HZ2) (Nat.le_trans (uh HF).sn hn) 10 _ _).mono ?_;rintro r z4 ⟨rfl,vs4,h4⟩;have HP:=hide h4;clear h4;go_wp2_with fail
  refine ro hK ?_ fun _=>?_
  ·exact ⟨(uh HP).cell (i:=8) rfl,(uh HP).cell (i:=32) rfl,(uh HP).cell (i:=33) rfl⟩
  clear hK K;refine dn ?_ _;go_wp2_with fail
  exact Great.bodyPost_end0 rfl rfl ⟨rfl,_,(by rw [HS];exact uh HP)⟩
 ·have HS:doSer c s=s:=by unfold doSer;rw [if_neg hk]
  by_cases k1:c.cc=9
  ·have d2:¬ ((4:Int)≤(c.cd.size:Int)):=fun h=>hk ⟨k1,by omega⟩
   go_wp2
   exact Great.bodyPost_end0 rfl rfl ⟨rfl,_,by first | (rw [HS];exact uh HL1) | exact uh HL1⟩
  ·have k2:(c.cc == 9)=false:=beq_eq_false_iff_ne.2 k1;go_wp2
   exact Great.bodyPost_end0 rfl rfl ⟨rfl,_,by first | (rw [HS];exact uh HL1) | exact uh HL1⟩
theorem iAck (h:Lay 83 w0 w1 B c s v1 v2 vs vt q) {n:Nat} (hf:Fit n c s) (hn:n≤1000) (hac:c.ac=2) :
  Calls prog 242 #[.agg #[],.pointer (some ⟨B,0,none⟩)] q fun r q'=>r=.returned (.tuple #[])∧∃ v2' vs',Lay 83 w0 w1 B c (doSca c s) v1 v2' vs' vt q':=by
 have hb:Below q.heap.size q (q.alloc (.cells #[] 160)):=(Below.refl _ _).alloc (Nat.le_refl _) _;have h0:=h.step hb;have HF:=hide hf;obtain ⟨a9,p9,hva⟩:=h.ha.form;obtain ⟨a8,p8,hvh⟩:=h.hh.form;have hlen:c.ao.length≤20:=by have:=opOk_right hf.ao;unfold Op.right at this;rw [Bool.and_eq_true] at this;exact of_decide_eq_true this.1
 have HL1:=hide h0;clear h h0 hb hf;go_enter func242,ntmps242
 go_upto_region 1 with fail
 refine gen_world (fun z=>Lay 83 w0 w1 B c (s) v1 v2 vs vt z) ?_ ?_
 ·exact uh HL1
 clear HL1;rintro z hz;have c32:=hz.cell (i:=32) rfl;have c35:=hz.cell (i:=35) rfl;have c36:=hz.cell (i:=36) (congrArg some hva);have HZ:=hide (hz.step (Below.refl _ _).drew);clear hz;refine wp_region_held_drew (S:=fun z=>z.cell? ⟨B,32,none⟩=some (.int .i64 c.ci)∧z.cell? ⟨B,35,none⟩=some (.int .i64 c.ac)∧z.cell? ⟨B,36,none⟩=some (.slice a9 c.ao.length p9)) (by kernel_rfl) ?_ (fun hHeld=>?_)
 ·exact ⟨c32,c35,c36⟩
 refine t2 0 ?_;refine t2 1 ?_;refine t2 2 ?_;refine t2 3 ?_;refine t2 4 ?_;refine t2 5 ?_;refine t2 6 ?_;refine t2 7 ?_;refine t2 8 ?_;refine t2 9 ?_;refine t2 10 ?_;refine t2 11 ?_;refine t2 12 ?_;refine t2 13 ?_;refine t2 14 ?_;refine t2 15 ?_;refine r1 16 rfl (fun K hK=>?_);go_simp;refine (implBytesAll _ c.ao _ (by unfold maxLen;omega) (hva ▸ (uh HZ).ha)).mono ?_;rintro r z2 ⟨rfl,hb⟩;have HZ2:=hide ((uh HZ).step hb);clear hb;go_wp2_with fail
 refine ro hK ?_ fun _=>?_
 ·exact ⟨(uh HZ2).cell (i:=32) rfl,(uh HZ2).cell (i:=35) rfl,(uh HZ2).cell (i:=36) (congrArg some hva)⟩
 clear hK K;refine r1 17 rfl (fun K hK=>?_);go_simp;refine (iSend (uh HZ2) (Nat.le_trans (uh HF).sn hn) _ _ _).mono ?_;rintro r z4 ⟨rfl,vs4,h4⟩;rw [otV_yes (opOk_right (uh HF).ao)] at h4;have HP:=hide h4;clear h4;go_wp2_with fail
 refine ro hK ?_ fun _=>?_
 ·exact ⟨(uh HP).cell (i:=32) rfl,(uh HP).cell (i:=35) rfl,(uh HP).cell (i:=36) (congrArg some hva)⟩
 clear hK K;refine dn ?_ _;have g35:=(uh HP).cell (i:=35) rfl;have g34:=(uh HP).cell (i:=34) (congrArg some hvh);have g18:=(uh HP).cell (i:=18) rfl;have f18:=(uh HP).frz 18;have h5:=(uh HP).toPeer;rw [hvh] at h5;have g16:=h5.cell (i:=16) rfl;have f16:=h5.frz 16;have HE:=hide (h5.setRaw 16 (.int .i64 0) { s.e with fl:=0 } rfl);clear h5;dsimp only [putS] at g16;go_wp2
 exact Great.bodyPost_end0 rfl rfl ⟨rfl,_,_,uh HE⟩
theorem iNak (h:Lay 83 w0 w1 B c s v1 v2 vs vt q) {n:Nat} (hf:Fit n c s) (hn:n≤1000) (hac:c.ac≠2) :
  Calls prog 242 #[.agg #[],.pointer (some ⟨B,0,none⟩)] q fun r q'=>r=.returned (.tuple #[])∧∃ v2' vs',Lay 83 w0 w1 B c (doScn c s) v1 v2' vs' vt q':=by
 have hb:Below q.heap.size q (q.alloc (.cells #[] 160)):=(Below.refl _ _).alloc (Nat.le_refl _) _;have h0:=h.step hb;have HF:=hide hf;obtain ⟨a9,p9,hva⟩:=h.ha.form;obtain ⟨a8,p8,hvh⟩:=h.hh.form;have hlen:c.ao.length≤20:=by have:=opOk_right hf.ao;unfold Op.right at this;rw [Bool.and_eq_true] at this;exact of_decide_eq_true this.1
 have HL1:=hide h0;clear h h0 hb hf;go_enter func242,ntmps242
 by_cases h3:c.ac=3
 ·have HS:doScn c s={ s with e:={ s.e with fl:=min 3 (s.e.fl+1) },sn:=s.sn ++ [⟨c.ac,c.ci,txt (Op.bytes c.ao)⟩] }:=by unfold doScn;rw [if_pos h3]
  go_upto_region 1 with fail
  refine gen_world (fun z=>Lay 83 w0 w1 B c (s) v1 v2 vs vt z) ?_ ?_
  ·exact uh HL1
  clear HL1;rintro z hz;have c32:=hz.cell (i:=32) rfl;have c35:=hz.cell (i:=35) rfl;have c36:=hz.cell (i:=36) (congrArg some hva);have HZ:=hide (hz.step (Below.refl _ _).drew);clear hz;refine wp_region_held_drew (S:=fun z=>z.cell? ⟨B,32,none⟩=some (.int .i64 c.ci)∧z.cell? ⟨B,35,none⟩=some (.int .i64 c.ac)∧z.cell? ⟨B,36,none⟩=some (.slice a9 c.ao.length p9)) (by kernel_rfl) ?_ (fun hHeld=>?_)
  ·exact ⟨c32,c35,c36⟩
  refine t2 0 ?_;refine t2 1 ?_;refine t2 2 ?_;refine t2 3 ?_;refine t2 4 ?_;refine t2 5 ?_;refine t2 6 ?_;refine t2 7 ?_;refine t2 8 ?_;refine t2 9 ?_;refine t2 10 ?_;refine t2 11 ?_;refine t2 12 ?_;refine t2 13 ?_;refine t2 14 ?_;refine t2 15 ?_;refine r1 16 rfl (fun K hK=>?_);go_simp;refine (implBytesAll _ c.ao _ (by unfold maxLen;omega) (hva ▸ (uh HZ).ha)).mono ?_;rintro r z2 ⟨rfl,hb⟩;have HZ2:=hide ((uh HZ).step hb);clear hb;go_wp2_with fail
  refine ro hK ?_ fun _=>?_
  ·exact ⟨(uh HZ2).cell (i:=32) rfl,(uh HZ2).cell (i:=35) rfl,(uh HZ2).cell (i:=36) (congrArg some hva)⟩
  clear hK K;refine r1 17 rfl (fun K hK=>?_);go_simp;refine (iSend (uh HZ2) (Nat.le_trans (uh HF).sn hn) _ _ _).mono ?_;rintro r z4 ⟨rfl,vs4,h4⟩;rw [otV_yes (opOk_right (uh HF).ao)] at h4;have HP:=hide h4;clear h4;go_wp2_with fail
  refine ro hK ?_ fun _=>?_
  ·exact ⟨(uh HP).cell (i:=32) rfl,(uh HP).cell (i:=35) rfl,(uh HP).cell (i:=36) (congrArg some hva)⟩
  clear hK K;refine dn ?_ _;have g35:=(uh HP).cell (i:=35) rfl;have g16:=(uh HP).cell (i:=16) rfl;have f16:=(uh HP).frz 16;have hfl:=(uh HF).fl;have d3:min (s.e.fl+1) 3=min 3 (s.e.fl+1):=by omega
  have HE:=hide ((uh HP).setRaw 16 (.int .i64 (min 3 (s.e.fl+1))) { s.e with fl:=min 3 (s.e.fl+1) } rfl);dsimp only [putS] at g16;go_wp2
  exact Great.bodyPost_end0 rfl rfl ⟨rfl,_,_,by first | (rw [HS,h3];exact uh HE) | exact uh HE⟩
 ·have HS:doScn c s=putS s c.ac c.ci (txt (Op.bytes c.ao)):=by unfold doScn putS;rw [if_neg h3]
  have h3b:(c.ac == 3)=false:=beq_eq_false_iff_ne.2 h3;have h2b:(c.ac == 2)=false:=beq_eq_false_iff_ne.2 hac;go_upto_region 1 with fail
  refine gen_world (fun z=>Lay 83 w0 w1 B c (s) v1 v2 vs vt z) ?_ ?_
  ·exact uh HL1
  clear HL1;rintro z hz;have c32:=hz.cell (i:=32) rfl;have c35:=hz.cell (i:=35) rfl;have c36:=hz.cell (i:=36) (congrArg some hva);have HZ:=hide (hz.step (Below.refl _ _).drew);clear hz;refine wp_region_held_drew (S:=fun z=>z.cell? ⟨B,32,none⟩=some (.int .i64 c.ci)∧z.cell? ⟨B,35,none⟩=some (.int .i64 c.ac)∧z.cell? ⟨B,36,none⟩=some (.slice a9 c.ao.length p9)) (by kernel_rfl) ?_ (fun hHeld=>?_)
  ·exact ⟨c32,c35,c36⟩
  refine t2 0 ?_;refine t2 1 ?_;refine t2 2 ?_;refine t2 3 ?_;refine t2 4 ?_;refine t2 5 ?_;refine t2 6 ?_;refine t2 7 ?_;refine t2 8 ?_;refine t2 9 ?_;refine t2 10 ?_;refine t2 11 ?_;refine t2 12 ?_;refine t2 13 ?_;refine t2 14 ?_;refine t2 15 ?_;refine r1 16 rfl (fun K hK=>?_);go_simp;refine (implBytesAll _ c.ao _ (by unfold maxLen;omega) (hva ▸ (uh HZ).ha)).mono ?_;rintro r z2 ⟨rfl,hb⟩;have HZ2:=hide ((uh HZ).step hb);clear hb;go_wp2_with fail
  refine ro hK ?_ fun _=>?_
  ·exact ⟨(uh HZ2).cell (i:=32) rfl,(uh HZ2).cell (i:=35) rfl,(uh HZ2).cell (i:=36) (congrArg some hva)⟩
  clear hK K;refine r1 17 rfl (fun K hK=>?_);go_simp;refine (iSend (uh HZ2) (Nat.le_trans (uh HF).sn hn) _ _ _).mono ?_;rintro r z4 ⟨rfl,vs4,h4⟩;rw [otV_yes (opOk_right (uh HF).ao)] at h4;have HP:=hide h4;clear h4;go_wp2_with fail
  refine ro hK ?_ fun _=>?_
  ·exact ⟨(uh HP).cell (i:=32) rfl,(uh HP).cell (i:=35) rfl,(uh HP).cell (i:=36) (congrArg some hva)⟩
  clear hK K;refine dn ?_ _;have g35:=(uh HP).cell (i:=35) rfl;go_wp2
  exact Great.bodyPost_end0 rfl rfl ⟨rfl,_,_,by first | (rw [HS];exact uh HP) | exact uh HP⟩
theorem iRise (h:Lay 83 w0 w1 B c s v1 v2 vs vt q) {n:Nat} (hf:Fit n c s) :
  Calls prog 235 #[.pointer (some ⟨B,0,none⟩)] q fun r q'=>r=.returned (.tuple #[])∧Lay 83 w0 w1 B c { s with e:=upE (lineOf s.F1) (lineOf s.F2) s.e } v1 v2 vs vt q':=by
 obtain ⟨a1,p1,e1⟩:=own_form h.o1;obtain ⟨a2,p2,e2⟩:=own_form h.o2;subst e1 e2;have l20:∀ F,opOk F=true→F.length≤maxLen:=fun F hF=>by
  have:=opOk_right hF
  unfold Op.right at this;rw [Bool.and_eq_true] at this;have:=of_decide_eq_true this.1
  unfold maxLen;omega
 have C1:=hide fun W (k:HoldsO W (.slice a1 s.F1.length p1) s.F1)=>implLine _ s.F1 W (l20 _ hf.f1) k
 have C2:=hide fun W (k:HoldsO W (.slice a2 s.F2.length p2) s.F2)=>implLine _ s.F2 W (l20 _ hf.f2) k
 generalize lineOf s.F1=L1 at *;generalize lineOf s.F2=L2 at *;have HL1:=hide h;clear h hf l20;go_enter func235,ntmps235
 go_upto_region 0 with fail
 refine gen_world (fun z=>Lay 83 w0 w1 B c s (.slice a1 s.F1.length p1) (.slice a2 s.F2.length p2) vs vt z) ?_ ?_
 ·exact uh HL1
 clear HL1;rintro z hz;have c17:=hz.cell (i:=17) rfl;have c18:=hz.cell (i:=18) rfl;have HZ:=hide (hz.step (Below.refl _ _).drew);clear hz;refine wp_region_held_drew (S:=fun z=>z.cell? ⟨B,17,none⟩=some (.slice a1 s.F1.length p1)∧z.cell? ⟨B,18,none⟩=some (.slice a2 s.F2.length p2)) (by kernel_rfl) ?_ (fun hHeld=>?_)
 ·exact ⟨c17,c18⟩
 refine t2 0 ?_;refine t2 1 ?_;refine t2 2 ?_;refine t2 3 ?_;refine t2 4 ?_;refine t2 5 ?_;refine t2 6 ?_;refine t2 8 ?_;refine t2 9 ?_;refine t2 10 ?_;refine t2 11 ?_;refine r1 7 rfl (fun K hK=>?_);go_simp;refine (uh C1 _ (HoldsO.own (uh HZ).o1)).mono ?_;rintro r z1 ⟨rfl,hb⟩;have HZ1:=hide ((uh HZ).step hb);clear hb;go_wp2_with fail
 refine ro hK ?_ fun _=>?_
 ·exact ⟨(uh HZ1).cell (i:=17) rfl,(uh HZ1).cell (i:=18) rfl⟩
 clear hK K;refine r1 12 rfl (fun K hK=>?_);go_simp;refine (uh C2 _ (HoldsO.own (uh HZ1).o2)).mono ?_;rintro r z2 ⟨rfl,hb⟩;have HZ2:=hide ((uh HZ1).step hb);clear hb;go_wp2_with fail
 refine ro hK ?_ fun _=>?_
 ·exact ⟨(uh HZ2).cell (i:=17) rfl,(uh HZ2).cell (i:=18) rfl⟩
 clear hK K;have k19:=(uh HZ2).cell (i:=19) rfl;have f19:=(uh HZ2).frz 19;have t19:=(uh HZ2).setRaw 19 (.bool true) { s.e with up:=true } rfl;have k20:=t19.cell (i:=20) rfl;have f20:=t19.frz 20;have t20:=t19.setRaw 20 (.int .i64 L1.m) { s.e with up:=true,i1:=L1.m } rfl;have k21:=t20.cell (i:=21) rfl;have f21:=t20.frz 21;have t21:=t20.setRaw 21 (.int .i64 L1.a) { s.e with up:=true,i1:=L1.m,i2:=L1.a } rfl;have k22:=t21.cell (i:=22) rfl;have f22:=t21.frz 22;have t22:=t21.setRaw 22 (.bool L1.p) { s.e with up:=true,i1:=L1.m,i2:=L1.a,i3:=L1.p } rfl;have k23:=t22.cell (i:=23) rfl;have f23:=t22.frz 23;have t23:=t22.setRaw 23 (.bool L1.c) { s.e with up:=true,i1:=L1.m,i2:=L1.a,i3:=L1.p,i4:=L1.c } rfl;have k24:=t23.cell (i:=24) rfl;have f24:=t23.frz 24;have t24:=t23.setRaw 24 (.bool L1.d) { s.e with up:=true,i1:=L1.m,i2:=L1.a,i3:=L1.p,i4:=L1.c,i5:=L1.d } rfl;have k25:=t24.cell (i:=25) rfl;have f25:=t24.frz 25;have t25:=t24.setRaw 25 (.int .i64 L2.m) { s.e with up:=true,i1:=L1.m,i2:=L1.a,i3:=L1.p,i4:=L1.c,i5:=L1.d,o1:=L2.m } rfl;have k26:=t25.cell (i:=26) rfl;have f26:=t25.frz 26;have t26:=t25.setRaw 26 (.int .i64 L2.a) { s.e with up:=true,i1:=L1.m,i2:=L1.a,i3:=L1.p,i4:=L1.c,i5:=L1.d,o1:=L2.m,o2:=L2.a } rfl;have k27:=t26.cell (i:=27) rfl;have f27:=t26.frz 27;have t27:=t26.setRaw 27 (.bool L2.p) { s.e with up:=true,i1:=L1.m,i2:=L1.a,i3:=L1.p,i4:=L1.c,i5:=L1.d,o1:=L2.m,o2:=L2.a,o3:=L2.p } rfl;have k28:=t27.cell (i:=28) rfl;have f28:=t27.frz 28;have t28:=t27.setRaw 28 (.bool L2.c) { s.e with up:=true,i1:=L1.m,i2:=L1.a,i3:=L1.p,i4:=L1.c,i5:=L1.d,o1:=L2.m,o2:=L2.a,o3:=L2.p,o4:=L2.c } rfl;have k29:=t28.cell (i:=29) rfl;have f29:=t28.frz 29;have t29:=t28.setRaw 29 (.bool L2.d) (upE L1 L2 s.e) rfl;have T19:=hide t19;have T24:=hide t24;have T29:=hide t29;clear t19 t20 t21 t22 t23 t24 t25 t26 t27 t28 t29;dsimp only at k20 k21 k22 k23 k24 k25 k26 k27 k28 k29;refine t2 13 ?_;refine t2 14 ?_;refine r1 15 rfl (fun K hK=>?_);go_simp;refine ro hK ?_ fun _=>?_
 ·exact ⟨(uh T19).cell (i:=17) rfl,(uh T19).cell (i:=18) rfl⟩
 clear hK K;refine t2 16 ?_;refine t2 17 ?_;refine r1 18 rfl (fun K hK=>?_);go_simp;refine ro hK ?_ fun _=>?_
 ·exact ⟨(uh T24).cell (i:=17) rfl,(uh T24).cell (i:=18) rfl⟩
 clear hK K;refine t2 19 ?_;refine t2 20 ?_;refine r1 21 rfl (fun K hK=>?_);go_simp;refine ro hK ?_ fun _=>?_
 ·exact ⟨(uh T29).cell (i:=17) rfl,(uh T29).cell (i:=18) rfl⟩
 clear hK K;refine dn ?_ _;go_wp2_with fail
 exact Great.bodyPost_end0 rfl rfl ⟨rfl,uh T29⟩
theorem iTlu (h:Lay 83 w0 w1 B c s v1 v2 vs vt q) {n:Nat} (hf:Fit n c s) :
  Calls prog 234 #[.agg #[.string nTlu],.pointer (some ⟨B,0,none⟩)] q fun r q'=>r=.returned (.tuple #[])∧Lay 83 w0 w1 B c { s with e:=upE (lineOf s.F1) (lineOf s.F2) s.e } v1 v2 vs vt q':=by
 have hb:Below q.heap.size q (q.alloc (.cells #[.string nTlu] 135)):=(Below.refl _ _).alloc (Nat.le_refl _) _;have HL:=hide (h.step hb);have HF:=hide hf;clear h hb hf;go_enter func234,ntmps234
 go_wp2_with fail
 refine (iRise (uh HL) (uh HF)).mono ?_;rintro r q1 ⟨rfl,h1⟩;go_wp2
 exact Great.bodyPost_end0 rfl rfl ⟨rfl,h1⟩
end
end Go.Proofs.YtahpjlbaagkdoaaGreatDoor
