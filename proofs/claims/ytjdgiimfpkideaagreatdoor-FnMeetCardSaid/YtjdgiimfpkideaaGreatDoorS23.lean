/- WkQ -/
import Derived.Test.YtjdgiimfpkideaaGreatDoorS22
set_option maxHeartbeats 4000000
set_option maxRecDepth 100000
namespace Go.Proofs.YtjdgiimfpkideaaGreatDoor
open Go.RowKit Go.Proofs.Tryz
variable {n:Nat}
theorem qj(c:Cx)(h:c.cd.size<=250):(rE ⟨c.cc,c.ci,c.cd⟩).size<=100000:=by
 cases hk:Op.pok ⟨c.cc,c.ci,c.cd⟩
 .rw [mH hk];decide
 .rw [kj hk,ByteArray.size_append];have e:(co (Op.phead ⟨c.cc,c.ci,c.cd⟩)).size=(Op.phead ⟨c.cc,c.ci,c.cd⟩).length:=by unfold co;show(Op.phead ⟨c.cc,c.ci,c.cd⟩).toArray.size=_;simp
  have e2:(Op.phead ⟨c.cc,c.ci,c.cd⟩).length=4:=rfl;rw[e,e2];show 4+c.cd.size<=100000
  omega
section
variable {w0 w1:World} {B:Nat} {c:Cx} {s:St} {v1 v2 vs vt:Value} {q:World}
theorem Lay.new2{T:TypeId}{q':World}(h:Lay T w0 w1 B c s v1 v2 vs vt q)(hb:Below q q q')(v:Value)(F:List Op.Opt)(ho:q'.ownsRow q 105 2 v F.length (aj F)):Lay T w0 w1 B c {s with F2:=F} v1 v vs vt (q'.setCell (B,18) v):=by
 have h':=h.step hb;have hr:=zH q' B 18 _ _ v h'.row;rw[List.setIfInBounds_toArray]at hr;have hk:∀k,k≠B->(q'.setCell (B,18) v).heap[k]?=q'.heap[k]?:=fun k hk=>heap_setCell_other q' _ _ _ hk
 have hs:=h.low.size;refine⟨hr,bZ h'.o1 fun g hg=>hk g fun e=>aq h'.o1 h'.row h.tt.1 (e▸hg),bZ (aE ho hs) fun g hg=>hk g fun e=>?_,bZ h'.os fun g hg=>hk g fun e=>aq h'.os h'.row h.tt.2.1 (e▸hg),bZ h'.ot fun g hg=>hk g fun e=>aq h'.ot h'.row h.tt.2.2 (e▸hg),bZ h'.oh fun g hg=>hk g fun e=>aq h'.oh h'.row h.tt.1 (e▸hg),bS h'.ha h'.row h.tt.1 fun k _=>hk k,h.hB,h.tt,fun g hg e=>?_,h.aph,h.lo,h'.nr.setCell 18 v⟩
 .exact aq ho h'.row h.tt.1 (e▸hg)
 .have h1:=(ho.lt g e).1;have h2:=(h.o1.lt g hg).2;omega
theorem uV(c:Cx)(e:En)(L1 L2:Ln)(v1 v2 vs vt:Value):yK L1 L2 (lF c e v1 v2 vs vt)=lF c (sF L1 L2 e) v1 v2 vs vt:=by
 unfold yK lF sF;simp only[List.set_cons_zero,List.set_cons_succ]
theorem sUp(h:Lay 99 w0 w1 B c s v1 v2 vs vt q)(hf:Fit n c s):Calls prog 107 #[(B,0),true] q fun r q'=>r=.returned (.tuple #[])/\Lay 99 w0 w1 B c {s with e:=sF (iJ s.F1) (iJ s.F2) s.e} v1 v2 vs vt q':=by
 obtain⟨a1,p1,e1⟩:=af h.o1;obtain⟨a2,p2,e2⟩:=af h.o2;subst e1 e2;have l20:∀F,cC F=true->F.length<=maxLen:=fun F hF=>by
  have:=iP hF
  unfold Op.right at this;rw[zK]at this;have:=of_decide_eq_true this.1
  unfold maxLen;omega
 have n1:nb s.F1.length (.slice a1 s.F1.length p1)≠some B:=fun e=>aq h.o1 h.row h.tt.1 (by unfold nb at e;split at e;cases e;exact e)
 have n2:nb s.F2.length (.slice a2 s.F2.length p2)≠some B:=fun e=>aq h.o2 h.row h.tt.1 (by unfold nb at e;split at e;cases e;exact e)
 refine(yL B (lF c s.e _ _ vs vt) a1 a2 p1 p2 s.F1 s.F2 q rfl h.row rfl rfl (l20 _ hf.f1) (l20 _ hf.f2) (HoldsO.own h.o1) (HoldsO.own h.o2) n1 n2).mono ?_;rintro r q'⟨h1,h2,h3⟩;rw[uV]at h2;exact⟨h1,h.ofNr h2 h3⟩
theorem yN(h:Lay 99 w0 w1 B c s v1 v2 vs vt q)(hf:Fit n c s)(hn:n<=1000):Calls prog 72 #[(B,0),p5] q fun r q'=>r=.returned (.tuple #[])/\∃v1 v2 vs vt,Lay 99 w0 w1 B c (qc c s) v1 v2 vs vt q':=by
 have c32:=h.cell (i:=32) rfl;have HF:=aa hf;have HL:=aa h;clear h hf;go_enter func72,ntmps72
 go_wp2_with fail
 refine(lL HL.out (zE HF.out.sn hn) 6 _ _).mono ?_;rintro r q1⟨rfl,vs1,h1⟩;go_wp2
 exact Great.bodyPost_end0 rfl rfl ⟨rfl,_,_,_,_,h1⟩
theorem yO(h:Lay 99 w0 w1 B c s v1 v2 vs vt q)(hf:Fit n c s)(hn:n<=1000):Calls prog 72 #[(B,0),dz] q fun r q'=>r=.returned (.tuple #[])/\∃v1 v2 vs vt,Lay 99 w0 w1 B c (pX s) v1 v2 vs vt q':=by
 have HF:=aa hf;have HL0:=aa h;clear h hf;go_enter func72,ntmps72
 go_wp2_with fail
 refine(sUp HL0.out HF.out).mono ?_;rintro r q1⟨rfl,h⟩;have c38:=h.cell (i:=38) rfl;obtain⟨ad,cp,rfl⟩:=af h.ot;have hno:s.tl.length<=1000:=zE HF.out.tl hn;obtain⟨k,hnn⟩ := ex s.tl.length;have ho:=h.ot;dsimp only at c38 ho h;rw[hnn]at c38 ho hno h;have HO:=aa ho;have HL:=aa h;clear h ho HF HL0
 go_wp2_with (first
  | (at_builtin;refine dw rfl _ _ rfl w1 (ad,k,cp) s.tl k hnn rfl HO.out dz rfl (by omega) HL.out.nr.size ?_;rintro v6 w6 ho6 hg6;obtain⟨a6,c6,rfl⟩:=af ho6
     have e6:=(hg6.block B (Nat.lt_of_lt_of_le HL.out.lt (by simp)) (fun e=>(aq HL.out.ot HL.out.row HL.out.tt.2.2) e.symm)).trans ((zG _ _ _ HL.out.lt).trans HL.out.row);have k6:w6.cell? (B,38)=some (.slice ad k cp):=cv e6
     have f6:w6.frozen? (B,38)=false:=aX e6 38;clear e6))
 refine Great.bodyPost_end0 rfl rfl ⟨rfl,_,_,_,_,HL.out.say _ hg6 _ _ ?_⟩;rw[List.length_append,hnn];exact ho6
theorem yP(h:Lay 99 w0 w1 B c s v1 v2 vs vt q)(hf:Fit n c s)(hn:n<=1000):Calls prog 72 #[(B,0),p6] q fun r q'=>r=.returned (.tuple #[])/\∃v1 v2 vs vt,Lay 99 w0 w1 B c (qd (jm c) s) v1 v2 vs vt q':=by
 have HF:=aa hf;have hpt:=qj c HF.out.cd;have HL1:=aa h;clear h hf;go_enter func72,ntmps72
 go_upto_region 26 with fail
 refine bb (fun z=>Lay 99 w0 w1 B c s v1 v2 vs vt z) ?_ ?_
 .exact uh HL1
 clear HL1;rintro z hz;have c31:=hz.cell (i:=31) rfl;have c32:=hz.cell (i:=32) rfl;have c33:=hz.cell (i:=33) rfl;have HZ:=aa (hz.step (zC _ _).drew);clear hz;refine wp_region_held_drew (S:=fun z=>z.cell? (B,31)=some (.int .i64 c.cc)/\z.cell? (B,32)=some (.int .i64 c.ci)/\z.cell? (B,33)=some (c.cd:V)) (by kernel_rfl) ?_ (fun hHeld=>?_)
 .exact ⟨c31,c32,c33⟩
 refine tq 0 1 3 4 ?_;refine tt 5 6 ?_;refine r3 2 fun K hK=>?_
 go_simp;refine(qh HZ.out HF.out.id).mono ?_;rintro r z1⟨rfl,h1⟩;have HZ1:=aa h1;clear h1;go_wp2_with fail
 refine ro hK ?_ fun _=>?_
 .exact ⟨HZ1.out.cell (i:=31) rfl,HZ1.out.cell (i:=32) rfl,HZ1.out.cell (i:=33) rfl⟩
 clear hK K;refine r3 7 fun K hK=>?_
 go_simp;refine(lu ⟨c.cc,c.ci,c.cd⟩ _).mono ?_;rintro r z2⟨rfl,hb⟩;have HZ2:=aa (HZ1.out.step hb);clear hb;go_wp2_with fail
 refine ro hK ?_ fun _=>?_
 .exact ⟨HZ2.out.cell (i:=31) rfl,HZ2.out.cell (i:=32) rfl,HZ2.out.cell (i:=33) rfl⟩
 clear hK K;refine r3 8 fun K hK=>?_
 go_simp;refine cq (gY (rE ⟨c.cc,c.ci,c.cd⟩) _ hpt) ?_;go_wp2_with fail
 refine ro hK ?_ fun _=>?_
 .exact ⟨HZ2.out.cell (i:=31) rfl,HZ2.out.cell (i:=32) rfl,HZ2.out.cell (i:=33) rfl⟩
 clear hK K;refine r3 9 fun K hK=>?_
 go_simp;refine(lL HZ2.out (zE HF.out.sn hn) 7 _ _).mono ?_;rintro r z4⟨rfl,vs4,h4⟩;have HP:=aa h4;clear h4;go_wp2_with fail
 refine ro hK ?_ fun _=>?_
 .exact ⟨HP.out.cell (i:=31) rfl,HP.out.cell (i:=32) rfl,HP.out.cell (i:=33) rfl⟩
 clear hK K;refine dn ?_ _;go_wp2_with fail
 exact Great.bodyPost_end0 rfl rfl ⟨rfl,_,_,_,_,uh HP⟩
theorem yQ(h:Lay 99 w0 w1 B c s v1 v2 vs vt q)(hf:Fit n c s)(hn:n<=1000):Calls prog 72 #[(B,0),pZ] q fun r q'=>r=.returned (.tuple #[])/\∃v1 v2 vs vt,Lay 99 w0 w1 B c (x_ c s) v1 v2 vs vt q':=by
 have HF:=aa hf;obtain⟨a9,p9,hva⟩:=h.ha.form;have hbz:(co (Op.bytes c.ao)).size=(Op.bytes c.ao).length:=by unfold co;show(Op.bytes c.ao).toArray.size=_;simp
 have hb250:(Op.bytes c.ao).length<=250:=by have:=hf.ao;unfold cC at this;rw[zK]at this;exact of_decide_eq_true this.2
 have hfirst:d8 (co (Op.bytes c.ao))=co (Op.bytes c.ao):=by unfold d8;rw[if_neg (by rw[hbz];omega)]
 have c35:=h.cell (i:=35) rfl;have c16:=h.cell (i:=16) rfl;have f16:=h.frz 16;have HL:=aa h;clear h hf;go_enter func72,ntmps72
 by_cases hac:c.ac=3
 .have HS:x_ c s=gE ({s with e:={s.e with fl:=min 3 (s.e.fl+1)}}) c.ac c.ci (co (Op.bytes c.ao)):=by unfold x_ gE;rw[if_pos hac]
  have hac2:(c.ac==3)=true:=by simpa using hac
  have CM:=aa fun W=>pS (s.e.fl+1) W
  have hfl:=HF.out.fl;have HL1:=aa (HL.out.setRaw 16 (.int .i64 (min 3 (s.e.fl+1))) {s.e with fl:=min 3 (s.e.fl+1)} rfl);generalize hmm:min 3 (s.e.fl+1)=mm at*;go_upto_region 22 with(first|(go_at_call 103;refine cq (uh CM _) ?_))
  refine bb (fun z=>Lay 99 w0 w1 B c ({s with e:={s.e with fl:=mm}}) v1 v2 vs vt z) ?_ ?_
  .exact uh HL1
  clear HL1 HL c16 f16 c35;rintro z hz;have c32:=hz.cell (i:=32) rfl;have c35:=hz.cell (i:=35) rfl;have c36:=hz.cell (i:=36) (congrArg some hva);have HZ:=aa (hz.step (zC _ _).drew);clear hz;refine wp_region_held_drew (S:=fun z=>z.cell? (B,32)=some (.int .i64 c.ci)/\z.cell? (B,35)=some (.int .i64 c.ac)/\z.cell? (B,36)=some ((a9,c.ao.length,p9):V)) (by kernel_rfl) ?_ (fun hHeld=>?_)
  .exact ⟨c32,c35,c36⟩
  refine tq 0 1 2 3 ?_;refine tq 4 5 6 7 ?_;refine tq 8 9 10 11 ?_;refine tq 12 13 14 15 ?_;refine r3 16 fun K hK=>?_
  go_simp;refine(fJ _ c.ao _ (iP HF.out.ao) (hva▸HZ.out.ha)).mono ?_;rintro r z2⟨rfl,hb⟩;have HZ2:=aa (HZ.out.step hb);clear hb;go_wp2_with fail
  refine ro hK ?_ fun _=>?_
  .exact ⟨HZ2.out.cell (i:=32) rfl,HZ2.out.cell (i:=35) rfl,HZ2.out.cell (i:=36) (congrArg some hva)⟩
  clear hK K;refine r3 17 fun K hK=>?_
  go_simp;refine(gY (co (Op.bytes c.ao)) _ (by rw[hbz];omega)).mono ?_;rintro r z3⟨rfl,hws⟩;replace hws:=hws.symm;subst hws;go_wp2_with fail
  refine ro hK ?_ fun _=>?_
  .exact ⟨HZ2.out.cell (i:=32) rfl,HZ2.out.cell (i:=35) rfl,HZ2.out.cell (i:=36) (congrArg some hva)⟩
  clear hK K;refine r3 18 fun K hK=>?_
  go_simp;refine(lL HZ2.out (zE HF.out.sn hn) _ _ _).mono ?_;rintro r z4⟨rfl,vs4,h4⟩;have HP:=aa h4;clear h4;go_wp2_with fail
  refine ro hK ?_ fun _=>?_
  .exact ⟨HP.out.cell (i:=32) rfl,HP.out.cell (i:=35) rfl,HP.out.cell (i:=36) (congrArg some hva)⟩
  clear hK K;refine dn ?_ _;go_wp2_with fail
  exact Great.bodyPost_end0 rfl rfl ⟨rfl,_,_,_,_,(by rw[HS,hac];exact uh HP)⟩
 .have HS:x_ c s=gE (s) c.ac c.ci (co (Op.bytes c.ao)):=by unfold x_ gE;rw[if_neg hac]
  have hac2:(c.ac==3)=false:=zL hac;have HL1:=HL;go_upto_region 22 with fail
  refine bb (fun z=>Lay 99 w0 w1 B c (s) v1 v2 vs vt z) ?_ ?_
  .exact uh HL1
  clear HL1 HL c16 f16 c35;rintro z hz;have c32:=hz.cell (i:=32) rfl;have c35:=hz.cell (i:=35) rfl;have c36:=hz.cell (i:=36) (congrArg some hva);have HZ:=aa (hz.step (zC _ _).drew);clear hz;refine wp_region_held_drew (S:=fun z=>z.cell? (B,32)=some (.int .i64 c.ci)/\z.cell? (B,35)=some (.int .i64 c.ac)/\z.cell? (B,36)=some ((a9,c.ao.length,p9):V)) (by kernel_rfl) ?_ (fun hHeld=>?_)
  .exact ⟨c32,c35,c36⟩
  refine tq 0 1 2 3 ?_;refine tq 4 5 6 7 ?_;refine tq 8 9 10 11 ?_;refine tq 12 13 14 15 ?_;refine r3 16 fun K hK=>?_
  go_simp;refine(fJ _ c.ao _ (iP HF.out.ao) (hva▸HZ.out.ha)).mono ?_;rintro r z2⟨rfl,hb⟩;have HZ2:=aa (HZ.out.step hb);clear hb;go_wp2_with fail
  refine ro hK ?_ fun _=>?_
  .exact ⟨HZ2.out.cell (i:=32) rfl,HZ2.out.cell (i:=35) rfl,HZ2.out.cell (i:=36) (congrArg some hva)⟩
  clear hK K;refine r3 17 fun K hK=>?_
  go_simp;refine(gY (co (Op.bytes c.ao)) _ (by rw[hbz];omega)).mono ?_;rintro r z3⟨rfl,hws⟩;replace hws:=hws.symm;subst hws;go_wp2_with fail
  refine ro hK ?_ fun _=>?_
  .exact ⟨HZ2.out.cell (i:=32) rfl,HZ2.out.cell (i:=35) rfl,HZ2.out.cell (i:=36) (congrArg some hva)⟩
  clear hK K;refine r3 18 fun K hK=>?_
  go_simp;refine(lL HZ2.out (zE HF.out.sn hn) _ _ _).mono ?_;rintro r z4⟨rfl,vs4,h4⟩;have HP:=aa h4;clear h4;go_wp2_with fail
  refine ro hK ?_ fun _=>?_
  .exact ⟨HP.out.cell (i:=32) rfl,HP.out.cell (i:=35) rfl,HP.out.cell (i:=36) (congrArg some hva)⟩
  clear hK K;refine dn ?_ _;go_wp2_with fail
  exact Great.bodyPost_end0 rfl rfl ⟨rfl,_,_,_,_,(by rw[HS];exact uh HP)⟩
theorem yR(h:Lay 99 w0 w1 B c s v1 v2 vs vt q)(hf:Fit n c s)(hn:n<=1000):Calls prog 72 #[(B,0),pY] q fun r q'=>r=.returned (.tuple #[])/\∃v1 v2 vs vt,Lay 99 w0 w1 B c (p_ c s) v1 v2 vs vt q':=by
 have HF:=aa hf;obtain⟨a9,p9,hva⟩:=h.ha.form;obtain⟨a8,p8,hvh⟩:=h.hh.form;have hb0:Below q q (q.alloc (.cells #[] 105)):=(zC _ _).alloc (zD _) _;have h0:=h.step hb0;have c34:(q.alloc (.cells #[] 105)).cell? (B,34)=some (.slice a8 c.hd.length p8):=h0.cell (i:=34) (congrArg some hvh);have hh0:HoldsO (q.alloc (.cells #[] 105)) (a8,c.hd.length,p8) c.hd:=hvh▸h0.hh;have hlen:c.hd.length<=20:=by have:=iP hf.hd;unfold Op.right at this;rw[zK]at this;exact of_decide_eq_true this.1
 have HO:=aa (qi q);have HM:=aa hh0;have HL:=aa h;have hBl:=h.lt;clear h hf h0 hb0 hh0;go_enter func72,ntmps72
 go_upto_region 18 with(first
  | (at_builtin;refine fM rfl _ _ rfl q (.slice (some (q,0)) 0 0) (a8,c.hd.length,p8) [] c.hd rfl rfl HO.out HM.out (Nat.zero_le _) (by omega) (by simp) ?_;rintro v6 w6 ho6 hg6
     obtain⟨a6,c6,hv6⟩:=af ho6;rw[List.nil_append]at hv6 ho6;subst hv6;have hb6:Below q q w6:=⟨hg6.os,hg6.tape,hg6.output,zE (by simp) hg6.size,fun b hb=>(hg6.block b (by simp;omega) (fun e=>by have e':b=q.heap.size:=Option.some.inj e;omega)).trans (zG _ _ _ hb)⟩;have h6:=HL.out.step hb6;have k18:=h6.cell (i:=18) rfl;have f18:=h6.frz 18;have h7:=HL.out.new2 hb6 _ c.hd ho6;have k16:=h7.cell (i:=16) rfl;have f16:=h7.frz 16;have HL1:=aa (h7.setRaw 16 (0:Int) {s.e with fl:=0} rfl);clear h6 h7 hb6 ho6 hg6))
 refine bb (fun z=>Lay 99 w0 w1 B c {s with e:={s.e with fl:=0},F2:=c.hd} v1 (a6,c.hd.length,c6) vs vt z) ?_ ?_
 .exact uh HL1
 clear HL1 c34 k18 f18 k16 f16;rintro z hz;have c32:=hz.cell (i:=32) rfl;have c36:=hz.cell (i:=36) (congrArg some hva);have HZ:=aa (hz.step (zC _ _).drew);clear hz;refine wp_region_held_drew (S:=fun z=>z.cell? (B,32)=some (.int .i64 c.ci)/\z.cell? (B,36)=some ((a9,c.ao.length,p9):V)) (by kernel_rfl) ?_ (fun hHeld=>?_)
 .exact ⟨c32,c36⟩
 refine tq 0 1 2 3 ?_;refine tq 4 5 6 7 ?_;refine tt 8 9 ?_;refine t2 10 ?_;refine r3 11 fun K hK=>?_
 go_simp;refine(fJ _ c.ao _ (iP HF.out.ao) (hva▸HZ.out.ha)).mono ?_;rintro r z2⟨rfl,hb⟩;have HZ2:=aa (HZ.out.step hb);clear hb;go_wp2_with fail
 refine ro hK ?_ fun _=>?_
 .exact ⟨HZ2.out.cell (i:=32) rfl,HZ2.out.cell (i:=36) (congrArg some hva)⟩
 clear hK K;refine r3 12 fun K hK=>?_
 go_simp;refine(lL HZ2.out (zE HF.out.sn hn) 2 _ _).mono ?_;rintro r z4⟨rfl,vs4,h4⟩;have HP:=aa h4;clear h4;go_wp2_with fail
 refine ro hK ?_ fun _=>?_
 .exact ⟨HP.out.cell (i:=32) rfl,HP.out.cell (i:=36) (congrArg some hva)⟩
 clear hK K;refine dn ?_ _;go_wp2_with fail
 exact Great.bodyPost_end0 rfl rfl ⟨rfl,_,_,_,_,uh HP⟩
theorem yS(h:Lay 99 w0 w1 B c s v1 v2 vs vt q)(hf:Fit n c s)(hn:n<=1000):Calls prog 72 #[(B,0),p7] q fun r q'=>r=.returned (.tuple #[])/\∃v1 v2 vs vt,Lay 99 w0 w1 B c (fj c s) v1 v2 vs vt q':=by
 have HF:=aa hf;have b31:=h.cell (i:=31) rfl;have b33:=h.cell (i:=33) rfl;obtain⟨_,_,e3⟩:=g_ hf.ask;have CP:=aa fun W=>jR s.e.g2.toNat W
 rw[e3]at CP;have hcd:=hf.cd;have HL1:=aa h;clear h hf;go_enter func72,ntmps72
 by_cases hk:c.cc=9/\4<=c.cd.size
 .obtain ⟨k1,k2⟩:=hk;have HS:fj c s=gE s 10 c.ci (cK s.e.g2.toNat++c.cd.extract 4 c.cd.size):=by unfold fj gE;rw[if_pos ⟨k1,k2⟩]
  have d2:(4:Int)<=(c.cd.size:Int):=by omega
  go_upto_region 29 with fail
  refine bb (fun z=>Lay 99 w0 w1 B c s v1 v2 vs vt z) ?_ ?_
  .exact uh HL1
  clear HL1 b31 b33;rintro z hz;have c8:=hz.cell (i:=8) rfl;have c32:=hz.cell (i:=32) rfl;have c33:=hz.cell (i:=33) rfl;have HZ:=aa (hz.step (zC _ _).drew);clear hz;refine wp_region_held_drew (S:=fun z=>z.cell? (B,8)=some (.int .i64 s.e.g2)/\z.cell? (B,32)=some (.int .i64 c.ci)/\z.cell? (B,33)=some (c.cd:V)) (by kernel_rfl) ?_ (fun hHeld=>?_)
  .exact ⟨c8,c32,c33⟩
  refine tq 0 1 2 3 ?_;refine tq 4 5 6 7 ?_;refine tq 8 9 10 11 ?_;refine tq 13 14 15 16 ?_;refine tt 17 18 ?_;refine r3 12 fun K hK=>?_
  go_simp;refine(uh CP _).mono ?_;rintro r z2⟨rfl,hb⟩;have HZ2:=aa (HZ.out.step hb);clear hb;go_wp2_with fail
  refine ro hK ?_ fun _=>?_
  .exact ⟨HZ2.out.cell (i:=8) rfl,HZ2.out.cell (i:=32) rfl,HZ2.out.cell (i:=33) rfl⟩
  clear hK K;refine t4 19 (.string (cK s.e.g2.toNat++c.cd.extract 4 c.cd.size)) rfl (Or.inl ⟨by rfl,?hyr19⟩) ?_
  case hyr19 =>
   intro w hSw;go_simp;have hz4:(cK s.e.g2.toNat).size=4:=rfl;rw[hz4];omega
  try simp only[Act.put,sA,sZ,sS,gA,gZ,gS]
  refine r3 20 fun K hK=>?_
  go_simp;refine(lL HZ2.out (zE HF.out.sn hn) 10 _ _).mono ?_;rintro r z4⟨rfl,vs4,h4⟩;have HP:=aa h4;clear h4;go_wp2_with fail
  refine ro hK ?_ fun _=>?_
  .exact ⟨HP.out.cell (i:=8) rfl,HP.out.cell (i:=32) rfl,HP.out.cell (i:=33) rfl⟩
  clear hK K;refine dn ?_ _;go_wp2_with fail
  exact Great.bodyPost_end0 rfl rfl ⟨rfl,_,_,_,_,(by rw[HS];exact uh HP)⟩
 .have HS:fj c s=s:=by unfold fj;rw[if_neg hk]
  by_cases k1:c.cc=9
  .have d2:¬((4:Int)<=(c.cd.size:Int)):=fun h=>hk ⟨k1,by omega⟩
   go_wp2
   exact Great.bodyPost_end0 rfl rfl ⟨rfl,_,_,_,_,by first|(rw[HS];exact uh HL1)|exact uh HL1⟩
  .have k2:(c.cc==9)=false:=zL k1;go_wp2
   exact Great.bodyPost_end0 rfl rfl ⟨rfl,_,_,_,_,by first|(rw[HS];exact uh HL1)|exact uh HL1⟩
end
end Go.Proofs.YtjdgiimfpkideaaGreatDoor
