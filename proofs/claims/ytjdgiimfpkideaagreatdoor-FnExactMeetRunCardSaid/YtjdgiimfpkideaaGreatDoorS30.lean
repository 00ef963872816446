/- WkQ OptRd MtB -/
import Derived.Test.YtjdgiimfpkideaaGreatDoorS26
set_option maxHeartbeats 4000000
set_option maxRecDepth 100000
namespace Go.Proofs.YtjdgiimfpkideaaGreatDoor
open Go.RowKit Go.Proofs.Tryz
theorem qj (c:Cx) (h:c.cd.size≤250):(rE ⟨c.cc,c.ci,c.cd⟩).size≤100000:=by
  cases hk:Op.pok ⟨c.cc,c.ci,c.cd⟩
  · rw [mH hk];decide
  · rw [kj hk,ByteArray.size_append]
    have e:(co (Op.phead ⟨c.cc,c.ci,c.cd⟩)).size=(Op.phead ⟨c.cc,c.ci,c.cd⟩).length:=by unfold co;show (Op.phead ⟨c.cc,c.ci,c.cd⟩).toArray.size=_;simp
    have e2:(Op.phead ⟨c.cc,c.ci,c.cd⟩).length=4:=rfl;rw [e,e2];show 4+c.cd.size≤100000
    omega
section
variable {w0 w1:World} {B:Nat} {c:Cx} {s:St} {v1 v2 vs vt:Value} {q:World}
theorem Lay.new2 {T:TypeId} {q':World} (h:Lay T w0 w1 B c s v1 v2 vs vt q) (hb:Below q.heap.size q q') (v:Value) (F:List Op.Opt) (ho:q'.ownsRow q.heap.size 105 2 v F.length (aj F)):Lay T w0 w1 B c { s with F2:=F } v1 v vs vt (q'.setCell ⟨B,18,none⟩ v):=by
  have h':=h.step hb;have hr:=zH q' B 18 _ _ v h'.row;rw [List.setIfInBounds_toArray] at hr;have hk:∀ k,k≠B→(q'.setCell ⟨B,18,none⟩ v).heap[k]?=q'.heap[k]?:=fun k hk=>heap_setCell_other q' _ _ _ hk
  have hs:=h.low.size;refine ⟨hr,ak h'.o1 fun g hg=>hk g fun e=>aq h'.o1 h'.row h.tt.1 (e ▸ hg),ak (aE ho hs) fun g hg=>hk g fun e=>?_,ak h'.os fun g hg=>hk g fun e=>aq h'.os h'.row h.tt.2.1 (e ▸ hg),ak h'.ot fun g hg=>hk g fun e=>aq h'.ot h'.row h.tt.2.2 (e ▸ hg),ak h'.oh fun g hg=>hk g fun e=>aq h'.oh h'.row h.tt.1 (e ▸ hg),bS h'.ha h'.row h.tt.1 fun k _=>hk k,h.hB,h.tt,fun g hg e=>?_,h.aph,h.lo,h'.nr.setCell 18 v⟩
  · exact aq ho h'.row h.tt.1 (e ▸ hg)
  · have h1:=(ho.lt g e).1
    have h2:=(h.o1.lt g hg).2;omega
theorem uV (c:Cx) (e:En) (L1 L2:Ln) (v1 v2 vs vt:Value):yK L1 L2 (lF c e v1 v2 vs vt)=lF c (sF L1 L2 e) v1 v2 vs vt:=by
  unfold yK lF sF;simp only [List.set_cons_zero,List.set_cons_succ]
theorem sUp (h:Lay 99 w0 w1 B c s v1 v2 vs vt q) {n:Nat} (hf:Fit n c s) :
    Calls prog 107 #[.pointer (some ⟨B,0,none⟩),.bool true] q fun r q'=>r=.returned (.tuple #[])∧Lay 99 w0 w1 B c { s with e:=sF (bc s.F1) (bc s.F2) s.e } v1 v2 vs vt q':=by
  obtain ⟨a1,p1,e1⟩:=af h.o1;obtain ⟨a2,p2,e2⟩:=af h.o2;subst e1 e2;have l20:∀ F,cC F=true→F.length≤maxLen:=fun F hF=>by
    have:=aT hF
    unfold Op.right at this;rw [Bool.and_eq_true] at this;have:=of_decide_eq_true this.1
    unfold maxLen;omega
  have n1:nb s.F1.length (.slice a1 s.F1.length p1)≠some B:=fun e=>aq h.o1 h.row h.tt.1 (by unfold nb at e;split at e;cases e;exact e)
  have n2:nb s.F2.length (.slice a2 s.F2.length p2)≠some B:=fun e=>aq h.o2 h.row h.tt.1 (by unfold nb at e;split at e;cases e;exact e)
  refine (yL B (lF c s.e _ _ vs vt) a1 a2 p1 p2 s.F1 s.F2 q rfl h.row rfl rfl (l20 _ hf.f1) (l20 _ hf.f2) (HoldsO.own h.o1) (HoldsO.own h.o2) n1 n2).mono ?_;rintro r q' ⟨h1,h2,h3⟩;rw [uV] at h2;exact ⟨h1,h.ofNr h2 h3⟩
theorem yN (h:Lay 99 w0 w1 B c s v1 v2 vs vt q) {n:Nat} (hf:Fit n c s) (hn:n≤1000) :
    Calls prog 72 #[.pointer (some ⟨B,0,none⟩),.string p5] q fun r q'=>r=.returned (.tuple #[])∧∃ v1 v2 vs vt,Lay 99 w0 w1 B c (qc c s) v1 v2 vs vt q':=by
  have c32:=h.cell (i:=32) rfl;have HF:=aa hf;have HL:=aa h;clear h hf;go_enter func72,ntmps72
  go_wp2_with fail
  refine (lL (uh HL) (zE (uh HF).sn hn) 6 _ _).mono ?_;rintro r q1 ⟨rfl,vs1,h1⟩;go_wp2
  exact Great.bodyPost_end0 rfl rfl ⟨rfl,_,_,_,_,h1⟩
theorem yO (h:Lay 99 w0 w1 B c s v1 v2 vs vt q) {n:Nat} (hf:Fit n c s) (hn:n≤1000) :
    Calls prog 72 #[.pointer (some ⟨B,0,none⟩),.string dz] q fun r q'=>r=.returned (.tuple #[])∧∃ v1 v2 vs vt,Lay 99 w0 w1 B c (pX s) v1 v2 vs vt q':=by
  have HF:=aa hf;have HL0:=aa h;clear h hf;go_enter func72,ntmps72
  go_wp2_with fail
  refine (sUp (uh HL0) (uh HF)).mono ?_;rintro r q1 ⟨rfl,h⟩;have c38:=h.cell (i:=38) rfl;obtain ⟨ad,cp,rfl⟩:=af h.ot;have hno:s.tl.length≤1000:=zE (uh HF).tl hn;obtain ⟨k,hnn⟩:∃ k,s.tl.length=k:=⟨_,rfl⟩;have ho:=h.ot;dsimp only at c38 ho h;rw [hnn] at c38 ho hno h;have HO:=aa ho;have HL:=aa h;clear h ho HF HL0
  go_wp2_with (first
    | (at_builtin;refine dw rfl _ _ rfl w1.heap.size (.slice ad k cp) s.tl k hnn rfl (uh HO) dz rfl (by omega) (uh HL).nr.size ?_;rintro v6 w6 ho6 hg6;obtain ⟨a6,c6,rfl⟩:=af ho6
       have e6:=(hg6.block B (Nat.lt_of_lt_of_le (uh HL).lt (by simp)) (fun e=>(aq (uh HL).ot (uh HL).row (uh HL).tt.2.2) e.symm)).trans ((zG _ _ _ (uh HL).lt).trans (uh HL).row);have k6:w6.cell? ⟨B,38,none⟩=some (.slice ad k cp):=by rw [cr e6];rfl
       have f6:w6.frozen? ⟨B,38,none⟩=false:=aX e6 38;clear e6))
  refine Great.bodyPost_end0 rfl rfl ⟨rfl,_,_,_,_,(uh HL).say _ hg6 _ _ ?_⟩;rw [List.length_append,hnn];exact ho6
theorem yP (h:Lay 99 w0 w1 B c s v1 v2 vs vt q) {n:Nat} (hf:Fit n c s) (hn:n≤1000) :
    Calls prog 72 #[.pointer (some ⟨B,0,none⟩),.string p6] q fun r q'=>r=.returned (.tuple #[])∧∃ v1 v2 vs vt,Lay 99 w0 w1 B c (qd (jm c) s) v1 v2 vs vt q':=by
  have HF:=aa hf;have hpt:=qj c (uh HF).cd;have HL1:=aa h;clear h hf;go_enter func72,ntmps72
  go_upto_region 26 with fail
  refine ab (fun z=>Lay 99 w0 w1 B c s v1 v2 vs vt z) ?_ ?_
  · exact uh HL1
  clear HL1;rintro z hz;have c31:=hz.cell (i:=31) rfl;have c32:=hz.cell (i:=32) rfl;have c33:=hz.cell (i:=33) rfl;have HZ:=aa (hz.step (zC _ _).drew);clear hz;refine wp_region_held_drew (S:=fun z=>z.cell? ⟨B,31,none⟩=some (.int .i64 c.cc)∧z.cell? ⟨B,32,none⟩=some (.int .i64 c.ci)∧z.cell? ⟨B,33,none⟩=some (.string c.cd)) (by kernel_rfl) ?_ (fun hHeld=>?_)
  · exact ⟨c31,c32,c33⟩
  refine tq 0 1 3 4 ?_;refine tt 5 6 ?_;refine r3 2 fun K hK=>?_
  go_simp;refine (qh (uh HZ) (uh HF).id).mono ?_;rintro r z1 ⟨rfl,h1⟩;have HZ1:=aa h1;clear h1;go_wp2_with fail
  refine ro hK ?_ fun _=>?_
  · exact ⟨(uh HZ1).cell (i:=31) rfl,(uh HZ1).cell (i:=32) rfl,(uh HZ1).cell (i:=33) rfl⟩
  clear hK K;refine r3 7 fun K hK=>?_
  go_simp;refine (lu ⟨c.cc,c.ci,c.cd⟩ _).mono ?_;rintro r z2 ⟨rfl,hb⟩;have HZ2:=aa ((uh HZ1).step hb);clear hb;go_wp2_with fail
  refine ro hK ?_ fun _=>?_
  · exact ⟨(uh HZ2).cell (i:=31) rfl,(uh HZ2).cell (i:=32) rfl,(uh HZ2).cell (i:=33) rfl⟩
  clear hK K;refine r3 8 fun K hK=>?_
  go_simp;refine (gY (rE ⟨c.cc,c.ci,c.cd⟩) _ hpt).mono ?_;rintro r z3 ⟨rfl,hws⟩;replace hws:=hws.symm;subst hws;go_wp2_with fail
  refine ro hK ?_ fun _=>?_
  · exact ⟨(uh HZ2).cell (i:=31) rfl,(uh HZ2).cell (i:=32) rfl,(uh HZ2).cell (i:=33) rfl⟩
  clear hK K;refine r3 9 fun K hK=>?_
  go_simp;refine (lL (uh HZ2) (zE (uh HF).sn hn) 7 _ _).mono ?_;rintro r z4 ⟨rfl,vs4,h4⟩;have HP:=aa h4;clear h4;go_wp2_with fail
  refine ro hK ?_ fun _=>?_
  · exact ⟨(uh HP).cell (i:=31) rfl,(uh HP).cell (i:=32) rfl,(uh HP).cell (i:=33) rfl⟩
  clear hK K;refine dn ?_ _;go_wp2_with fail
  exact Great.bodyPost_end0 rfl rfl ⟨rfl,_,_,_,_,uh HP⟩
theorem yQ (h:Lay 99 w0 w1 B c s v1 v2 vs vt q) {n:Nat} (hf:Fit n c s) (hn:n≤1000) :
    Calls prog 72 #[.pointer (some ⟨B,0,none⟩),.string pZ] q fun r q'=>r=.returned (.tuple #[])∧∃ v1 v2 vs vt,Lay 99 w0 w1 B c (fy c s) v1 v2 vs vt q':=by
  have HF:=aa hf;obtain ⟨a9,p9,hva⟩:=h.ha.form;have hbz:(co (Op.bytes c.ao)).size=(Op.bytes c.ao).length:=by unfold co;show (Op.bytes c.ao).toArray.size=_;simp
  have hb250:(Op.bytes c.ao).length≤250:=by have:=hf.ao;unfold cC at this;rw [Bool.and_eq_true] at this;exact of_decide_eq_true this.2
  have hfirst:d8 (co (Op.bytes c.ao))=co (Op.bytes c.ao):=by unfold d8;rw [if_neg (by rw [hbz];omega)]
  have c35:=h.cell (i:=35) rfl;have c16:=h.cell (i:=16) rfl;have f16:=h.frz 16;have HL:=aa h;clear h hf;go_enter func72,ntmps72
  by_cases hac:c.ac=3
  · have HS:fy c s=gE ({ s with e:={ s.e with fl:=min 3 (s.e.fl+1) } }) c.ac c.ci (co (Op.bytes c.ao)):=by unfold fy gE;rw [if_pos hac]
    have hac2:(c.ac == 3)=true:=by simpa using hac
    have CM:=aa fun W=>pS (s.e.fl+1) W
    have hfl:=(uh HF).fl;have HL1:=aa ((uh HL).setRaw 16 (.int .i64 (min 3 (s.e.fl+1))) { s.e with fl:=min 3 (s.e.fl+1) } rfl);generalize hmm:min 3 (s.e.fl+1)=mm at *;go_upto_region 22 with (first | (go_at_call 103;refine (uh CM _).mono ?_;rintro r ws ⟨rfl,hws⟩;replace hws:=hws.symm;subst hws))
    refine ab (fun z=>Lay 99 w0 w1 B c ({ s with e:={ s.e with fl:=mm } }) v1 v2 vs vt z) ?_ ?_
    · exact uh HL1
    clear HL1 HL c16 f16 c35;rintro z hz;have c32:=hz.cell (i:=32) rfl;have c35:=hz.cell (i:=35) rfl;have c36:=hz.cell (i:=36) (congrArg some hva);have HZ:=aa (hz.step (zC _ _).drew);clear hz;refine wp_region_held_drew (S:=fun z=>z.cell? ⟨B,32,none⟩=some (.int .i64 c.ci)∧z.cell? ⟨B,35,none⟩=some (.int .i64 c.ac)∧z.cell? ⟨B,36,none⟩=some (.slice a9 c.ao.length p9)) (by kernel_rfl) ?_ (fun hHeld=>?_)
    · exact ⟨c32,c35,c36⟩
    refine tq 0 1 2 3 ?_;refine tq 4 5 6 7 ?_;refine tq 8 9 10 11 ?_;refine tq 12 13 14 15 ?_;refine r3 16 fun K hK=>?_
    go_simp;refine (fJ _ c.ao _ (aT (uh HF).ao) (hva ▸ (uh HZ).ha)).mono ?_;rintro r z2 ⟨rfl,hb⟩;have HZ2:=aa ((uh HZ).step hb);clear hb;go_wp2_with fail
    refine ro hK ?_ fun _=>?_
    · exact ⟨(uh HZ2).cell (i:=32) rfl,(uh HZ2).cell (i:=35) rfl,(uh HZ2).cell (i:=36) (congrArg some hva)⟩
    clear hK K;refine r3 17 fun K hK=>?_
    go_simp;refine (gY (co (Op.bytes c.ao)) _ (by rw [hbz];omega)).mono ?_;rintro r z3 ⟨rfl,hws⟩;replace hws:=hws.symm;subst hws;go_wp2_with fail
    refine ro hK ?_ fun _=>?_
    · exact ⟨(uh HZ2).cell (i:=32) rfl,(uh HZ2).cell (i:=35) rfl,(uh HZ2).cell (i:=36) (congrArg some hva)⟩
    clear hK K;refine r3 18 fun K hK=>?_
    go_simp;refine (lL (uh HZ2) (zE (uh HF).sn hn) _ _ _).mono ?_;rintro r z4 ⟨rfl,vs4,h4⟩;have HP:=aa h4;clear h4;go_wp2_with fail
    refine ro hK ?_ fun _=>?_
    · exact ⟨(uh HP).cell (i:=32) rfl,(uh HP).cell (i:=35) rfl,(uh HP).cell (i:=36) (congrArg some hva)⟩
    clear hK K;refine dn ?_ _;go_wp2_with fail
    exact Great.bodyPost_end0 rfl rfl ⟨rfl,_,_,_,_,(by rw [HS,hac];exact uh HP)⟩
  · have HS:fy c s=gE (s) c.ac c.ci (co (Op.bytes c.ao)):=by unfold fy gE;rw [if_neg hac]
    have hac2:(c.ac == 3)=false:=beq_eq_false_iff_ne.2 hac;have HL1:=HL;go_upto_region 22 with fail
    refine ab (fun z=>Lay 99 w0 w1 B c (s) v1 v2 vs vt z) ?_ ?_
    · exact uh HL1
    clear HL1 HL c16 f16 c35;rintro z hz;have c32:=hz.cell (i:=32) rfl;have c35:=hz.cell (i:=35) rfl;have c36:=hz.cell (i:=36) (congrArg some hva);have HZ:=aa (hz.step (zC _ _).drew);clear hz;refine wp_region_held_drew (S:=fun z=>z.cell? ⟨B,32,none⟩=some (.int .i64 c.ci)∧z.cell? ⟨B,35,none⟩=some (.int .i64 c.ac)∧z.cell? ⟨B,36,none⟩=some (.slice a9 c.ao.length p9)) (by kernel_rfl) ?_ (fun hHeld=>?_)
    · exact ⟨c32,c35,c36⟩
    refine tq 0 1 2 3 ?_;refine tq 4 5 6 7 ?_;refine tq 8 9 10 11 ?_;refine tq 12 13 14 15 ?_;refine r3 16 fun K hK=>?_
    go_simp;refine (fJ _ c.ao _ (aT (uh HF).ao) (hva ▸ (uh HZ).ha)).mono ?_;rintro r z2 ⟨rfl,hb⟩;have HZ2:=aa ((uh HZ).step hb);clear hb;go_wp2_with fail
    refine ro hK ?_ fun _=>?_
    · exact ⟨(uh HZ2).cell (i:=32) rfl,(uh HZ2).cell (i:=35) rfl,(uh HZ2).cell (i:=36) (congrArg some hva)⟩
    clear hK K;refine r3 17 fun K hK=>?_
    go_simp;refine (gY (co (Op.bytes c.ao)) _ (by rw [hbz];omega)).mono ?_;rintro r z3 ⟨rfl,hws⟩;replace hws:=hws.symm;subst hws;go_wp2_with fail
    refine ro hK ?_ fun _=>?_
    · exact ⟨(uh HZ2).cell (i:=32) rfl,(uh HZ2).cell (i:=35) rfl,(uh HZ2).cell (i:=36) (congrArg some hva)⟩
    clear hK K;refine r3 18 fun K hK=>?_
    go_simp;refine (lL (uh HZ2) (zE (uh HF).sn hn) _ _ _).mono ?_;rintro r z4 ⟨rfl,vs4,h4⟩;have HP:=aa h4;clear h4;go_wp2_with fail
    refine ro hK ?_ fun _=>?_
    · exact ⟨(uh HP).cell (i:=32) rfl,(uh HP).cell (i:=35) rfl,(uh HP).cell (i:=36) (congrArg some hva)⟩
    clear hK K;refine dn ?_ _;go_wp2_with fail
    exact Great.bodyPost_end0 rfl rfl ⟨rfl,_,_,_,_,(by rw [HS];exact uh HP)⟩
theorem yR (h:Lay 99 w0 w1 B c s v1 v2 vs vt q) {n:Nat} (hf:Fit n c s) (hn:n≤1000) :
    Calls prog 72 #[.pointer (some ⟨B,0,none⟩),.string pY] q fun r q'=>r=.returned (.tuple #[])∧∃ v1 v2 vs vt,Lay 99 w0 w1 B c (p_ c s) v1 v2 vs vt q':=by
  have HF:=aa hf;obtain ⟨a9,p9,hva⟩:=h.ha.form;obtain ⟨a8,p8,hvh⟩:=h.hh.form;have hb0:Below q.heap.size q (q.alloc (.cells #[] 105)):=(zC _ _).alloc (zD _) _;have h0:=h.step hb0;have c34:(q.alloc (.cells #[] 105)).cell? ⟨B,34,none⟩=some (.slice a8 c.hd.length p8):=h0.cell (i:=34) (congrArg some hvh);have hh0:HoldsO (q.alloc (.cells #[] 105)) (.slice a8 c.hd.length p8) c.hd:=hvh ▸ h0.hh;have hlen:c.hd.length≤20:=by have:=aT hf.hd;unfold Op.right at this;rw [Bool.and_eq_true] at this;exact of_decide_eq_true this.1
  have HO:=aa (qi q);have HM:=aa hh0;have HL:=aa h;have hBl:=h.lt;clear h hf h0 hb0 hh0;go_enter func72,ntmps72
  go_upto_region 18 with (first
    | (at_builtin;refine fM rfl _ _ rfl q.heap.size (.slice (some ⟨q.heap.size,0,none⟩) 0 0) (.slice a8 c.hd.length p8) [] c.hd rfl rfl (uh HO) (uh HM) (Nat.zero_le _) (by omega) (by simp) ?_;rintro v6 w6 ho6 hg6
       obtain ⟨a6,c6,hv6⟩:=af ho6;rw [List.nil_append] at hv6 ho6;subst hv6;have hb6:Below q.heap.size q w6:=⟨hg6.os,hg6.tape,hg6.output,zE (by simp) hg6.size,fun b hb=>(hg6.block b (by simp;omega) (fun e=>by have e':b=q.heap.size:=Option.some.inj e;omega)).trans (zG _ _ _ hb)⟩;have h6:=(uh HL).step hb6;have k18:=h6.cell (i:=18) rfl;have f18:=h6.frz 18;have h7:=(uh HL).new2 hb6 _ c.hd ho6;have k16:=h7.cell (i:=16) rfl;have f16:=h7.frz 16;have HL1:=aa (h7.setRaw 16 (.int .i64 0) { s.e with fl:=0 } rfl);clear h6 h7 hb6 ho6 hg6))
  refine ab (fun z=>Lay 99 w0 w1 B c { s with e:={ s.e with fl:=0 },F2:=c.hd } v1 (.slice a6 c.hd.length c6) vs vt z) ?_ ?_
  · exact uh HL1
  clear HL1 c34 k18 f18 k16 f16;rintro z hz;have c32:=hz.cell (i:=32) rfl;have c36:=hz.cell (i:=36) (congrArg some hva);have HZ:=aa (hz.step (zC _ _).drew);clear hz;refine wp_region_held_drew (S:=fun z=>z.cell? ⟨B,32,none⟩=some (.int .i64 c.ci)∧z.cell? ⟨B,36,none⟩=some (.slice a9 c.ao.length p9)) (by kernel_rfl) ?_ (fun hHeld=>?_)
  · exact ⟨c32,c36⟩
  refine tq 0 1 2 3 ?_;refine tq 4 5 6 7 ?_;refine tt 8 9 ?_;refine t2 10 ?_;refine r3 11 fun K hK=>?_
  go_simp;refine (fJ _ c.ao _ (aT (uh HF).ao) (hva ▸ (uh HZ).ha)).mono ?_;rintro r z2 ⟨rfl,hb⟩;have HZ2:=aa ((uh HZ).step hb);clear hb;go_wp2_with fail
  refine ro hK ?_ fun _=>?_
  · exact ⟨(uh HZ2).cell (i:=32) rfl,(uh HZ2).cell (i:=36) (congrArg some hva)⟩
  clear hK K;refine r3 12 fun K hK=>?_
  go_simp;refine (lL (uh HZ2) (zE (uh HF).sn hn) 2 _ _).mono ?_;rintro r z4 ⟨rfl,vs4,h4⟩;have HP:=aa h4;clear h4;go_wp2_with fail
  refine ro hK ?_ fun _=>?_
  · exact ⟨(uh HP).cell (i:=32) rfl,(uh HP).cell (i:=36) (congrArg some hva)⟩
  clear hK K;refine dn ?_ _;go_wp2_with fail
  exact Great.bodyPost_end0 rfl rfl ⟨rfl,_,_,_,_,uh HP⟩
theorem yS (h:Lay 99 w0 w1 B c s v1 v2 vs vt q) {n:Nat} (hf:Fit n c s) (hn:n≤1000) :
    Calls prog 72 #[.pointer (some ⟨B,0,none⟩),.string p7] q fun r q'=>r=.returned (.tuple #[])∧∃ v1 v2 vs vt,Lay 99 w0 w1 B c (fj c s) v1 v2 vs vt q':=by
  have HF:=aa hf;have b31:=h.cell (i:=31) rfl;have b33:=h.cell (i:=33) rfl;obtain ⟨_,_,e3⟩:=g_ hf.ask;have CP:=aa fun W=>jR s.e.g2.toNat W
  rw [e3] at CP;have hcd:=hf.cd;have HL1:=aa h;clear h hf;go_enter func72,ntmps72
  by_cases hk:c.cc=9∧4≤c.cd.size
  · obtain ⟨k1,k2⟩:=hk
    have HS:fj c s=gE s 10 c.ci (cK s.e.g2.toNat ++ c.cd.extract 4 c.cd.size):=by unfold fj gE;rw [if_pos ⟨k1,k2⟩]
    have d2:(4:Int)≤(c.cd.size:Int):=by omega
    go_upto_region 29 with fail
    refine ab (fun z=>Lay 99 w0 w1 B c s v1 v2 vs vt z) ?_ ?_
    · exact uh HL1
    clear HL1 b31 b33;rintro z hz;have c8:=hz.cell (i:=8) rfl;have c32:=hz.cell (i:=32) rfl;have c33:=hz.cell (i:=33) rfl;have HZ:=aa (hz.step (zC _ _).drew);clear hz;refine wp_region_held_drew (S:=fun z=>z.cell? ⟨B,8,none⟩=some (.int .i64 s.e.g2)∧z.cell? ⟨B,32,none⟩=some (.int .i64 c.ci)∧z.cell? ⟨B,33,none⟩=some (.string c.cd)) (by kernel_rfl) ?_ (fun hHeld=>?_)
    · exact ⟨c8,c32,c33⟩
    refine tq 0 1 2 3 ?_;refine tq 4 5 6 7 ?_;refine tq 8 9 10 11 ?_;refine tq 13 14 15 16 ?_;refine tt 17 18 ?_;refine r3 12 fun K hK=>?_
    go_simp;refine (uh CP _).mono ?_;rintro r z2 ⟨rfl,hb⟩;have HZ2:=aa ((uh HZ).step hb);clear hb;go_wp2_with fail
    refine ro hK ?_ fun _=>?_
    · exact ⟨(uh HZ2).cell (i:=8) rfl,(uh HZ2).cell (i:=32) rfl,(uh HZ2).cell (i:=33) rfl⟩
    clear hK K;refine t4 19 (.string (cK s.e.g2.toNat ++ c.cd.extract 4 c.cd.size)) rfl (Or.inl ⟨by rfl,?hyr19⟩) ?_
    case hyr19 =>
      intro w hSw;go_simp;have hz4:(cK s.e.g2.toNat).size=4:=rfl;rw [hz4];omega
    try simp only [Act.put,sA,sZ,sS,gA,gZ,gS]
    refine r3 20 fun K hK=>?_
    go_simp;refine (lL (uh HZ2) (zE (uh HF).sn hn) 10 _ _).mono ?_;rintro r z4 ⟨rfl,vs4,h4⟩;have HP:=aa h4;clear h4;go_wp2_with fail
    refine ro hK ?_ fun _=>?_
    · exact ⟨(uh HP).cell (i:=8) rfl,(uh HP).cell (i:=32) rfl,(uh HP).cell (i:=33) rfl⟩
    clear hK K;refine dn ?_ _;go_wp2_with fail
    exact Great.bodyPost_end0 rfl rfl ⟨rfl,_,_,_,_,(by rw [HS];exact uh HP)⟩
  · have HS:fj c s=s:=by unfold fj;rw [if_neg hk]
    by_cases k1:c.cc=9
    · have d2:¬ ((4:Int)≤(c.cd.size:Int)):=fun h=>hk ⟨k1,by omega⟩
      go_wp2
      exact Great.bodyPost_end0 rfl rfl ⟨rfl,_,_,_,_,by first | (rw [HS];exact uh HL1) | exact uh HL1⟩
    · have k2:(c.cc == 9)=false:=beq_eq_false_iff_ne.2 k1
      go_wp2
      exact Great.bodyPost_end0 rfl rfl ⟨rfl,_,_,_,_,by first | (rw [HS];exact uh HL1) | exact uh HL1⟩
end
def ar (t:ByteArray):List Op.Opt × Int :=
 if 8000<t.size then ([],2) else
 match Op.acc [] t.data.toList with
 | none=>([],3)
 | some L=>(L,0)
theorem jv {t:ByteArray} (h:8000<t.size):ar t=([],2):=by unfold ar;rw [if_pos h]
theorem ed {t:ByteArray} (h:¬ 8000<t.size) (ha:Op.acc [] t.data.toList=none):ar t=([],3):=by unfold ar;rw [if_neg h,ha]
theorem fb {t:ByteArray} {L:List Op.Opt} (h:¬ 8000<t.size) (ha:Op.acc [] t.data.toList=some L):ar t=(L,0):=by unfold ar;rw [if_neg h,ha]
theorem dd (t:ByteArray):Op.right (ar t).1=true:=by
 by_cases h:8000<t.size
 ·rw [jv h];rfl
 ·cases ha:Op.acc [] t.data.toList with
  | none=>rw [ed h ha];rfl
  | some L=>rw [fb h ha];exact Op.acc_right ha
def xw (w w':World) (o:List Op.Opt × Int) (e:Ending):Prop :=
 ∃ ad cp,e=.returned (.agg #[.slice ad o.1.length cp,.int .i64 o.2])∧w'.ownsRow w.heap.size 105 2 (.slice ad o.1.length cp) o.1.length (aj o.1)∧Below w.heap.size w w'
theorem lP (w:World) (n:Nat):w.ownsRow n 105 2 (.slice none 0 0) 0 (aj []):=⟨rfl,Or.inl ⟨rfl,rfl⟩⟩
theorem uZ:(prog.info? 180).map (·.size)=some 2:=by kernel_rfl
theorem nW {W:World} {E:Nat} {x0 x1:Value} (h:W.heap[E]?=some (.cells #[x0,x1] 180)):(loadVar 180 ⟨E,0,none⟩).run prog W=.ok (.agg #[x0,x1]) W :=
 run_loadVar_row (P:=prog) _ _ 180 180 #[x0,x1] (0,0) _ h underlying180 rfl uZ
theorem nX {W:World} {E:Nat} {z0 z1:Value} {T:TypeId} (h:W.heap[E]?=some (.cells #[z0,z1] T)) (x0 x1:Value) :
  ((W.setCell ⟨E,0,none⟩ x0).setCell ⟨E,1,none⟩ x1).heap[E]?=some (.cells #[x0,x1] T) :=
 zH _ _ 1 _ _ x1 (zH _ _ 0 _ _ x0 h)
theorem qx {w:World} {B:Nat} {x0 x1:Value} {T:TypeId} (h:w.heap[B]?=some (.cells #[x0,x1] T)) :
  w.cell? ⟨B,0,none⟩=some x0∧w.cell? ⟨B,1,none⟩=some x1∧w.frozen? ⟨B,0,none⟩=false∧w.frozen? ⟨B,1,none⟩=false :=
 ⟨by rw [cr h];rfl,by rw [cr h];rfl,aX h _,aX h _⟩
theorem sP {W:World} {base base' E:Nat} {v:Value} {n:Nat} {xs:List Value} (h:W.ownsRow base 105 2 v n xs) (hE:E<base) (hb:base'≤base) (x0 x1:Value) :
  ((W.setCell ⟨E,0,none⟩ x0).setCell ⟨E,1,none⟩ x1).ownsRow base' 105 2 v n xs:=by
 have h2:((W.setCell ⟨E,0,none⟩ x0).setCell ⟨E,1,none⟩ x1).ownsRow base 105 2 v n xs:=aY h fun g hg _=>by
  have hne:g≠E:=by omega
  rw [Below.heap_setCell _ ⟨E,1,none⟩ _ g hne,Below.heap_setCell _ ⟨E,0,none⟩ _ g hne]
 exact ⟨h2.1,h2.2.imp id fun ⟨g,cap,cur,h1,q,h3⟩=>⟨g,cap,cur,h1,zE hb q,h3⟩⟩
theorem dS (t:ByteArray) (w:World) (ht:t.size≤maxLen) (hE:Et w) :
  Calls prog 137 #[.string t] w fun e w'=>xw w w' (ar t) e:=by
 have hlt0:=hE.lt;unfold maxLen at ht;by_cases h8:8000<t.size
 ·have d0:(8000:Int)<(t.size:Int):=by omega
  rw [jv h8];go_enter func137,ntmps137
  go_wp2
  refine bodyPost_ret (v:=.agg #[.slice none 0 0,.int .i64 2]) (by simp [results,results137,go_sem]) rfl ⟨none,0,rfl,lP _ _,(zC _ _).alloc (zD _) _⟩
 ·have d0:¬ ((8000:Int)<(t.size:Int)):=by omega
  have hl8:t.data.toList.length≤8000:=by rw [bC];omega
  obtain ⟨cap,W1,hcv,hcap,hl1,hb1,hlt1⟩:=kT t (w.alloc (.cells #[.slice none 0 0,.int .i64 0] 180));have hW:(w.alloc (.cells #[.slice none 0 0,.int .i64 0] 180)).heap.size=w.heap.size+1:=by simp
  rw [hW] at hcv hb1 hlt1 hl1;have C1:=aa (oN W1 (w.heap.size+1) _ t.data.toList hl8 hlt1 ⟨0,cap,rfl,hcap,hl1⟩);rw [bC] at C1 hcv;have hO1:W1.heap[w.heap.size]?=some (.cells #[.slice none 0 0,.int .i64 0] 180):=(hb1.block w.heap.size (Nat.lt_succ_self _)).trans (zF w _);have hB1:Below w.heap.size w W1:=((zC _ _).alloc (zD _) _).trans (hb1.mono (Nat.le_succ _));have HX:=aa (zA hO1 hB1);have HN:=aa (ed h8);have HS:=aa fun L=>fb (L:=L) h8
  have hl1':w.heap.size+1≤W1.heap.size:=Nat.le_of_lt hlt1;clear hl1 hb1 hO1 hB1 hcap hW hl8;go_enter func137,ntmps137
  go_wp2_with fail
  refine (uh C1).mono ?_;rintro e W2 h;rcases h with ⟨hres,rfl,hb2⟩ | ⟨L,ad,cp,hres,rfl,ho,hb2⟩
  ·have hO2:=(hb2.block w.heap.size (by omega)).trans (uh HX).1;have hB2:Below w.heap.size w W2:=(uh HX).2.trans (hb2.mono (uh HX).2.size);have HR:Hid (ar t=([],3)):=aa (uh HN hres);have hlt2:w.heap.size<W2.heap.size:=(ge.1 hO2).1;have C2:=aa (my 3 W2 (hE.below hB2 hlt0));have HO2:=aa (zA hO2 hB2);clear HX C1 hcv hb2 HN HS hres hO2 hB2 hE;go_wp2_with fail
   refine (uh C2).mono ?_;rintro e w3 ⟨rfl,hb3⟩;have hO3:=(hb3.block w.heap.size hlt2).trans (uh HO2).1;have hB3:=(uh HO2).2.trans (hb3.mono (uh HO2).2.size);obtain ⟨c0,c1,f0,f1⟩:=qx hO3;have FIN:=aa fun x0 x1=>nW (nX hO3 x0 x1)
   clear C2 HO2 hO3 hb3;go_wp2
   refine bodyPost_ret (v:=.agg #[.slice none 0 0,.int .i64 3]) (by simp [results,results137,asAddr,uh FIN]) rfl ?_;rw [uh HR];exact ⟨none,0,rfl,lP _ _,(hB3.setCell (p:=⟨w.heap.size,0,none⟩) (zD _) _).setCell (p:=⟨w.heap.size,1,none⟩) (zD _) _⟩
  ·have hO2:=(hb2.block w.heap.size (by omega)).trans (uh HX).1;have hB2:Below w.heap.size w W2:=(uh HX).2.trans (hb2.mono (uh HX).2.size);have HR:Hid (ar t=(L,0)):=aa (uh HS L hres);have hlt2:w.heap.size<W2.heap.size:=(ge.1 hO2).1;have C2:=aa (pu W2);have HO2:=aa (zA hO2 hB2);have HOW:=aa ho;clear HX C1 hcv HN HS hres hO2 hB2 hE ho hb2;go_wp2_with fail
   refine (uh C2).mono ?_;rintro e w3 ⟨rfl,hb3⟩;have hO3:=(hb3.block w.heap.size hlt2).trans (uh HO2).1;have hB3:=(uh HO2).2.trans (hb3.mono (uh HO2).2.size);have HOW3:=aa (aY (uh HOW) fun p _ hp=>hb3.block p hp);obtain ⟨c0,c1,f0,f1⟩:=qx hO3;have FIN:=aa fun x0 x1=>nW (nX hO3 x0 x1)
   clear C2 HO2 hO3 hb3 HOW;go_wp2
   refine bodyPost_ret (v:=.agg #[.slice ad L.length cp,.int .i64 0]) (by simp [results,results137,asAddr,uh FIN]) rfl ?_;rw [uh HR];exact ⟨ad,cp,rfl,sP (uh HOW3) (by omega) (by omega) _ _,(hB3.setCell (p:=⟨w.heap.size,0,none⟩) (zD _) _).setCell (p:=⟨w.heap.size,1,none⟩) (zD _) _⟩
theorem ii {W:World} {B:Nat} {X Y Z:List Value} {T:TypeId} (h:W.heap[B]?=some (.cells (X ++ Y ++ Z).toArray T)):W.there B X.length Y.length:=fun j hj=>by
 have:=aS h j Y[j] (List.getElem?_eq_getElem hj)
 rw [this];exact ⟨rfl,aX h _⟩
theorem td {T:TypeId} {W:World} {B:Nat} {X Y Z:List Value} (row:W.heap[B]?=some (.cells (X ++ Y ++ Z).toArray T)) (hY:Y.length=30) (cs:List Value) (cd:Int) (hs:cs.length=33) (h1:cs.toArray.all (·.oneCell')=true) (hc:cs[32]?=some (.int .i64 cd)) :
  Calls prog 80 #[.pointer (some ⟨B,X.length,none⟩),.agg cs.toArray] W fun e W'=>e=.returned (.tuple #[])∧∃ W1,Below W.heap.size W W1∧W'=if cd=0 then W1.setCells B X.length (cs.take 30) else W1:=by
 have hb:Below W.heap.size W (W.alloc (.cells cs.toArray 74)):=(zC _ _).alloc (zD _) _;have hA:=zF W (.cells cs.toArray 74);have hc1:(W.alloc (.cells cs.toArray 74)).cell? ⟨W.heap.size,32,none⟩=some (.int .i64 cd):=by rw [cr hA,List.getElem?_toArray];exact hc
 have rB:(W.alloc (.cells cs.toArray 74)).heap[B]?=some (.cells (X ++ Y ++ Z).toArray T):=(hb.block B (ge.1 row).1).trans row;have h2:cs=cs.take 30 ++ cs.drop 30:=(List.take_append_drop 30 cs).symm;have rA:(W.alloc (.cells cs.toArray 74)).rangeAt W.heap.size 0 (cs.take 30):=by
  have hA':=hA;rw [h2,← List.nil_append (cs.take 30)] at hA';have:=aS hA'
  rw [h2];simpa using this
 have h3:(cs.take 30).toArray.all (·.oneCell')=true:=all_oneCell_toArray fun v hv=>Array.all_eq_true_iff_forall_mem.1 h1 v (by simpa using List.mem_of_mem_take hv)
 have h4:(cs.take 30).length=30:=by rw [List.length_take];omega
 have tB:=ii rB;rw [hY] at tB;have HA:=aa (zA hb (zA rB (zA rA tB)));clear hb hA rA tB rB row h2;generalize hk:X.length=k at *;by_cases h0:cd=0
 ·subst h0;simp only [if_true];go_enter func80,ntmps80
  go_wp2_with (first
   | (refine Great.wpList_allocTo rfl (some 3) rfl (.pointer (some ⟨W.heap.size,0,none⟩)) (.cells cs.toArray 74) (by simp [go_sem]) ?_)
   | (refine wpList_load_mid rfl 32 (.tmp 8) rfl W.heap.size 0 rfl (cs.take 30) _ (uh HA).2.2.1 underlying32 rfl (by rw [h4];exact aL) ?_)
   | (refine wpList_store_mid rfl 32 (.tmp 10) (.tmp 9) rfl B k (cs.take 30).toArray rfl rfl (by rw [List.size_toArray,h4];exact (uh HA).2.2.2) (by rw [List.size_toArray,h4];exact aL) h3 ?_))
  refine zI ?_;exact ⟨rfl,_,(uh HA).1,rfl⟩
 ·simp only [if_neg h0];go_enter func80,ntmps80
  go_wp2_with (first
   | (refine Great.wpList_allocTo rfl (some 3) rfl (.pointer (some ⟨W.heap.size,0,none⟩)) (.cells cs.toArray 74) (by simp [go_sem]) ?_))
  refine zI ?_;exact ⟨rfl,_,(uh HA).1,rfl⟩
end Go.Proofs.YtjdgiimfpkideaaGreatDoor
