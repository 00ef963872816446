/- MtV -/
import Derived.Test.YtjdgiimfpkideaaGreatDoorS42
import Derived.Test.YtjdgiimfpkideaaGreatDoorS40
set_option maxHeartbeats 4000000
set_option maxRecDepth 100000
namespace Go.Proofs.YtjdgiimfpkideaaGreatDoor
open Go.RowKit Go.Proofs.Tryz
theorem Gw.new {v v':Value} {W W':World} (h:Below W.heap.size W W') (hn:∀ g,v'.ownBlock=some g→W.heap.size≤g):Gw v v' W W':=fun _ =>
 ⟨h.os,h.tape,h.output,h.size,fun k hk _ _=>h.block k hk,fun g hg=>Or.inr (hn g hg)⟩
theorem zo {base:Nat} {W:World} {B:Nat} {m:Mw} (h:ML base B m W) :
  Calls prog 30 #[.pointer (some ⟨B,0,none⟩),.int .i64 0] W fun r W'=>r=.returned (.tuple #[])∧ML base B (aI m) W'∧Below base W W':=by
 obtain ⟨ca,va,cb,vb,hM⟩:=h;obtain ⟨ad,cp,hv⟩:=hM.ha.form;rcases hl:m.a.ln with _ | ⟨p,r⟩
 ·rw [hl] at hv;subst hv;have c60:W.cell? ⟨B,60,none⟩=some (.slice ad 0 cp):=hM.cells.2.2.1;rw [show aI m=m by unfold aI;rw [hl]];have HM:=aa hM;clear hM hl;go_enter func30,ntmps30
  go_wp2
  refine zI ?_;exact ⟨rfl,⟨_,_,_,_,uh HM⟩,zC _ _⟩
 ·have hk:=hM.ha;rw [hl] at hk;have hle:=hM.la;rw [hl,List.length_cons] at hle;obtain ⟨g,o,cp2,cur,hv1,q1,q2,q3,q4⟩:=hk.fst;clear hv;subst hv1;rw [l8 hl];have c60:W.cell? ⟨B,60,none⟩=some (.slice (some ⟨g,o,none⟩) (r.length+1) (cp2+1)):=hM.cells.2.2.1;have x0:W.cell? ⟨g,o,none⟩=some (.int .i64 p.code):=by rw [cr q1];exact q2
  have x1:W.cell? ⟨g,o+1,none⟩=some (.int .i64 p.id):=by rw [cr q1];exact q3
  have x2:W.cell? ⟨g,o+2,none⟩=some (.string p.data):=by rw [cr q1];exact q4
  have hb1:Below W.heap.size W (W.alloc (.cells #[.int .i64 p.code,.int .i64 p.id,.string p.data] 85)):=(zC _ _).alloc (zD _) _;have hN:=zF W (.cells #[.int .i64 p.code,.int .i64 p.id,.string p.data] 85);have cA:(W.alloc (.cells #[.int .i64 p.code,.int .i64 p.id,.string p.data] 85)).cell? ⟨B,60,none⟩=some (.slice (some ⟨g,o,none⟩) (r.length+1) (cp2+1)):=(hM.below hb1).cells.2.2.1;have CR:=aa (om (hk.below hb1) (by omega));have HF:=aa fun (W2:World) (v2:Value) (k1:HoldsK W2 (W.alloc (.cells #[.int .i64 p.code,.int .i64 p.id,.string p.data] 85)).heap.size v2 r) (k2:Below (W.alloc (.cells #[.int .i64 p.code,.int .i64 p.id,.string p.data] 85)).heap.size (W.alloc (.cells #[.int .i64 p.code,.int .i64 p.id,.string p.data] 85)) W2)=>show W2.cell? ⟨B,60,none⟩=some (.slice (some ⟨g,o,none⟩) (r.length+1) (cp2+1))∧W2.frozen? ⟨B,60,none⟩=false∧Ml base (W2.setCell ⟨B,60,none⟩ v2) B ⟨dN m.a r,m.b,m.now⟩ ca v2 cb vb∧Below base W (W2.setCell ⟨B,60,none⟩ v2)∧(W2.setCell ⟨B,60,none⟩ v2).heap[W.heap.size]?=some (.cells #[.int .i64 p.code,.int .i64 p.id,.string p.data] 85) from by
   have hb2:Below W.heap.size W W2:=hb1.trans (k2.mono hb1.size);have h2:=hM.below hb2;obtain ⟨g1,g2⟩:=(hM.below hb1).lineA (Gw.new k2 fun g hg=>(k1.lo g hg).1) (k1.mono (zE hM.bs hb1.size)) (by omega:r.length≤40);refine ⟨h2.cells.2.2.1,h2.fz _,g1,(hb1.mono hM.bs).trans g2,?_⟩;have hBN:W.heap.size≠B:=by have:=hM.wa.lt;omega
   exact (heap_setCell_other _ ⟨B,60,none⟩ _ _ hBN).trans ((k2.block _ (by simp)).trans hN)
  have HO:Hid (∀ g,vb.ownBlock=some g→g<W.heap.size):=aa fun g hg=>(hM.wb.ownB g hg).2.2.1
  have HBN:Hid (W.heap.size≠B):=aa (by have:=hM.wa.lt;omega);have hl9:=hM.eb.len;have hbs:=hM.bs;have hbB:=hM.bB;clear hM hk hb1 hN q1 q2 q3 q4 hle;obtain ⟨pc,pi,pd⟩:=p;dsimp only at x0 x1 x2 CR HF cA;go_enter func30,ntmps30
  go_wp2_with fail
  refine (uh CR).mono ?_;rintro e W2 ⟨v2,rfl,k1,k2⟩;obtain ⟨a2,c2,e2⟩:=k1.form;subst e2;obtain ⟨c61,f61,h3⟩:=uh HF W2 _ k1 k2;have H3:=aa h3;clear k1 k2 h3 CR HF c60 cA x0 x1 x2;go_upto_region 3 with fail
  generalize W2.setCell ⟨B,60,none⟩ (.slice a2 r.length c2)=W3 at H3 ⊢;have h3d:=(uh H3).1.below (zC _ _).drew;have hN3:W3.drew.heap[W.heap.size]?=some (.cells #[.int .i64 pc,.int .i64 pi,.string pd] 85):=(uh H3).2.2;have CH:=aa (tP h3d.eb ⟨pc,pi,pd⟩ m.now);have CT:=aa fun q cl vs (hA:AnE W3.drew.heap.size q (bn m.b.e m.b.F1 m.b.F2 ⟨pc,pi,pd⟩ m.now) cl vs) (hfv:∀ g,vs.ownBlock=some g→W3.drew.heap.size≤g) (hbq:Below W3.drew.heap.size W3.drew q)=>kJ h3d (iF _ _ _ _ _) hA hfv hbq
  have HS:Hid (∀ q,Below W3.drew.heap.size W3.drew q→q.cell? ⟨W.heap.size,0,none⟩=some (.int .i64 pc)∧q.cell? ⟨W.heap.size,1,none⟩=some (.int .i64 pi)∧q.cell? ⟨W.heap.size,2,none⟩=some (.string pd)∧q.cell? ⟨B,62,none⟩=some (.int .i64 m.now)):=aa fun q hq=>by
   have e3:=(hq.block _ (ge.1 hN3).1).trans hN3;exact ⟨by rw [cr e3];rfl,by rw [cr e3];rfl,by rw [cr e3];rfl,(h3d.below hq).cells.2.2.2.2⟩
  have HZ:Hid (∀ q c' v',Ml base q B ⟨dN m.a r,be m.b (bn m.b.e m.b.F1 m.b.F2 ⟨pc,pi,pd⟩ m.now),m.now⟩ ca (.slice a2 r.length c2) c' v'→Fr B vb v' W3.drew q→(q.cell? ⟨W.heap.size,0,none⟩=some (.int .i64 pc)∧q.cell? ⟨W.heap.size,1,none⟩=some (.int .i64 pi)∧q.cell? ⟨W.heap.size,2,none⟩=some (.string pd)∧q.cell? ⟨B,62,none⟩=some (.int .i64 m.now))∧ML base B ⟨dN m.a r,fk m.b ⟨pc,pi,pd⟩ m.now,m.now⟩ q∧Below base W q):=aa fun q c' v' hq fr=>by
   have e3:=(fr.same _ (ge.1 hN3).1 (uh HBN) (fun e=>by have:=uh HO _ e;omega)).trans hN3;refine ⟨⟨by rw [cr e3];rfl,by rw [cr e3];rfl,by rw [cr e3];rfl,hq.cells.2.2.2.2⟩,⟨_,_,_,_,hq⟩,(uh H3).2.1.trans (((zC base W3).drew).trans (fr.low hbB (fun g hg=>(h3d.wb.ownB g hg).2.1) h3d.bs))⟩
  have rg:W3.drew.rangeAt B 30 cb:=h3d.cells.2.1;have hS0:=uh HS W3.drew (zC _ _);clear h3d hN3 H3 HO HBN c61 f61 hbs hbB;generalize W.heap.size=N at *;refine wp_region_held_drew (S:=fun z=>z.cell? ⟨N,0,none⟩=some (.int .i64 pc)∧z.cell? ⟨N,1,none⟩=some (.int .i64 pi)∧z.cell? ⟨N,2,none⟩=some (.string pd)∧z.cell? ⟨B,62,none⟩=some (.int .i64 m.now)) (by kernel_rfl) hS0 (fun hHeld=>?_);refine tq 0 1 2 3 ?_;refine tq 5 6 7 8 ?_;refine t2 9 ?_;refine r3 4 fun K hK=>?_
  rw [if_pos (by rfl)];refine wp_load_mid 32 (.tmp 34) rfl B 30 rfl cb _ rg underlying32 rfl (by rw [hl9];exact aL) ?_;refine ro hK hS0 fun _=>?_
  clear hK K rg;refine r3 10 fun K hK=>?_
  go_simp;refine (uh CH).mono ?_;rintro r9 q ⟨cl,vs,rfl,hA,hfv,hbq⟩;have hS1:=uh HS q hbq;have HQ:=aa (uh CT q cl vs hA hfv hbq);clear CH CT hA hfv hbq hS0 HS;refine ro hK hS1 fun _=>?_
  clear hK K;refine r3 11 fun K hK=>?_
  go_simp;refine (uh HQ).mono ?_;rintro e W' ⟨rfl,c',v',hs,hfr⟩;have H9:=aa (uh HZ W' c' v' hs hfr);clear HQ HZ hs hfr hS1;refine ro hK (uh H9).1 fun _=>?_
  clear hK K;refine dn ?_ _;go_wp2
  refine zI ?_;exact ⟨rfl,(uh H9).2⟩
theorem zp {base:Nat} {W:World} {B:Nat} {m:Mw} (h:ML base B m W) :
  Calls prog 30 #[.pointer (some ⟨B,0,none⟩),.int .i64 3] W fun r W'=>r=.returned (.tuple #[])∧ML base B (aN m) W'∧Below base W W':=by
 obtain ⟨ca,va,cb,vb,hM⟩:=h;obtain ⟨ad,cp,hv⟩:=hM.hb.form;rcases hl:m.b.ln with _ | ⟨p,r⟩
 ·rw [hl] at hv;subst hv;have c60:W.cell? ⟨B,61,none⟩=some (.slice ad 0 cp):=hM.cells.2.2.2.1;rw [show aN m=m by unfold aN;rw [hl]];have HM:=aa hM;clear hM hl;go_enter func30,ntmps30
  go_wp2
  refine zI ?_;exact ⟨rfl,⟨_,_,_,_,uh HM⟩,zC _ _⟩
 ·have hk:=hM.hb;rw [hl] at hk;have hle:=hM.lb;rw [hl,List.length_cons] at hle;obtain ⟨g,o,cp2,cur,hv1,q1,q2,q3,q4⟩:=hk.fst;clear hv;subst hv1;rw [l9 hl];have c60:W.cell? ⟨B,61,none⟩=some (.slice (some ⟨g,o,none⟩) (r.length+1) (cp2+1)):=hM.cells.2.2.2.1;have x0:W.cell? ⟨g,o,none⟩=some (.int .i64 p.code):=by rw [cr q1];exact q2
  have x1:W.cell? ⟨g,o+1,none⟩=some (.int .i64 p.id):=by rw [cr q1];exact q3
  have x2:W.cell? ⟨g,o+2,none⟩=some (.string p.data):=by rw [cr q1];exact q4
  have hb1:Below W.heap.size W (W.alloc (.cells #[.int .i64 p.code,.int .i64 p.id,.string p.data] 85)):=(zC _ _).alloc (zD _) _;have hN:=zF W (.cells #[.int .i64 p.code,.int .i64 p.id,.string p.data] 85);have cA:(W.alloc (.cells #[.int .i64 p.code,.int .i64 p.id,.string p.data] 85)).cell? ⟨B,61,none⟩=some (.slice (some ⟨g,o,none⟩) (r.length+1) (cp2+1)):=(hM.below hb1).cells.2.2.2.1;have CR:=aa (om (hk.below hb1) (by omega));have HF:=aa fun (W2:World) (v2:Value) (k1:HoldsK W2 (W.alloc (.cells #[.int .i64 p.code,.int .i64 p.id,.string p.data] 85)).heap.size v2 r) (k2:Below (W.alloc (.cells #[.int .i64 p.code,.int .i64 p.id,.string p.data] 85)).heap.size (W.alloc (.cells #[.int .i64 p.code,.int .i64 p.id,.string p.data] 85)) W2)=>show W2.cell? ⟨B,61,none⟩=some (.slice (some ⟨g,o,none⟩) (r.length+1) (cp2+1))∧W2.frozen? ⟨B,61,none⟩=false∧Ml base (W2.setCell ⟨B,61,none⟩ v2) B ⟨m.a,dN m.b r,m.now⟩ ca va cb v2∧Below base W (W2.setCell ⟨B,61,none⟩ v2)∧(W2.setCell ⟨B,61,none⟩ v2).heap[W.heap.size]?=some (.cells #[.int .i64 p.code,.int .i64 p.id,.string p.data] 85) from by
   have hb2:Below W.heap.size W W2:=hb1.trans (k2.mono hb1.size);have h2:=hM.below hb2;obtain ⟨g1,g2⟩:=(hM.below hb1).lineB (Gw.new k2 fun g hg=>(k1.lo g hg).1) (k1.mono (zE hM.bs hb1.size)) (by omega:r.length≤40);refine ⟨h2.cells.2.2.2.1,h2.fz _,g1,(hb1.mono hM.bs).trans g2,?_⟩;have hBN:W.heap.size≠B:=by have:=hM.wb.lt;omega
   exact (heap_setCell_other _ ⟨B,61,none⟩ _ _ hBN).trans ((k2.block _ (by simp)).trans hN)
  have HO:Hid (∀ g,va.ownBlock=some g→g<W.heap.size):=aa fun g hg=>(hM.wa.ownB g hg).2.2.1
  have HBN:Hid (W.heap.size≠B):=aa (by have:=hM.wb.lt;omega);have hl9:=hM.ea.len;have hbs:=hM.bs;have hbB:=hM.bB;clear hM hk hb1 hN q1 q2 q3 q4 hle;obtain ⟨pc,pi,pd⟩:=p;dsimp only at x0 x1 x2 CR HF cA;go_enter func30,ntmps30
  go_wp2_with fail
  refine (uh CR).mono ?_;rintro e W2 ⟨v2,rfl,k1,k2⟩;obtain ⟨a2,c2,e2⟩:=k1.form;subst e2;obtain ⟨c61,f61,h3⟩:=uh HF W2 _ k1 k2;have H3:=aa h3;clear k1 k2 h3 CR HF c60 cA x0 x1 x2;go_upto_region 11 with fail
  generalize W2.setCell ⟨B,61,none⟩ (.slice a2 r.length c2)=W3 at H3 ⊢;have h3d:=(uh H3).1.below (zC _ _).drew;have hN3:W3.drew.heap[W.heap.size]?=some (.cells #[.int .i64 pc,.int .i64 pi,.string pd] 85):=(uh H3).2.2;have CH:=aa (tP h3d.ea ⟨pc,pi,pd⟩ m.now);have CT:=aa fun q cl vs (hA:AnE W3.drew.heap.size q (bn m.a.e m.a.F1 m.a.F2 ⟨pc,pi,pd⟩ m.now) cl vs) (hfv:∀ g,vs.ownBlock=some g→W3.drew.heap.size≤g) (hbq:Below W3.drew.heap.size W3.drew q)=>kI h3d (iF _ _ _ _ _) hA hfv hbq
  have HS:Hid (∀ q,Below W3.drew.heap.size W3.drew q→q.cell? ⟨W.heap.size,0,none⟩=some (.int .i64 pc)∧q.cell? ⟨W.heap.size,1,none⟩=some (.int .i64 pi)∧q.cell? ⟨W.heap.size,2,none⟩=some (.string pd)∧q.cell? ⟨B,62,none⟩=some (.int .i64 m.now)):=aa fun q hq=>by
   have e3:=(hq.block _ (ge.1 hN3).1).trans hN3;exact ⟨by rw [cr e3];rfl,by rw [cr e3];rfl,by rw [cr e3];rfl,(h3d.below hq).cells.2.2.2.2⟩
  have HZ:Hid (∀ q c' v',Ml base q B ⟨be m.a (bn m.a.e m.a.F1 m.a.F2 ⟨pc,pi,pd⟩ m.now),dN m.b r,m.now⟩ c' v' cb (.slice a2 r.length c2)→Fr B va v' W3.drew q→(q.cell? ⟨W.heap.size,0,none⟩=some (.int .i64 pc)∧q.cell? ⟨W.heap.size,1,none⟩=some (.int .i64 pi)∧q.cell? ⟨W.heap.size,2,none⟩=some (.string pd)∧q.cell? ⟨B,62,none⟩=some (.int .i64 m.now))∧ML base B ⟨fk m.a ⟨pc,pi,pd⟩ m.now,dN m.b r,m.now⟩ q∧Below base W q):=aa fun q c' v' hq fr=>by
   have e3:=(fr.same _ (ge.1 hN3).1 (uh HBN) (fun e=>by have:=uh HO _ e;omega)).trans hN3;refine ⟨⟨by rw [cr e3];rfl,by rw [cr e3];rfl,by rw [cr e3];rfl,hq.cells.2.2.2.2⟩,⟨_,_,_,_,hq⟩,(uh H3).2.1.trans (((zC base W3).drew).trans (fr.low hbB (fun g hg=>(h3d.wa.ownB g hg).2.1) h3d.bs))⟩
  have rg:W3.drew.rangeAt B 0 ca:=h3d.cells.1;have hS0:=uh HS W3.drew (zC _ _);clear h3d hN3 H3 HO HBN c61 f61 hbs hbB;generalize W.heap.size=N at *;refine wp_region_held_drew (S:=fun z=>z.cell? ⟨N,0,none⟩=some (.int .i64 pc)∧z.cell? ⟨N,1,none⟩=some (.int .i64 pi)∧z.cell? ⟨N,2,none⟩=some (.string pd)∧z.cell? ⟨B,62,none⟩=some (.int .i64 m.now)) (by kernel_rfl) hS0 (fun hHeld=>?_);refine tq 0 1 2 3 ?_;refine tq 5 6 7 8 ?_;refine t2 9 ?_;refine r3 4 fun K hK=>?_
  rw [if_pos (by rfl)];refine wp_load_mid 32 (.tmp 124) rfl B 0 rfl ca _ rg underlying32 rfl (by rw [hl9];exact aL) ?_;refine ro hK hS0 fun _=>?_
  clear hK K rg;refine r3 10 fun K hK=>?_
  go_simp;refine (uh CH).mono ?_;rintro r9 q ⟨cl,vs,rfl,hA,hfv,hbq⟩;have hS1:=uh HS q hbq;have HQ:=aa (uh CT q cl vs hA hfv hbq);clear CH CT hA hfv hbq hS0 HS;refine ro hK hS1 fun _=>?_
  clear hK K;refine r3 11 fun K hK=>?_
  go_simp;refine (uh HQ).mono ?_;rintro e W' ⟨rfl,c',v',hs,hfr⟩;have H9:=aa (uh HZ W' c' v' hs hfr);clear HQ HZ hs hfr hS1;refine ro hK (uh H9).1 fun _=>?_
  clear hK K;refine dn ?_ _;go_wp2
  refine zI ?_;exact ⟨rfl,(uh H9).2⟩
theorem zq {base:Nat} {W:World} {B:Nat} {m:Mw} (h:ML base B m W) :
  Calls prog 30 #[.pointer (some ⟨B,0,none⟩),.int .i64 1] W fun r W'=>r=.returned (.tuple #[])∧ML base B (⟨dN m.a m.a.ln.tail,m.b,m.now⟩) W'∧Below base W W':=by
 obtain ⟨ca,va,cb,vb,hM⟩:=h;obtain ⟨ad,cp,hv⟩:=hM.ha.form;rcases hl:m.a.ln with _ | ⟨p,r⟩
 ·rw [hl] at hv;subst hv;have c60:W.cell? ⟨B,60,none⟩=some (.slice ad 0 cp):=hM.cells.2.2.1;rw [show (⟨dN m.a ([]:List Op.Pk).tail,m.b,m.now⟩:Mw)=m by show (⟨dN m.a [],m.b,m.now⟩:Mw)=m;rw [← hl];rfl];have HM:=aa hM;clear hM hl;go_enter func30,ntmps30
  go_wp2
  refine zI ?_;exact ⟨rfl,⟨_,_,_,_,uh HM⟩,zC _ _⟩
 ·rw [List.tail_cons];have hk:=hM.ha;rw [hl] at hk;have hle:=hM.la;rw [hl,List.length_cons] at hle;obtain ⟨g,o,cp2,hv1,_⟩:=hk.first;clear hv;subst hv1;have c60:W.cell? ⟨B,60,none⟩=some (.slice (some ⟨g,o,none⟩) (r.length+1) (cp2+1)):=hM.cells.2.2.1;have CR:=aa (om hk (by omega));have HF:=aa fun (W2:World) (v2:Value) (k1:HoldsK W2 W.heap.size v2 r) (k2:Below W.heap.size W W2)=>show W2.cell? ⟨B,60,none⟩=some (.slice (some ⟨g,o,none⟩) (r.length+1) (cp2+1))∧W2.frozen? ⟨B,60,none⟩=false∧Ml base (W2.setCell ⟨B,60,none⟩ v2) B ⟨dN m.a r,m.b,m.now⟩ ca v2 cb vb∧Below base W (W2.setCell ⟨B,60,none⟩ v2) from by
   have h2:=hM.below k2;obtain ⟨g1,g2⟩:=hM.lineA (Gw.new k2 fun g hg=>(k1.lo g hg).1) (k1.mono hM.bs) (by omega:r.length≤40);exact ⟨h2.cells.2.2.1,h2.fz _,g1,g2⟩
  clear hM hk hle;go_enter func30,ntmps30
  go_wp2_with fail
  refine (uh CR).mono ?_;rintro e W2 ⟨v2,rfl,k1,k2⟩;obtain ⟨a2,c2,e2⟩:=k1.form;subst e2;obtain ⟨c61,f61,h3⟩:=uh HF W2 _ k1 k2;have H3:=aa h3;clear k1 k2 h3 CR HF c60;go_wp2
  refine zI ?_;exact ⟨rfl,⟨_,_,_,_,(uh H3).1⟩,(uh H3).2⟩
theorem zr {base:Nat} {W:World} {B:Nat} {m:Mw} (h:ML base B m W) :
  Calls prog 30 #[.pointer (some ⟨B,0,none⟩),.int .i64 4] W fun r W'=>r=.returned (.tuple #[])∧ML base B (⟨m.a,dN m.b m.b.ln.tail,m.now⟩) W'∧Below base W W':=by
 obtain ⟨ca,va,cb,vb,hM⟩:=h;obtain ⟨ad,cp,hv⟩:=hM.hb.form;rcases hl:m.b.ln with _ | ⟨p,r⟩
 ·rw [hl] at hv;subst hv;have c60:W.cell? ⟨B,61,none⟩=some (.slice ad 0 cp):=hM.cells.2.2.2.1;rw [show (⟨m.a,dN m.b ([]:List Op.Pk).tail,m.now⟩:Mw)=m by show (⟨m.a,dN m.b [],m.now⟩:Mw)=m;rw [← hl];rfl];have HM:=aa hM;clear hM hl;go_enter func30,ntmps30
  go_wp2
  refine zI ?_;exact ⟨rfl,⟨_,_,_,_,uh HM⟩,zC _ _⟩
 ·rw [List.tail_cons];have hk:=hM.hb;rw [hl] at hk;have hle:=hM.lb;rw [hl,List.length_cons] at hle;obtain ⟨g,o,cp2,hv1,_⟩:=hk.first;clear hv;subst hv1;have c60:W.cell? ⟨B,61,none⟩=some (.slice (some ⟨g,o,none⟩) (r.length+1) (cp2+1)):=hM.cells.2.2.2.1;have CR:=aa (om hk (by omega));have HF:=aa fun (W2:World) (v2:Value) (k1:HoldsK W2 W.heap.size v2 r) (k2:Below W.heap.size W W2)=>show W2.cell? ⟨B,61,none⟩=some (.slice (some ⟨g,o,none⟩) (r.length+1) (cp2+1))∧W2.frozen? ⟨B,61,none⟩=false∧Ml base (W2.setCell ⟨B,61,none⟩ v2) B ⟨m.a,dN m.b r,m.now⟩ ca va cb v2∧Below base W (W2.setCell ⟨B,61,none⟩ v2) from by
   have h2:=hM.below k2;obtain ⟨g1,g2⟩:=hM.lineB (Gw.new k2 fun g hg=>(k1.lo g hg).1) (k1.mono hM.bs) (by omega:r.length≤40);exact ⟨h2.cells.2.2.2.1,h2.fz _,g1,g2⟩
  clear hM hk hle;go_enter func30,ntmps30
  go_wp2_with fail
  refine (uh CR).mono ?_;rintro e W2 ⟨v2,rfl,k1,k2⟩;obtain ⟨a2,c2,e2⟩:=k1.form;subst e2;obtain ⟨c61,f61,h3⟩:=uh HF W2 _ k1 k2;have H3:=aa h3;clear k1 k2 h3 CR HF c60;go_wp2
  refine zI ?_;exact ⟨rfl,⟨_,_,_,_,(uh H3).1⟩,(uh H3).2⟩
theorem zu {base:Nat} {W:World} {B:Nat} {m:Mw} (h:ML base B m W) :
  Calls prog 30 #[.pointer (some ⟨B,0,none⟩),.int .i64 2] W fun r W'=>r=.returned (.tuple #[])∧ML base B (⟨dN m.a (ml m.a.ln),m.b,m.now⟩) W'∧Below base W W':=by
 obtain ⟨ca,va,cb,vb,hM⟩:=h;obtain ⟨ad,cp,hv⟩:=hM.ha.form;rcases hl:m.a.ln with _ | ⟨p,r⟩
 ·rw [hl] at hv;subst hv;have c60:W.cell? ⟨B,60,none⟩=some (.slice ad 0 cp):=hM.cells.2.2.1;rw [show (⟨dN m.a (ml []),m.b,m.now⟩:Mw)=m by show (⟨dN m.a ([]),m.b,m.now⟩:Mw)=m;rw [← hl];rfl];have HM:=aa hM;clear hM hl;go_enter func30,ntmps30
  go_wp2
  refine zI ?_;exact ⟨rfl,⟨_,_,_,_,uh HM⟩,zC _ _⟩
 ·have hk:=hM.ha;rw [hl] at hk;have hle:=hM.la;rw [hl,List.length_cons] at hle;obtain ⟨g,o,cp2,cur,hv1,q1,q2,q3,q4⟩:=hk.fst;clear hv;subst hv1;by_cases h40:r.length+1<40
  ·rw [show ml (p :: r)=p :: p :: r from if_pos h40];have d2:(r.length:Int)+1<40:=by omega
   have hg:=(ge.1 q1).1;have HC:Hid (∀ y,Below W.heap.size W y→y.cell? ⟨B,60,none⟩=some (.slice (some ⟨g,o,none⟩) (r.length+1) (cp2+1))∧y.cell? ⟨g,o,none⟩=some (.int .i64 p.code)∧y.cell? ⟨g,o+1,none⟩=some (.int .i64 p.id)∧y.cell? ⟨g,o+2,none⟩=some (.string p.data)∧y.frozen? ⟨B,60,none⟩=false):=aa fun y hy=>by
    have e1:=(hy.block g hg).trans q1;exact ⟨(hM.below hy).cells.2.2.1,by rw [cr e1];exact q2,by rw [cr e1];exact q3,by rw [cr e1];exact q4,(hM.below hy).fz _⟩
   have HNw:Hid (∀ y,Below W.heap.size W y→Below W.heap.size W (y.alloc (.cells #[.int .i64 p.code,.int .i64 p.id,.string p.data] 85))∧∀ ty,∃ v' w',(Builtin.append_ #[60,60] ty #[.slice (some ⟨y.heap.size,0,none⟩) 1 1,.slice (some ⟨g,o,none⟩) (r.length+1) (cp2+1)]).run prog (y.alloc (.cells #[.int .i64 p.code,.int .i64 p.id,.string p.data] 85))=.ok v' w'∧(HoldsK w' W.heap.size v' (p :: p :: r)∧Below W.heap.size W w')):=aa fun y hy=>by
    have hya:Below W.heap.size W (y.alloc (.cells #[.int .i64 p.code,.int .i64 p.id,.string p.data] 85)):=hy.alloc hy.size _;refine ⟨hya,fun ty=>?_⟩;obtain ⟨v',w',h1,h2,h3⟩:=fh (base:=y.heap.size) (D:=[p]) (F:=p :: r) ty rfl (zD 1) (kH y [p] (by simp)) (hk.below hya) (by simp) (by simp;omega) (by simp);exact ⟨v',w',h1,h2.mono hy.size,hya.trans ⟨h3.os,h3.tape,h3.output,h3.size,fun k hk=>h3.block k (Nat.lt_of_lt_of_le hk hya.size) (fun e=>by cases e;have:=hy.size;omega)⟩⟩
   have HF:=aa fun (y9:World) (v9:Value) (k1:HoldsK y9 W.heap.size v9 (p :: p :: r)) (k2:Below W.heap.size W y9)=>show y9.cell? ⟨B,60,none⟩=some (.slice (some ⟨g,o,none⟩) (r.length+1) (cp2+1))∧y9.frozen? ⟨B,60,none⟩=false∧Ml base (y9.setCell ⟨B,60,none⟩ v9) B ⟨dN m.a (p :: p :: r),m.b,m.now⟩ ca v9 cb vb∧Below base W (y9.setCell ⟨B,60,none⟩ v9) from by
    have h2:=hM.below k2;obtain ⟨g1,g2⟩:=hM.lineA (Gw.new k2 fun g hg=>(k1.lo g hg).1) (k1.mono hM.bs) (by simp;omega:(p :: p :: r).length≤40);exact ⟨h2.cells.2.2.1,h2.fz _,g1,g2⟩
   obtain ⟨c60,_⟩:=uh HC W (zC _ _);have HB0:Hid (Below W.heap.size W W.drew):=aa (zC _ _).drew;clear hM hk hle q1 q2 q3 q4 hl hg;obtain ⟨pc,pi,pd⟩:=p;dsimp only at HC HNw HF;go_enter func30,ntmps30
   go_upto_region 7 with fail
   refine wp_region_held_drew (S:=fun _=>True) (by kernel_rfl) trivial (fun hHeld=>?_);clear c60;generalize W.drew=y0 at HB0 ⊢;refine tq 0 1 2 3 ?_;refine tt 8 9 ?_;refine t2 10 ?_;refine r4 4 11 (fun K hK=>?_) (fun K hK=>?_)
   ·obtain ⟨cx,_⟩:=uh HC _ (uh HB0);go_simp;refine ro hK trivial fun _=>?_
    clear hK K;clear cx;refine t2 5 ?_;refine r4 6 11 (fun K hK=>?_) (fun K hK=>?_)
    ·obtain ⟨_,x0,x1,x2,_⟩:=uh HC _ (uh HB0);go_simp;refine ro hK trivial fun _=>?_
     clear hK K;clear x0 x1 x2;refine r4 7 11 (fun K hK=>?_) (fun K hK=>?_)
     ·have HN7:=aa (uh HNw _ (uh HB0));go_simp;refine ro hK trivial fun _=>?_
      clear hK K;generalize y0.heap.size=N7 at HN7 ⊢;generalize y0.alloc (.cells #[.int .i64 pc,.int .i64 pi,.string pd] 85)=y7 at HN7 ⊢;have HB7:=aa (uh HN7).1;refine r3 11 fun K hK=>?_
      obtain ⟨cx,_⟩:=uh HC _ (uh HB7);go_simp;refine ro hK trivial fun _=>?_
      clear hK K;clear cx;refine r3 12 fun K hK=>?_
      refine bG _ _ rfl rfl rfl (uh HN7).2 ?_;intro v9 y9 hP;obtain ⟨k1,k2⟩:=hP;obtain ⟨a9,c9,e9⟩:=k1.form;obtain ⟨n9,en9⟩:∃ n9,((⟨pc,pi,pd⟩:Op.Pk) :: ⟨pc,pi,pd⟩ :: r).length=n9:=⟨_,rfl⟩;rw [en9] at e9;clear en9;subst e9;have H9:=aa (uh HF y9 _ k1 k2);clear k1 k2 HN7 HF;refine ro hK trivial fun _=>?_
      clear hK K;refine tt 13 14 ?_;refine r3 15 fun K hK=>?_
      obtain ⟨cx,fx,_⟩:=uh H9;go_simp;refine ro hK trivial fun _=>?_
      clear hK K;refine dn ?_ _;go_wp2
      refine zI ?_;exact ⟨rfl,⟨_,_,_,_,(uh H9).2.2.1⟩,(uh H9).2.2.2⟩
     ·obtain ⟨cx,_⟩:=uh HC _ (uh HB0);go_simp;refine ro hK trivial fun _=>?_
      clear hK K;clear cx;refine r3 7 fun K hK=>?_
      have HN7:=aa (uh HNw _ (uh HB0));go_simp;refine ro hK trivial fun _=>?_
      clear hK K;generalize y0.heap.size=N7 at HN7 ⊢;generalize y0.alloc (.cells #[.int .i64 pc,.int .i64 pi,.string pd] 85)=y7 at HN7 ⊢;have HB7:=aa (uh HN7).1;refine r3 12 fun K hK=>?_
      refine bG _ _ rfl rfl rfl (uh HN7).2 ?_;intro v9 y9 hP;obtain ⟨k1,k2⟩:=hP;obtain ⟨a9,c9,e9⟩:=k1.form;obtain ⟨n9,en9⟩:∃ n9,((⟨pc,pi,pd⟩:Op.Pk) :: ⟨pc,pi,pd⟩ :: r).length=n9:=⟨_,rfl⟩;rw [en9] at e9;clear en9;subst e9;have H9:=aa (uh HF y9 _ k1 k2);clear k1 k2 HN7 HF;refine ro hK trivial fun _=>?_
      clear hK K;refine tt 13 14 ?_;refine r3 15 fun K hK=>?_
      obtain ⟨cx,fx,_⟩:=uh H9;go_simp;refine ro hK trivial fun _=>?_
      clear hK K;refine dn ?_ _;go_wp2
      refine zI ?_;exact ⟨rfl,⟨_,_,_,_,(uh H9).2.2.1⟩,(uh H9).2.2.2⟩
    ·obtain ⟨cx,_⟩:=uh HC _ (uh HB0);go_simp;refine ro hK trivial fun _=>?_
     clear hK K;clear cx;refine r3 6 fun K hK=>?_
     obtain ⟨_,x0,x1,x2,_⟩:=uh HC _ (uh HB0);go_simp;refine ro hK trivial fun _=>?_
     clear hK K;clear x0 x1 x2;refine r3 7 fun K hK=>?_
     have HN7:=aa (uh HNw _ (uh HB0));go_simp;refine ro hK trivial fun _=>?_
     clear hK K;generalize y0.heap.size=N7 at HN7 ⊢;generalize y0.alloc (.cells #[.int .i64 pc,.int .i64 pi,.string pd] 85)=y7 at HN7 ⊢;have HB7:=aa (uh HN7).1;refine r3 12 fun K hK=>?_
     refine bG _ _ rfl rfl rfl (uh HN7).2 ?_;intro v9 y9 hP;obtain ⟨k1,k2⟩:=hP;obtain ⟨a9,c9,e9⟩:=k1.form;obtain ⟨n9,en9⟩:∃ n9,((⟨pc,pi,pd⟩:Op.Pk) :: ⟨pc,pi,pd⟩ :: r).length=n9:=⟨_,rfl⟩;rw [en9] at e9;clear en9;subst e9;have H9:=aa (uh HF y9 _ k1 k2);clear k1 k2 HN7 HF;refine ro hK trivial fun _=>?_
     clear hK K;refine tt 13 14 ?_;refine r3 15 fun K hK=>?_
     obtain ⟨cx,fx,_⟩:=uh H9;go_simp;refine ro hK trivial fun _=>?_
     clear hK K;refine dn ?_ _;go_wp2
     refine zI ?_;exact ⟨rfl,⟨_,_,_,_,(uh H9).2.2.1⟩,(uh H9).2.2.2⟩
   ·obtain ⟨cx,_⟩:=uh HC _ (uh HB0);go_simp;refine ro hK trivial fun _=>?_
    clear hK K;clear cx;refine r3 4 fun K hK=>?_
    obtain ⟨cx,_⟩:=uh HC _ (uh HB0);go_simp;refine ro hK trivial fun _=>?_
    clear hK K;clear cx;refine t2 5 ?_;refine r3 6 fun K hK=>?_
    obtain ⟨_,x0,x1,x2,_⟩:=uh HC _ (uh HB0);go_simp;refine ro hK trivial fun _=>?_
    clear hK K;clear x0 x1 x2;refine r3 7 fun K hK=>?_
    have HN7:=aa (uh HNw _ (uh HB0));go_simp;refine ro hK trivial fun _=>?_
    clear hK K;generalize y0.heap.size=N7 at HN7 ⊢;generalize y0.alloc (.cells #[.int .i64 pc,.int .i64 pi,.string pd] 85)=y7 at HN7 ⊢;have HB7:=aa (uh HN7).1;refine r3 12 fun K hK=>?_
    refine bG _ _ rfl rfl rfl (uh HN7).2 ?_;intro v9 y9 hP;obtain ⟨k1,k2⟩:=hP;obtain ⟨a9,c9,e9⟩:=k1.form;obtain ⟨n9,en9⟩:∃ n9,((⟨pc,pi,pd⟩:Op.Pk) :: ⟨pc,pi,pd⟩ :: r).length=n9:=⟨_,rfl⟩;rw [en9] at e9;clear en9;subst e9;have H9:=aa (uh HF y9 _ k1 k2);clear k1 k2 HN7 HF;refine ro hK trivial fun _=>?_
    clear hK K;refine tt 13 14 ?_;refine r3 15 fun K hK=>?_
    obtain ⟨cx,fx,_⟩:=uh H9;go_simp;refine ro hK trivial fun _=>?_
    clear hK K;refine dn ?_ _;go_wp2
    refine zI ?_;exact ⟨rfl,⟨_,_,_,_,(uh H9).2.2.1⟩,(uh H9).2.2.2⟩
  ·rw [show ml (p :: r)=p :: r from if_neg (by simpa using h40)];have d2:¬ ((r.length:Int)+1<40):=by omega
   have c60:W.cell? ⟨B,60,none⟩=some (.slice (some ⟨g,o,none⟩) (r.length+1) (cp2+1)):=hM.cells.2.2.1;rw [show (⟨dN m.a (p :: r),m.b,m.now⟩:Mw)=m by rw [← hl];rfl];have HM:=aa hM;clear hM hk hle q1 q2 q3 q4 hl;go_enter func30,ntmps30
   go_wp2
   refine zI ?_;exact ⟨rfl,⟨_,_,_,_,uh HM⟩,zC _ _⟩
theorem zv {base:Nat} {W:World} {B:Nat} {m:Mw} (h:ML base B m W) :
  Calls prog 30 #[.pointer (some ⟨B,0,none⟩),.int .i64 5] W fun r W'=>r=.returned (.tuple #[])∧ML base B (⟨m.a,dN m.b (ml m.b.ln),m.now⟩) W'∧Below base W W':=by
 obtain ⟨ca,va,cb,vb,hM⟩:=h;obtain ⟨ad,cp,hv⟩:=hM.hb.form;rcases hl:m.b.ln with _ | ⟨p,r⟩
 ·rw [hl] at hv;subst hv;have c60:W.cell? ⟨B,61,none⟩=some (.slice ad 0 cp):=hM.cells.2.2.2.1;rw [show (⟨m.a,dN m.b (ml []),m.now⟩:Mw)=m by show (⟨m.a,dN m.b ([]),m.now⟩:Mw)=m;rw [← hl];rfl];have HM:=aa hM;clear hM hl;go_enter func30,ntmps30
  go_wp2
  refine zI ?_;exact ⟨rfl,⟨_,_,_,_,uh HM⟩,zC _ _⟩
 ·have hk:=hM.hb;rw [hl] at hk;have hle:=hM.lb;rw [hl,List.length_cons] at hle;obtain ⟨g,o,cp2,cur,hv1,q1,q2,q3,q4⟩:=hk.fst;clear hv;subst hv1;by_cases h40:r.length+1<40
  ·rw [show ml (p :: r)=p :: p :: r from if_pos h40];have d2:(r.length:Int)+1<40:=by omega
   have hg:=(ge.1 q1).1;have HC:Hid (∀ y,Below W.heap.size W y→y.cell? ⟨B,61,none⟩=some (.slice (some ⟨g,o,none⟩) (r.length+1) (cp2+1))∧y.cell? ⟨g,o,none⟩=some (.int .i64 p.code)∧y.cell? ⟨g,o+1,none⟩=some (.int .i64 p.id)∧y.cell? ⟨g,o+2,none⟩=some (.string p.data)∧y.frozen? ⟨B,61,none⟩=false):=aa fun y hy=>by
    have e1:=(hy.block g hg).trans q1;exact ⟨(hM.below hy).cells.2.2.2.1,by rw [cr e1];exact q2,by rw [cr e1];exact q3,by rw [cr e1];exact q4,(hM.below hy).fz _⟩
   have HNw:Hid (∀ y,Below W.heap.size W y→Below W.heap.size W (y.alloc (.cells #[.int .i64 p.code,.int .i64 p.id,.string p.data] 85))∧∀ ty,∃ v' w',(Builtin.append_ #[60,60] ty #[.slice (some ⟨y.heap.size,0,none⟩) 1 1,.slice (some ⟨g,o,none⟩) (r.length+1) (cp2+1)]).run prog (y.alloc (.cells #[.int .i64 p.code,.int .i64 p.id,.string p.data] 85))=.ok v' w'∧(HoldsK w' W.heap.size v' (p :: p :: r)∧Below W.heap.size W w')):=aa fun y hy=>by
    have hya:Below W.heap.size W (y.alloc (.cells #[.int .i64 p.code,.int .i64 p.id,.string p.data] 85)):=hy.alloc hy.size _;refine ⟨hya,fun ty=>?_⟩;obtain ⟨v',w',h1,h2,h3⟩:=fh (base:=y.heap.size) (D:=[p]) (F:=p :: r) ty rfl (zD 1) (kH y [p] (by simp)) (hk.below hya) (by simp) (by simp;omega) (by simp);exact ⟨v',w',h1,h2.mono hy.size,hya.trans ⟨h3.os,h3.tape,h3.output,h3.size,fun k hk=>h3.block k (Nat.lt_of_lt_of_le hk hya.size) (fun e=>by cases e;have:=hy.size;omega)⟩⟩
   have HF:=aa fun (y9:World) (v9:Value) (k1:HoldsK y9 W.heap.size v9 (p :: p :: r)) (k2:Below W.heap.size W y9)=>show y9.cell? ⟨B,61,none⟩=some (.slice (some ⟨g,o,none⟩) (r.length+1) (cp2+1))∧y9.frozen? ⟨B,61,none⟩=false∧Ml base (y9.setCell ⟨B,61,none⟩ v9) B ⟨m.a,dN m.b (p :: p :: r),m.now⟩ ca va cb v9∧Below base W (y9.setCell ⟨B,61,none⟩ v9) from by
    have h2:=hM.below k2;obtain ⟨g1,g2⟩:=hM.lineB (Gw.new k2 fun g hg=>(k1.lo g hg).1) (k1.mono hM.bs) (by simp;omega:(p :: p :: r).length≤40);exact ⟨h2.cells.2.2.2.1,h2.fz _,g1,g2⟩
   obtain ⟨c60,_⟩:=uh HC W (zC _ _);have HB0:Hid (Below W.heap.size W W.drew):=aa (zC _ _).drew;clear hM hk hle q1 q2 q3 q4 hl hg;obtain ⟨pc,pi,pd⟩:=p;dsimp only at HC HNw HF;go_enter func30,ntmps30
   go_upto_region 15 with fail
   refine wp_region_held_drew (S:=fun _=>True) (by kernel_rfl) trivial (fun hHeld=>?_);clear c60;generalize W.drew=y0 at HB0 ⊢;refine tq 0 1 2 3 ?_;refine tt 8 9 ?_;refine t2 10 ?_;refine r4 4 11 (fun K hK=>?_) (fun K hK=>?_)
   ·obtain ⟨cx,_⟩:=uh HC _ (uh HB0);go_simp;refine ro hK trivial fun _=>?_
    clear hK K;clear cx;refine t2 5 ?_;refine r4 6 11 (fun K hK=>?_) (fun K hK=>?_)
    ·obtain ⟨_,x0,x1,x2,_⟩:=uh HC _ (uh HB0);go_simp;refine ro hK trivial fun _=>?_
     clear hK K;clear x0 x1 x2;refine r4 7 11 (fun K hK=>?_) (fun K hK=>?_)
     ·have HN7:=aa (uh HNw _ (uh HB0));go_simp;refine ro hK trivial fun _=>?_
      clear hK K;generalize y0.heap.size=N7 at HN7 ⊢;generalize y0.alloc (.cells #[.int .i64 pc,.int .i64 pi,.string pd] 85)=y7 at HN7 ⊢;have HB7:=aa (uh HN7).1;refine r3 11 fun K hK=>?_
      obtain ⟨cx,_⟩:=uh HC _ (uh HB7);go_simp;refine ro hK trivial fun _=>?_
      clear hK K;clear cx;refine r3 12 fun K hK=>?_
      refine bG _ _ rfl rfl rfl (uh HN7).2 ?_;intro v9 y9 hP;obtain ⟨k1,k2⟩:=hP;obtain ⟨a9,c9,e9⟩:=k1.form;obtain ⟨n9,en9⟩:∃ n9,((⟨pc,pi,pd⟩:Op.Pk) :: ⟨pc,pi,pd⟩ :: r).length=n9:=⟨_,rfl⟩;rw [en9] at e9;clear en9;subst e9;have H9:=aa (uh HF y9 _ k1 k2);clear k1 k2 HN7 HF;refine ro hK trivial fun _=>?_
      clear hK K;refine tt 13 14 ?_;refine r3 15 fun K hK=>?_
      obtain ⟨cx,fx,_⟩:=uh H9;go_simp;refine ro hK trivial fun _=>?_
      clear hK K;refine dn ?_ _;go_wp2
      refine zI ?_;exact ⟨rfl,⟨_,_,_,_,(uh H9).2.2.1⟩,(uh H9).2.2.2⟩
     ·obtain ⟨cx,_⟩:=uh HC _ (uh HB0);go_simp;refine ro hK trivial fun _=>?_
      clear hK K;clear cx;refine r3 7 fun K hK=>?_
      have HN7:=aa (uh HNw _ (uh HB0));go_simp;refine ro hK trivial fun _=>?_
      clear hK K;generalize y0.heap.size=N7 at HN7 ⊢;generalize y0.alloc (.cells #[.int .i64 pc,.int .i64 pi,.string pd] 85)=y7 at HN7 ⊢;have HB7:=aa (uh HN7).1;refine r3 12 fun K hK=>?_
      refine bG _ _ rfl rfl rfl (uh HN7).2 ?_;intro v9 y9 hP;obtain ⟨k1,k2⟩:=hP;obtain ⟨a9,c9,e9⟩:=k1.form;obtain ⟨n9,en9⟩:∃ n9,((⟨pc,pi,pd⟩:Op.Pk) :: ⟨pc,pi,pd⟩ :: r).length=n9:=⟨_,rfl⟩;rw [en9] at e9;clear en9;subst e9;have H9:=aa (uh HF y9 _ k1 k2);clear k1 k2 HN7 HF;refine ro hK trivial fun _=>?_
      clear hK K;refine tt 13 14 ?_;refine r3 15 fun K hK=>?_
      obtain ⟨cx,fx,_⟩:=uh H9;go_simp;refine ro hK trivial fun _=>?_
      clear hK K;refine dn ?_ _;go_wp2
      refine zI ?_;exact ⟨rfl,⟨_,_,_,_,(uh H9).2.2.1⟩,(uh H9).2.2.2⟩
    ·obtain ⟨cx,_⟩:=uh HC _ (uh HB0);go_simp;refine ro hK trivial fun _=>?_
     clear hK K;clear cx;refine r3 6 fun K hK=>?_
     obtain ⟨_,x0,x1,x2,_⟩:=uh HC _ (uh HB0);go_simp;refine ro hK trivial fun _=>?_
     clear hK K;clear x0 x1 x2;refine r3 7 fun K hK=>?_
     have HN7:=aa (uh HNw _ (uh HB0));go_simp;refine ro hK trivial fun _=>?_
     clear hK K;generalize y0.heap.size=N7 at HN7 ⊢;generalize y0.alloc (.cells #[.int .i64 pc,.int .i64 pi,.string pd] 85)=y7 at HN7 ⊢;have HB7:=aa (uh HN7).1;refine r3 12 fun K hK=>?_
     refine bG _ _ rfl rfl rfl (uh HN7).2 ?_;intro v9 y9 hP;obtain ⟨k1,k2⟩:=hP;obtain ⟨a9,c9,e9⟩:=k1.form;obtain ⟨n9,en9⟩:∃ n9,((⟨pc,pi,pd⟩:Op.Pk) :: ⟨pc,pi,pd⟩ :: r).length=n9:=⟨_,rfl⟩;rw [en9] at e9;clear en9;subst e9;have H9:=aa (uh HF y9 _ k1 k2);clear k1 k2 HN7 HF;refine ro hK trivial fun _=>?_
     clear hK K;refine tt 13 14 ?_;refine r3 15 fun K hK=>?_
     obtain ⟨cx,fx,_⟩:=uh H9;go_simp;refine ro hK trivial fun _=>?_
     clear hK K;refine dn ?_ _;go_wp2
     refine zI ?_;exact ⟨rfl,⟨_,_,_,_,(uh H9).2.2.1⟩,(uh H9).2.2.2⟩
   ·obtain ⟨cx,_⟩:=uh HC _ (uh HB0);go_simp;refine ro hK trivial fun _=>?_
    clear hK K;clear cx;refine r3 4 fun K hK=>?_
    obtain ⟨cx,_⟩:=uh HC _ (uh HB0);go_simp;refine ro hK trivial fun _=>?_
    clear hK K;clear cx;refine t2 5 ?_;refine r3 6 fun K hK=>?_
    obtain ⟨_,x0,x1,x2,_⟩:=uh HC _ (uh HB0);go_simp;refine ro hK trivial fun _=>?_
    clear hK K;clear x0 x1 x2;refine r3 7 fun K hK=>?_
    have HN7:=aa (uh HNw _ (uh HB0));go_simp;refine ro hK trivial fun _=>?_
    clear hK K;generalize y0.heap.size=N7 at HN7 ⊢;generalize y0.alloc (.cells #[.int .i64 pc,.int .i64 pi,.string pd] 85)=y7 at HN7 ⊢;have HB7:=aa (uh HN7).1;refine r3 12 fun K hK=>?_
    refine bG _ _ rfl rfl rfl (uh HN7).2 ?_;intro v9 y9 hP;obtain ⟨k1,k2⟩:=hP;obtain ⟨a9,c9,e9⟩:=k1.form;obtain ⟨n9,en9⟩:∃ n9,((⟨pc,pi,pd⟩:Op.Pk) :: ⟨pc,pi,pd⟩ :: r).length=n9:=⟨_,rfl⟩;rw [en9] at e9;clear en9;subst e9;have H9:=aa (uh HF y9 _ k1 k2);clear k1 k2 HN7 HF;refine ro hK trivial fun _=>?_
    clear hK K;refine tt 13 14 ?_;refine r3 15 fun K hK=>?_
    obtain ⟨cx,fx,_⟩:=uh H9;go_simp;refine ro hK trivial fun _=>?_
    clear hK K;refine dn ?_ _;go_wp2
    refine zI ?_;exact ⟨rfl,⟨_,_,_,_,(uh H9).2.2.1⟩,(uh H9).2.2.2⟩
  ·rw [show ml (p :: r)=p :: r from if_neg (by simpa using h40)];have d2:¬ ((r.length:Int)+1<40):=by omega
   have c60:W.cell? ⟨B,61,none⟩=some (.slice (some ⟨g,o,none⟩) (r.length+1) (cp2+1)):=hM.cells.2.2.2.1;rw [show (⟨m.a,dN m.b (p :: r),m.now⟩:Mw)=m by rw [← hl];rfl];have HM:=aa hM;clear hM hk hle q1 q2 q3 q4 hl;go_enter func30,ntmps30
   go_wp2
   refine zI ?_;exact ⟨rfl,⟨_,_,_,_,uh HM⟩,zC _ _⟩
theorem zw {base:Nat} {W:World} {B:Nat} {m:Mw} (h:ML base B m W) (h0:0≤m.now) (h1:m.now≤1000000) :
  Calls prog 30 #[.pointer (some ⟨B,0,none⟩),.int .i64 6] W fun r W'=>r=.returned (.tuple #[])∧ML base B (ng m) W'∧Below base W W':=by
 obtain ⟨ca,va,cb,vb,hM⟩:=h;have c62:=hM.cells.2.2.2.2;have f62:=hM.fz 62;have HT:=aa (hM.time (m.now+1));clear hM;go_enter func30,ntmps30
 go_upto_region 18 with fail
 clear c62 f62;generalize W.setCell ⟨B,62,none⟩ (.int .i64 (m.now+1))=W1 at HT ⊢;go_upto_region 18 with fail
 have h18d:=(uh HT).1.below (zC _ _).drew;have CH18:=aa (tO h18d.ea (m.now+1));have CT18:=aa fun q cl vs (hA:AnE W1.drew.heap.size q (dq m.a.e m.a.F1 m.a.F2 (m.now+1)) cl vs) (hfv:∀ g,vs.ownBlock=some g→W1.drew.heap.size≤g) (hbq:Below W1.drew.heap.size W1.drew q)=>kI h18d (kD _ _ _ _) hA hfv hbq
 have HS18:Hid (∀ q,Below W1.drew.heap.size W1.drew q→q.cell? ⟨B,62,none⟩=some (.int .i64 (m.now+1))):=aa fun q hq=>(h18d.below hq).cells.2.2.2.2
 have HZ18:Hid (∀ q c' v',Ml base q B ⟨be m.a (dq m.a.e m.a.F1 m.a.F2 (m.now+1)),m.b,m.now+1⟩ c' v' cb vb→Fr B va v' W1.drew q→q.cell? ⟨B,62,none⟩=some (.int .i64 (m.now+1))∧Ml base q B ⟨gd m.a (m.now+1),m.b,m.now+1⟩ c' v' cb vb∧Below base W q):=aa fun q c' v' hq fr =>
  ⟨hq.cells.2.2.2.2,hq,(uh HT).2.trans (((zC base W1).drew).trans (fr.low h18d.bB (fun g hg=>(h18d.wa.ownB g hg).2.1) h18d.bs))⟩
 have rg18:W1.drew.rangeAt B 0 ca:=h18d.cells.1;have hl18:=h18d.ea.len;have hS18:=uh HS18 W1.drew (zC _ _);clear h18d HT;refine wp_region_held_drew (S:=fun z=>z.cell? ⟨B,62,none⟩=some (.int .i64 (m.now+1))) (by kernel_rfl) hS18 (fun hHeld=>?_);refine tq 0 1 2 3 ?_;refine tq 5 6 7 8 ?_;refine r3 4 fun K hK=>?_
 rw [if_pos (by rfl)];refine wp_load_mid 32 (.tmp 200) rfl B 0 rfl ca _ rg18 underlying32 rfl (by rw [hl18];exact aL) ?_;refine ro hK hS18 fun _=>?_
 clear hK K rg18;refine r3 9 fun K hK=>?_
 go_simp;refine (uh CH18).mono ?_;rintro r9 q ⟨cl,vs,rfl,hA,hfv,hbq⟩;have hS1:=uh HS18 q hbq;have HQ:=aa (uh CT18 q cl vs hA hfv hbq);clear CH18 CT18 hA hfv hbq hS18 HS18;refine ro hK hS1 fun _=>?_
 clear hK K;refine r3 10 fun K hK=>?_
 go_simp;refine (uh HQ).mono ?_;rintro e W18 ⟨rfl,c18,v18,hs,hfr⟩;have HA':=aa (uh HZ18 W18 c18 v18 hs hfr);clear HQ HZ18 hs hfr hS1;refine ro hK (uh HA').1 fun _=>?_
 clear hK K;have HA:=aa (uh HA').2;clear HA';refine dn ?_ _;go_upto_region 19 with fail
 have h19d:=(uh HA).1.below (zC _ _).drew;have CH19:=aa (tO h19d.eb (m.now+1));have CT19:=aa fun q cl vs (hA:AnE W18.drew.heap.size q (dq m.b.e m.b.F1 m.b.F2 (m.now+1)) cl vs) (hfv:∀ g,vs.ownBlock=some g→W18.drew.heap.size≤g) (hbq:Below W18.drew.heap.size W18.drew q)=>kJ h19d (kD _ _ _ _) hA hfv hbq
 have HS19:Hid (∀ q,Below W18.drew.heap.size W18.drew q→q.cell? ⟨B,62,none⟩=some (.int .i64 (m.now+1))):=aa fun q hq=>(h19d.below hq).cells.2.2.2.2
 have HZ19:Hid (∀ q c' v',Ml base q B ⟨gd m.a (m.now+1),be m.b (dq m.b.e m.b.F1 m.b.F2 (m.now+1)),m.now+1⟩ c18 v18 c' v'→Fr B vb v' W18.drew q→q.cell? ⟨B,62,none⟩=some (.int .i64 (m.now+1))∧Ml base q B ⟨gd m.a (m.now+1),gd m.b (m.now+1),m.now+1⟩ c18 v18 c' v'∧Below base W q):=aa fun q c' v' hq fr =>
  ⟨hq.cells.2.2.2.2,hq,(uh HA).2.trans (((zC base W18).drew).trans (fr.low h19d.bB (fun g hg=>(h19d.wb.ownB g hg).2.1) h19d.bs))⟩
 have rg19:W18.drew.rangeAt B 30 cb:=h19d.cells.2.1;have hl19:=h19d.eb.len;have hS19:=uh HS19 W18.drew (zC _ _);clear h19d HA;refine wp_region_held_drew (S:=fun z=>z.cell? ⟨B,62,none⟩=some (.int .i64 (m.now+1))) (by kernel_rfl) hS19 (fun hHeld=>?_);refine tq 0 1 2 3 ?_;refine tq 5 6 7 8 ?_;refine r3 4 fun K hK=>?_
 rw [if_pos (by rfl)];refine wp_load_mid 32 (.tmp 211) rfl B 30 rfl cb _ rg19 underlying32 rfl (by rw [hl19];exact aL) ?_;refine ro hK hS19 fun _=>?_
 clear hK K rg19;refine r3 9 fun K hK=>?_
 go_simp;refine (uh CH19).mono ?_;rintro r9 q ⟨cl,vs,rfl,hA,hfv,hbq⟩;have hS1:=uh HS19 q hbq;have HQ:=aa (uh CT19 q cl vs hA hfv hbq);clear CH19 CT19 hA hfv hbq hS19 HS19;refine ro hK hS1 fun _=>?_
 clear hK K;refine r3 10 fun K hK=>?_
 go_simp;refine (uh HQ).mono ?_;rintro e W19 ⟨rfl,c19,v19,hs,hfr⟩;have HB':=aa (uh HZ19 W19 c19 v19 hs hfr);clear HQ HZ19 hs hfr hS1;refine ro hK (uh HB').1 fun _=>?_
 clear hK K;have HB:=aa (uh HB').2;clear HB';refine dn ?_ _;go_wp2
 refine zI ?_;exact ⟨rfl,⟨_,_,_,_,(uh HB).1⟩,(uh HB).2⟩
theorem zx {base:Nat} {W:World} {B:Nat} {m:Mw} (h:ML base B m W) {e:Int} (h0:¬ e=0) (h1:¬ e=1) (h2:¬ e=2) (h3:¬ e=3) (h4:¬ e=4) (h5:¬ e=5) (h6:¬ e=6) :
  Calls prog 30 #[.pointer (some ⟨B,0,none⟩),.int .i64 e] W fun r W'=>r=.returned (.tuple #[])∧ML base B (m) W'∧Below base W W':=by
 have HM:=aa h;clear h;go_enter func30,ntmps30
 go_wp2
 refine zI ?_;exact ⟨rfl,uh HM,zC _ _⟩
theorem yi {base:Nat} {W:World} {B:Nat} {m:Mw} (h:ML base B m W) (n0:0≤m.now) (n1:m.now≤1000000) (e:Int) :
  Calls prog 30 #[.pointer (some ⟨B,0,none⟩),.int .i64 e] W fun r W'=>r=.returned (.tuple #[])∧ML base B (fQ m e) W'∧Below base W W':=by
 by_cases h0:e=0
 ·subst h0;exact zo h
 by_cases h1:e=1
 ·subst h1;exact zq h
 by_cases h2:e=2
 ·subst h2;exact zu h
 by_cases h3:e=3
 ·subst h3;exact zp h
 by_cases h4:e=4
 ·subst h4;exact zr h
 by_cases h5:e=5
 ·subst h5;exact zv h
 by_cases h6:e=6
 ·subst h6;exact zw h n0 n1
 rw [show fQ m e=m by unfold fQ;rw [if_neg h0,if_neg h1,if_neg h2,if_neg h3,if_neg h4,if_neg h5,if_neg h6]];exact zx h h0 h1 h2 h3 h4 h5 h6
end Go.Proofs.YtjdgiimfpkideaaGreatDoor
