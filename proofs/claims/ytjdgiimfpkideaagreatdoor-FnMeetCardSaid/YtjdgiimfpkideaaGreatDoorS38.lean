/- MtN MtQ -/
import Derived.Test.YtjdgiimfpkideaaGreatDoorS37
set_option maxHeartbeats 8000000
set_option maxRecDepth 100000
namespace Go.Proofs.YtjdgiimfpkideaaGreatDoor
open Go.RowKit Go.Proofs.Tryz
variable {base B:Nat} {W:World} {m:Mw} {va vb:Value}
theorem zd(m:Mw):au aI (min 1 m.a.ln.length) m=aI m:=by
 cases e:m.a.ln with
 | nil =>
  show m=_
  unfold aI;rw[e]
 | cons p r =>
  rw[show min 1 (p::r).length=1 by simp];rfl
theorem vk(h:MW base B m W va vb):Calls prog 40 #[(B,0)] W fun e W'=>e=.returned (.tuple #[])/\∃va' vb',MW base B (aI m) W' va' vb'/\FW B va vb va' vb' W W':=by
 have HN:Hid (∀y va' vb' m',MW base B m' y va' vb'->y.cell? (B,62)=some (m'.now:V)):=aa fun y va' vb' m' ⟨_,_,hM⟩=>hM.now.1
 have hd:MW base B m W.drew va vb:=by
  obtain⟨ca,cb,hM⟩:=h;exact⟨ca,cb,hM.below (zC _ _).drew⟩
 have CC:=aa (Dr B 30 1 W.drew);have CH:=aa fun(q:World) (C1 C2:Nat) (hb:Below W.drew.heap.size W.drew q) (b1:q.heap[C1]?=some (.cells #[.int .i64 ((1:Nat):Int)] 3)) (b2:q.heap[C2]?=some (.cells #[(B,30)] 111))=>rj (show MW base B m q va vb by
  obtain⟨ca,cb,hM⟩:=hd;exact⟨ca,cb,hM.below hb⟩) b1 b2
 rw[zd]at CH;have HD:=aa hd;have hnw:(aI m).now=m.now:=by
  unfold aI;cases m.a.ln<;>rfl
 have hS0:=uh HN _ _ _ _ hd;clear hd h;go_enter func40,ntmps40
 go_upto_region 0 with fail
 refine wp_region_held_drew (S:=fun z=>z.cell? (B,62)=some (m.now:V)) (by kernel_rfl) hS0 (fun hHeld=>?_);refine tq 0 1 2 3 ?_;refine tq 4 5 6 8 ?_;refine tt 9 10 ?_;refine t2 11 ?_;refine r3 7 fun K hK=>?_
 have CC':Calls prog 64 #[(B,30),(1:Int)] W.drew fun e W'=>yg B 30 1 W.drew e W':=uh CC
 go_simp;refine CC'.mono ?_;rintro e q⟨C1,C2,rfl,b1,b2,hb,_,_⟩;have HQ:=aa (uh CH q C1 C2 hb b1 b2);have hS1:q.cell? (B,62)=some (.int .i64 m.now):=(hb.cell (p:=(B,62)) (World.block_lt_of_cell? _ _ hS0)).trans hS0;have HB:=aa hb;clear CC CC' CH b1 b2 hb HD;refine ro hK hS1 fun _=>?_
 clear hK K;refine r3 12 fun K hK=>?_
 go_simp;refine HQ.out.mono ?_;rintro e W'⟨rfl,va',vb',hm,hf⟩;have hS2:=uh HN _ _ _ _ hm;rw[hnw]at hS2;have HF:=aa (zA hm hf);clear hm hf HQ;refine ro hK hS2 fun _=>?_
 clear hK K;refine dn ?_ _;go_wp2
 refine zI ?_;exact⟨rfl,va',vb',HF.out.1,(FW.of_below ((zC W W).drew.trans HB.out)).trans HF.out.2⟩
theorem ze(m:Mw):au aN (min 1 m.b.ln.length) m=aN m:=by
 cases e:m.b.ln with
 | nil =>
  show m=_
  unfold aN;rw[e]
 | cons p r =>
  rw[show min 1 (p::r).length=1 by simp];rfl
theorem vl(h:MW base B m W va vb):Calls prog 43 #[(B,0)] W fun e W'=>e=.returned (.tuple #[])/\∃va' vb',MW base B (aN m) W' va' vb'/\FW B va vb va' vb' W W':=by
 have HN:Hid (∀y va' vb' m',MW base B m' y va' vb'->y.cell? (B,62)=some (m'.now:V)):=aa fun y va' vb' m' ⟨_,_,hM⟩=>hM.now.1
 have hd:MW base B m W.drew va vb:=by
  obtain⟨ca,cb,hM⟩:=h;exact⟨ca,cb,hM.below (zC _ _).drew⟩
 have CC:=aa (Dr B 61 1 W.drew);have CH:=aa fun(q:World) (C1 C2:Nat) (hb:Below W.drew.heap.size W.drew q) (b1:q.heap[C1]?=some (.cells #[.int .i64 ((1:Nat):Int)] 3)) (b2:q.heap[C2]?=some (.cells #[(B,61)] 111))=>rk (show MW base B m q va vb by
  obtain⟨ca,cb,hM⟩:=hd;exact⟨ca,cb,hM.below hb⟩) b1 b2
 rw[ze]at CH;have HD:=aa hd;have hnw:(aN m).now=m.now:=by
  unfold aN;cases m.b.ln<;>rfl
 have hS0:=uh HN _ _ _ _ hd;clear hd h;go_enter func43,ntmps43
 go_upto_region 0 with fail
 refine wp_region_held_drew (S:=fun z=>z.cell? (B,62)=some (m.now:V)) (by kernel_rfl) hS0 (fun hHeld=>?_);refine tq 0 1 2 3 ?_;refine tq 4 5 6 8 ?_;refine tt 9 10 ?_;refine t2 11 ?_;refine r3 7 fun K hK=>?_
 have CC':Calls prog 64 #[(B,61),(1:Int)] W.drew fun e W'=>yg B 61 1 W.drew e W':=uh CC
 go_simp;refine CC'.mono ?_;rintro e q⟨C1,C2,rfl,b1,b2,hb,_,_⟩;have HQ:=aa (uh CH q C1 C2 hb b1 b2);have hS1:q.cell? (B,62)=some (.int .i64 m.now):=(hb.cell (p:=(B,62)) (World.block_lt_of_cell? _ _ hS0)).trans hS0;have HB:=aa hb;clear CC CC' CH b1 b2 hb HD;refine ro hK hS1 fun _=>?_
 clear hK K;refine r3 12 fun K hK=>?_
 go_simp;refine HQ.out.mono ?_;rintro e W'⟨rfl,va',vb',hm,hf⟩;have hS2:=uh HN _ _ _ _ hm;rw[hnw]at hS2;have HF:=aa (zA hm hf);clear hm hf HQ;refine ro hK hS2 fun _=>?_
 clear hK K;refine dn ?_ _;go_wp2
 refine zI ?_;exact⟨rfl,va',vb',HF.out.1,(FW.of_below ((zC W W).drew.trans HB.out)).trans HF.out.2⟩
theorem vm(h:MW base B m W va vb)(now:Int):Calls prog 66 #[(B,0),now] W fun e W'=>e=.returned (.tuple #[])/\∃va' vb',MW base B ⟨gd m.a now,m.b,m.now⟩ W' va' vb'/\FW B va vb va' vb' W W':=by
 obtain⟨ca,cb,hM⟩:=h;refine(Dx hM.sa (by decide) hM.lo now).mono ?_;rintro e W'⟨rfl,ca',v',hs,hf,hn⟩;exact⟨rfl,v',vb,⟨ca',cb,hM.setA hs hf hn⟩,fun _=>Fw.a _ hf⟩
theorem vp(h:MW base B m W va vb)(now:Int):Calls prog 66 #[(B,31),now] W fun e W'=>e=.returned (.tuple #[])/\∃va' vb',MW base B ⟨m.a,gd m.b now,m.now⟩ W' va' vb'/\FW B va vb va' vb' W W':=by
 obtain⟨ca,cb,hM⟩:=h;rw[<- hM.lenA];refine(Dx hM.sb (by decide) hM.lo now).mono ?_;rintro e W'⟨rfl,cb',v',hs,hf,hn⟩;exact⟨rfl,va,v',⟨ca,cb',hM.setB hs hf hn⟩,fun _=>Fw.b _ hf⟩
theorem tL(h:MW base B m W va vb)(h0:0<=m.now)(h1:m.now<=1000000):Calls prog 44 #[(B,0)] W fun e W'=>e=.returned (.tuple #[])/\∃va' vb',MW base B (z_ m) W' va' vb'/\FW B va vb va' vb' W W':=by
 have HN:Hid (∀y va' vb' m',MW base B m' y va' vb'->y.cell? (B,62)=some (m'.now:V)):=aa fun y va' vb' m' ⟨_,_,hM⟩=>hM.now.1
 have HDr:Hid (∀y va' vb' m',MW base B m' y va' vb'->MW base B m' y.drew va' vb'):=aa fun y va' vb' m' ⟨ca,cb,hM⟩=>⟨ca,cb,hM.below (zC _ _).drew⟩
 have HT:Hid (MW base B ⟨m.a,m.b,m.now+1⟩ (W.setCell (B,62) (.int .i64 (m.now+1))) va vb/\FW B va vb va vb W (W.setCell (B,62) (.int .i64 (m.now+1)))):=aa (by
  obtain⟨ca,cb,hM⟩:=h;exact⟨⟨ca,cb,(hM.time (l:=0) (m.now+1)).1⟩,fun l=>(hM.time (l:=l) (m.now+1)).2⟩)
 obtain⟨n0,n1⟩:W.cell? (B,62)=some (.int .i64 m.now)/\W.frozen? (B,62)=false:=by
  obtain⟨ca,cb,hM⟩:=h;exact hM.now
 clear h;unfold z_;generalize m.now=t at*;generalize m.a=ma at*;generalize m.b=mb at*;go_enter func44,ntmps44
 go_upto_region 1 with fail
 clear n0 n1;generalize W.setCell (B,62) (.int .i64 (t+1))=W1 at HT|-;have hS0:=uh HN _ _ _ _ (uh HDr _ _ _ _ HT.out.1);refine wp_region_held_drew (S:=fun z=>z.cell? (B,62)=some (.int .i64 (t+1))) (by kernel_rfl) hS0 (fun hHeld=>?_);refine tq 0 1 2 3 ?_;refine tt 4 5 ?_;refine t2 6 ?_;refine r3 7 fun K hK=>?_
 go_simp;refine(vm (uh HDr _ _ _ _ HT.out.1) (t+1)).mono ?_;rintro e W2⟨rfl,va2,vb2,hm2,hf2⟩;have HT2:=aa (zA hm2 (HT.out.2.trans ((FW.of_below (zC _ _).drew).trans hf2)));clear hm2 hf2 HT hHeld hS0;refine ro hK (uh HN _ _ _ _ HT2.out.1) fun _=>?_
 clear hK K;refine dn ?_ _;go_upto_region 2 with fail
 have hS0:=uh HN _ _ _ _ (uh HDr _ _ _ _ HT2.out.1);refine wp_region_held_drew (S:=fun z=>z.cell? (B,62)=some (.int .i64 (t+1))) (by kernel_rfl) hS0 (fun hHeld=>?_);refine tq 0 1 2 3 ?_;refine tt 4 5 ?_;refine t2 6 ?_;refine r3 7 fun K hK=>?_
 go_simp;refine(vp (uh HDr _ _ _ _ HT2.out.1) (t+1)).mono ?_;rintro e W3⟨rfl,va3,vb3,hm3,hf3⟩;have HT3:=aa (zA hm3 (HT2.out.2.trans ((FW.of_below (zC _ _).drew).trans hf3)));clear hm3 hf3 HT2 hHeld hS0;refine ro hK (uh HN _ _ _ _ HT3.out.1) fun _=>?_
 clear hK K;refine dn ?_ _;go_wp2
 refine zI ?_;exact⟨rfl,va3,vb3,uh HT3⟩
theorem rl(m:Mw):(cT m).now=m.now+1:=by
 unfold cT;dsimp only;show(au aN (au aI m.a.ln.length m).b.ln.length (au aI m.a.ln.length m)).now+1=_
 rw[(fH _ _ (zD _)).2,(fG _ _ (zD _)).2]
theorem ij(m:Mw):∀i:Nat,(au cT i m).now=m.now+i
 | 0=>by simp[au]
 | i+1=>by
  show(cT (au cT i m)).now=_
  rw[rl,ij m i];omega
theorem rm(h:MW base B m W va vb)(h0:0<=m.now)(h1:m.now<=100000):Calls prog 25 #[.pointer (some ⟨B,0,none⟩)] W fun e W'=>e=.returned (.tuple #[])/\∃va' vb',MW base B (au cT 100 m) W' va' vb'/\FW B va vb va' vb' W W':=by
 have H0:=aa h;clear h;go_enter func25,ntmps25
 go_wp2_with fail
 go_loopw [2] (fun p wr=>∃(i:Nat)(va' vb':Value),i<=100/\p=.int .i64 i/\MW base B (au cT i m) wr va' vb'/\FW B va vb va' vb' W wr) (fun p _=>100-(intOf p).toNat)
 case atStart=>exact⟨0,va,vb,by omega,rfl,uh H0,fun _=>Fw.refl _ _ _ _ _⟩
 case round =>
  obtain⟨i,va',vb',hi,rfl,hM,hf⟩:=hrel;by_cases hlt:i<100
  .have d1:(i:Int)<100:=by omega
   have hnw:=ij m i;have HST:Hid (au cT (i+1) m=cT (au cT i m)):=aa rfl;have HM:=aa (And.intro hM hf);clear hM hf H0;generalize au cT i m=mi at*;have hn0:0<=mi.now:=by omega
   have hn1:mi.now<=1000000:=by omega
   clear hnw;go_upto_region 2 with fail
   have hd2:MW base B mi wr.drew va' vb':=by
    obtain⟨ca,cb,hM⟩:=HM.out.1;exact⟨ca,cb,hM.below (zC _ _).drew⟩
   have hS2:wr.drew.cell? ⟨B,62,none⟩=some (.int .i64 mi.now):=by
    obtain⟨ca,cb,hM⟩:=hd2;exact hM.now.1
   obtain⟨ad2,cp2,hv2⟩ : ∃ad cp,wr.drew.cell? ⟨B,30,none⟩=some (.slice ad mi.a.ln.length cp):=by
    obtain⟨ca,cb,hM⟩:=hd2;obtain⟨ad,cp,e⟩:=hM.ha.form;have:=bI hM.sa.wr.row
    rw[show([]++ca:List Value).length=30 from hM.ea.len,e]at this;exact⟨ad,cp,this⟩
   have CC2:=aa (BA hv2);have CH2:=aa fun(q:World) (C1 C2:Nat) (hb:Below wr.drew.heap.size wr.drew q) (b1:q.heap[C1]?=some (.cells #[.int .i64 ((mi.a.ln.length:Nat):Int)] 3)) (b2:q.heap[C2]?=some (.cells #[.pointer (some ⟨B,30,none⟩)] 111))=>rj (show MW base B mi q va' vb' by
    obtain⟨ca,cb,hM⟩:=hd2;exact⟨ca,cb,hM.below hb⟩) b1 b2
   have hmn2:min mi.a.ln.length mi.a.ln.length=mi.a.ln.length:=Nat.min_self _;rw[hmn2]at CH2;have hnw2:=(fG mi _ (zD _)).2;clear hd2 hmn2;have HN2:Hid (∀y va' vb',MW base B (au aI mi.a.ln.length mi) y va' vb'->y.cell? ⟨B,62,none⟩=some (.int .i64 mi.now)):=aa fun y va' vb' ⟨_,_,hM⟩=>by rw[<- hnw2];exact hM.now.1
   generalize hu2:au aI mi.a.ln.length mi=u2 at CH2 hnw2 HN2;have HU2:=aa (And.intro hu2 hnw2);clear hu2 hnw2;generalize hln2:mi.a.ln.length=n2 at CC2 CH2 hv2;clear hln2;refine wp_region_held_drew (S:=fun z=>z.cell? ⟨B,62,none⟩=some (.int .i64 mi.now)) (by kernel_rfl) hS2 (fun hHeld=>?_);refine tq 0 1 2 3 ?_;refine tq 4 5 6 8 ?_;refine tt 9 10 ?_;refine t2 11 ?_;refine r3 7 fun K hK=>?_
   go_simp;refine CC2.out.mono ?_;rintro e q2⟨C1,C2,rfl,b1,b2,hb,_,_⟩;have HQ2:=aa (uh CH2 q2 C1 C2 hb b1 b2);have hSq:q2.cell? ⟨B,62,none⟩=some (.int .i64 mi.now):=(hb.cell (p:=⟨B,62,none⟩) (World.block_lt_of_cell? _ _ hS2)).trans hS2;have HB2:=aa hb;clear CC2 CH2 b1 b2 hb hv2;refine ro hK hSq fun _=>?_
   clear hK K;refine r3 12 fun K hK=>?_
   go_simp;refine HQ2.out.mono ?_;rintro e W2⟨rfl,va2,vb2,hm2,hf2⟩;have hSz:=uh HN2 _ _ _ hm2;have HM2:=aa (And.intro hm2 (HM.out.2.trans ((FW.of_below ((zC wr.heap.size wr).drew.trans HB2.out)).trans hf2)));clear hm2 hf2 HQ2 HB2 HM hS2 hSq HN2 hHeld;refine ro hK hSz fun _=>?_
   clear hK K hSz;refine dn ?_ _;go_upto_region 3 with fail
   have hd3:MW base B u2 W2.drew va2 vb2:=by
    obtain⟨ca,cb,hM⟩:=HM2.out.1;exact⟨ca,cb,hM.below (zC _ _).drew⟩
   have hS3:W2.drew.cell? ⟨B,62,none⟩=some (.int .i64 u2.now):=by
    obtain⟨ca,cb,hM⟩:=hd3;exact hM.now.1
   obtain⟨ad3,cp3,hv3⟩ : ∃ad cp,W2.drew.cell? ⟨B,61,none⟩=some (.slice ad u2.b.ln.length cp):=by
    obtain⟨ca,cb,hM⟩:=hd3;obtain⟨ad,cp,e⟩:=hM.hb.form;have:=bI hM.sb.wr.row
    rw[hM.lenB,e]at this;exact⟨ad,cp,this⟩
   have CC3:=aa (BA hv3);have CH3:=aa fun(q:World) (C1 C2:Nat) (hb:Below W2.drew.heap.size W2.drew q) (b1:q.heap[C1]?=some (.cells #[.int .i64 ((u2.b.ln.length:Nat):Int)] 3)) (b2:q.heap[C2]?=some (.cells #[.pointer (some ⟨B,61,none⟩)] 111))=>rk (show MW base B u2 q va2 vb2 by
    obtain⟨ca,cb,hM⟩:=hd3;exact⟨ca,cb,hM.below hb⟩) b1 b2
   have hmn3:min u2.b.ln.length u2.b.ln.length=u2.b.ln.length:=Nat.min_self _;rw[hmn3]at CH3;have hnw3:=(fH u2 _ (zD _)).2;clear hd3 hmn3;have HN3:Hid (∀y va' vb',MW base B (au aN u2.b.ln.length u2) y va' vb'->y.cell? ⟨B,62,none⟩=some (.int .i64 u2.now)):=aa fun y va' vb' ⟨_,_,hM⟩=>by rw[<- hnw3];exact hM.now.1
   generalize hu3:au aN u2.b.ln.length u2=u3 at CH3 hnw3 HN3;have HU3:=aa (And.intro hu3 hnw3);clear hu3 hnw3;generalize hln3:u2.b.ln.length=n3 at CC3 CH3 hv3;clear hln3;refine wp_region_held_drew (S:=fun z=>z.cell? ⟨B,62,none⟩=some (.int .i64 u2.now)) (by kernel_rfl) hS3 (fun hHeld=>?_);refine tq 0 1 2 3 ?_;refine tq 4 5 6 8 ?_;refine tt 9 10 ?_;refine t2 11 ?_;refine r3 7 fun K hK=>?_
   go_simp;refine CC3.out.mono ?_;rintro e q3⟨C1,C2,rfl,b1,b2,hb,_,_⟩;have HQ3:=aa (uh CH3 q3 C1 C2 hb b1 b2);have hSq:q3.cell? ⟨B,62,none⟩=some (.int .i64 u2.now):=(hb.cell (p:=⟨B,62,none⟩) (World.block_lt_of_cell? _ _ hS3)).trans hS3;have HB3:=aa hb;clear CC3 CH3 b1 b2 hb hv3;refine ro hK hSq fun _=>?_
   clear hK K;refine r3 12 fun K hK=>?_
   go_simp;refine HQ3.out.mono ?_;rintro e W3⟨rfl,va3,vb3,hm3,hf3⟩;have hSz:=uh HN3 _ _ _ hm3;have HM3:=aa (And.intro hm3 (HM2.out.2.trans ((FW.of_below ((zC W2.heap.size W2).drew.trans HB3.out)).trans hf3)));clear hm3 hf3 HQ3 HB3 HM2 hS3 hSq HN3 hHeld;refine ro hK hSz fun _=>?_
   clear hK K hSz;refine dn ?_ _;have hg3:cT mi=z_ u3:=by
    rw[<- HU3.out.1,<- HU2.out.1];rfl
   rw[hg3]at HST;have CG:=aa (tL HM3.out.1 (by rw[HU3.out.2,HU2.out.2];exact hn0) (by rw[HU3.out.2,HU2.out.2];exact hn1));clear hg3 HU2 HU3;go_wp2_with fail
   refine CG.out.mono ?_;rintro e W4⟨rfl,va4,vb4,hm4,hf4⟩;have HM4:=aa (And.intro hm4 (HM3.out.2.trans hf4));clear hm4 hf4 HM3 CG;go_wp2_with fail
   go_roundw
   case rel=>exact⟨i+1,va4,vb4,by omega,by go_num,by rw[uh HST];exact HM4.out.1,HM4.out.2⟩
   case measure=>simp[intOf];omega
  .have e:i=100:=by omega
   subst e;have HM:=aa (And.intro hM hf);clear hM hf H0;go_wp2_with fail
   refine zI ?_;exact⟨rfl,va',vb',uh HM⟩
end Go.Proofs.YtjdgiimfpkideaaGreatDoor
