/- MtN MtO -/
import Derived.Test.YtjdgiimfpkideaaGreatDoorS40
import Derived.Test.YtjdgiimfpkideaaGreatDoorS41
set_option maxHeartbeats 8000000
set_option maxRecDepth 100000
namespace Go.Proofs.YtjdgiimfpkideaaGreatDoor
open Go.RowKit Go.Proofs.Tryz
theorem zd (m:Mw):au aI (min 1 m.a.ln.length) m=aI m:=by
 cases e:m.a.ln with
 | nil =>
  show m=_
  unfold aI;rw [e]
 | cons p r =>
  rw [show min 1 (p :: r).length=1 by simp];rfl
theorem vk {base:Nat} {W:World} {B:Nat} {m:Mw} {va vb:Value} (h:MW base B m W va vb) :
  Calls prog 40 #[.pointer (some ⟨B,0,none⟩)] W fun e W'=>e=.returned (.tuple #[])∧∃ va' vb',MW base B (aI m) W' va' vb'∧FW B va vb va' vb' W W':=by
 have HN:Hid (∀ y va' vb' m',MW base B m' y va' vb'→y.cell? ⟨B,62,none⟩=some (.int .i64 m'.now)):=aa fun y va' vb' m' ⟨_,_,hM⟩=>hM.now.1
 have hd:MW base B m W.drew va vb:=by
  obtain ⟨ca,cb,hM⟩:=h;exact ⟨ca,cb,hM.below (zC _ _).drew⟩
 have CC:=aa (ri B 30 1 W.drew);have CH:=aa fun (q:World) (C1 C2:Nat) (hb:Below W.drew.heap.size W.drew q) (b1:q.heap[C1]?=some (.cells #[.int .i64 ((1:Nat):Int)] 3)) (b2:q.heap[C2]?=some (.cells #[.pointer (some ⟨B,30,none⟩)] 111))=>rj (show MW base B m q va vb by
  obtain ⟨ca,cb,hM⟩:=hd;exact ⟨ca,cb,hM.below hb⟩) b1 b2
 rw [zd] at CH;have HD:=aa hd;have hnw:(aI m).now=m.now:=by
  unfold aI;cases m.a.ln<;>rfl
 have hS0:=uh HN _ _ _ _ hd;clear hd h;go_enter func40,ntmps40
 go_upto_region 0 with fail
 refine wp_region_held_drew (S:=fun z=>z.cell? ⟨B,62,none⟩=some (.int .i64 m.now)) (by kernel_rfl) hS0 (fun hHeld=>?_);refine tq 0 1 2 3 ?_;refine tq 4 5 6 8 ?_;refine tt 9 10 ?_;refine t2 11 ?_;refine r3 7 fun K hK=>?_
 have CC':Calls prog 64 #[.pointer (some ⟨B,30,none⟩),.int .i64 1] W.drew fun e W'=>yg B 30 1 W.drew e W':=uh CC
 go_simp;refine CC'.mono ?_;rintro e q ⟨C1,C2,rfl,b1,b2,hb,_,_⟩;have HQ:=aa (uh CH q C1 C2 hb b1 b2);have hS1:q.cell? ⟨B,62,none⟩=some (.int .i64 m.now):=(hb.cell (p:=⟨B,62,none⟩) (World.block_lt_of_cell? _ _ hS0)).trans hS0;have HB:=aa hb;clear CC CC' CH b1 b2 hb HD;refine ro hK hS1 fun _=>?_
 clear hK K;refine r3 12 fun K hK=>?_
 go_simp;refine (uh HQ).mono ?_;rintro e W' ⟨rfl,va',vb',hm,hf⟩;have hS2:=uh HN _ _ _ _ hm;rw [hnw] at hS2;have HF:=aa (zA hm hf);clear hm hf HQ;refine ro hK hS2 fun _=>?_
 clear hK K;refine dn ?_ _;go_wp2
 refine zI ?_;exact ⟨rfl,va',vb',(uh HF).1,(FW.of_below ((zC W.heap.size W).drew.trans (uh HB))).trans (uh HF).2⟩
theorem ze (m:Mw):au aN (min 1 m.b.ln.length) m=aN m:=by
 cases e:m.b.ln with
 | nil =>
  show m=_
  unfold aN;rw [e]
 | cons p r =>
  rw [show min 1 (p :: r).length=1 by simp];rfl
theorem vl {base:Nat} {W:World} {B:Nat} {m:Mw} {va vb:Value} (h:MW base B m W va vb) :
  Calls prog 43 #[.pointer (some ⟨B,0,none⟩)] W fun e W'=>e=.returned (.tuple #[])∧∃ va' vb',MW base B (aN m) W' va' vb'∧FW B va vb va' vb' W W':=by
 have HN:Hid (∀ y va' vb' m',MW base B m' y va' vb'→y.cell? ⟨B,62,none⟩=some (.int .i64 m'.now)):=aa fun y va' vb' m' ⟨_,_,hM⟩=>hM.now.1
 have hd:MW base B m W.drew va vb:=by
  obtain ⟨ca,cb,hM⟩:=h;exact ⟨ca,cb,hM.below (zC _ _).drew⟩
 have CC:=aa (ri B 61 1 W.drew);have CH:=aa fun (q:World) (C1 C2:Nat) (hb:Below W.drew.heap.size W.drew q) (b1:q.heap[C1]?=some (.cells #[.int .i64 ((1:Nat):Int)] 3)) (b2:q.heap[C2]?=some (.cells #[.pointer (some ⟨B,61,none⟩)] 111))=>rk (show MW base B m q va vb by
  obtain ⟨ca,cb,hM⟩:=hd;exact ⟨ca,cb,hM.below hb⟩) b1 b2
 rw [ze] at CH;have HD:=aa hd;have hnw:(aN m).now=m.now:=by
  unfold aN;cases m.b.ln<;>rfl
 have hS0:=uh HN _ _ _ _ hd;clear hd h;go_enter func43,ntmps43
 go_upto_region 0 with fail
 refine wp_region_held_drew (S:=fun z=>z.cell? ⟨B,62,none⟩=some (.int .i64 m.now)) (by kernel_rfl) hS0 (fun hHeld=>?_);refine tq 0 1 2 3 ?_;refine tq 4 5 6 8 ?_;refine tt 9 10 ?_;refine t2 11 ?_;refine r3 7 fun K hK=>?_
 have CC':Calls prog 64 #[.pointer (some ⟨B,61,none⟩),.int .i64 1] W.drew fun e W'=>yg B 61 1 W.drew e W':=uh CC
 go_simp;refine CC'.mono ?_;rintro e q ⟨C1,C2,rfl,b1,b2,hb,_,_⟩;have HQ:=aa (uh CH q C1 C2 hb b1 b2);have hS1:q.cell? ⟨B,62,none⟩=some (.int .i64 m.now):=(hb.cell (p:=⟨B,62,none⟩) (World.block_lt_of_cell? _ _ hS0)).trans hS0;have HB:=aa hb;clear CC CC' CH b1 b2 hb HD;refine ro hK hS1 fun _=>?_
 clear hK K;refine r3 12 fun K hK=>?_
 go_simp;refine (uh HQ).mono ?_;rintro e W' ⟨rfl,va',vb',hm,hf⟩;have hS2:=uh HN _ _ _ _ hm;rw [hnw] at hS2;have HF:=aa (zA hm hf);clear hm hf HQ;refine ro hK hS2 fun _=>?_
 clear hK K;refine dn ?_ _;go_wp2
 refine zI ?_;exact ⟨rfl,va',vb',(uh HF).1,(FW.of_below ((zC W.heap.size W).drew.trans (uh HB))).trans (uh HF).2⟩
theorem vm {base:Nat} {W:World} {B:Nat} {m:Mw} {va vb:Value} (h:MW base B m W va vb) (now:Int) :
  Calls prog 66 #[.pointer (some ⟨B,0,none⟩),.int .i64 now] W fun e W'=>e=.returned (.tuple #[])∧∃ va' vb',MW base B ⟨gd m.a now,m.b,m.now⟩ W' va' vb'∧FW B va vb va' vb' W W':=by
 obtain ⟨ca,cb,hM⟩:=h;refine (re hM.sa (by decide) hM.lo now).mono ?_;rintro e W' ⟨rfl,ca',v',hs,hf,hn⟩;exact ⟨rfl,v',vb,⟨ca',cb,hM.setA hs hf hn⟩,fun _=>Fw.a _ hf⟩
theorem vp {base:Nat} {W:World} {B:Nat} {m:Mw} {va vb:Value} (h:MW base B m W va vb) (now:Int) :
  Calls prog 66 #[.pointer (some ⟨B,31,none⟩),.int .i64 now] W fun e W'=>e=.returned (.tuple #[])∧∃ va' vb',MW base B ⟨m.a,gd m.b now,m.now⟩ W' va' vb'∧FW B va vb va' vb' W W':=by
 obtain ⟨ca,cb,hM⟩:=h;rw [← hM.lenA];refine (re hM.sb (by decide) hM.lo now).mono ?_;rintro e W' ⟨rfl,cb',v',hs,hf,hn⟩;exact ⟨rfl,va,v',⟨ca,cb',hM.setB hs hf hn⟩,fun _=>Fw.b _ hf⟩
theorem tL {base:Nat} {W:World} {B:Nat} {m:Mw} {va vb:Value} (h:MW base B m W va vb) (h0:0≤m.now) (h1:m.now≤1000000) :
  Calls prog 44 #[.pointer (some ⟨B,0,none⟩)] W fun e W'=>e=.returned (.tuple #[])∧∃ va' vb',MW base B (ng m) W' va' vb'∧FW B va vb va' vb' W W':=by
 have HN:Hid (∀ y va' vb' m',MW base B m' y va' vb'→y.cell? ⟨B,62,none⟩=some (.int .i64 m'.now)):=aa fun y va' vb' m' ⟨_,_,hM⟩=>hM.now.1
 have HDr:Hid (∀ y va' vb' m',MW base B m' y va' vb'→MW base B m' y.drew va' vb'):=aa fun y va' vb' m' ⟨ca,cb,hM⟩=>⟨ca,cb,hM.below (zC _ _).drew⟩
 have HT:Hid (MW base B ⟨m.a,m.b,m.now+1⟩ (W.setCell ⟨B,62,none⟩ (.int .i64 (m.now+1))) va vb∧FW B va vb va vb W (W.setCell ⟨B,62,none⟩ (.int .i64 (m.now+1)))):=aa (by
  obtain ⟨ca,cb,hM⟩:=h;exact ⟨⟨ca,cb,(hM.time (l:=0) (m.now+1)).1⟩,fun l=>(hM.time (l:=l) (m.now+1)).2⟩)
 obtain ⟨n0,n1⟩:W.cell? ⟨B,62,none⟩=some (.int .i64 m.now)∧W.frozen? ⟨B,62,none⟩=false:=by
  obtain ⟨ca,cb,hM⟩:=h;exact hM.now
 clear h;unfold ng;generalize m.now=t at *;generalize m.a=ma at *;generalize m.b=mb at *;go_enter func44,ntmps44
 go_upto_region 1 with fail
 clear n0 n1;generalize W.setCell ⟨B,62,none⟩ (.int .i64 (t+1))=W1 at HT ⊢;have hS0:=uh HN _ _ _ _ (uh HDr _ _ _ _ (uh HT).1);refine wp_region_held_drew (S:=fun z=>z.cell? ⟨B,62,none⟩=some (.int .i64 (t+1))) (by kernel_rfl) hS0 (fun hHeld=>?_);refine tq 0 1 2 3 ?_;refine tt 4 5 ?_;refine t2 6 ?_;refine r3 7 fun K hK=>?_
 go_simp;refine (vm (uh HDr _ _ _ _ (uh HT).1) (t+1)).mono ?_;rintro e W2 ⟨rfl,va2,vb2,hm2,hf2⟩;have HT2:=aa (zA hm2 ((uh HT).2.trans ((FW.of_below (zC _ _).drew).trans hf2)));clear hm2 hf2 HT hHeld hS0;refine ro hK (uh HN _ _ _ _ (uh HT2).1) fun _=>?_
 clear hK K;refine dn ?_ _;go_upto_region 2 with fail
 have hS0:=uh HN _ _ _ _ (uh HDr _ _ _ _ (uh HT2).1);refine wp_region_held_drew (S:=fun z=>z.cell? ⟨B,62,none⟩=some (.int .i64 (t+1))) (by kernel_rfl) hS0 (fun hHeld=>?_);refine tq 0 1 2 3 ?_;refine tt 4 5 ?_;refine t2 6 ?_;refine r3 7 fun K hK=>?_
 go_simp;refine (vp (uh HDr _ _ _ _ (uh HT2).1) (t+1)).mono ?_;rintro e W3 ⟨rfl,va3,vb3,hm3,hf3⟩;have HT3:=aa (zA hm3 ((uh HT2).2.trans ((FW.of_below (zC _ _).drew).trans hf3)));clear hm3 hf3 HT2 hHeld hS0;refine ro hK (uh HN _ _ _ _ (uh HT3).1) fun _=>?_
 clear hK K;refine dn ?_ _;go_wp2
 refine zI ?_;exact ⟨rfl,va3,vb3,uh HT3⟩
theorem vq {base:Nat} {W:World} {B:Nat} {m:Mw} {va vb:Value} (h:MW base B m W va vb) :
  Calls prog 41 #[.pointer (some ⟨B,30,none⟩)] W fun e W'=>e=.returned (.tuple #[])∧∃ va' vb',MW base B ⟨dN m.a m.a.ln.tail,m.b,m.now⟩ W' va' vb'∧FW B va vb va' vb' W W':=by
 obtain ⟨ca,cb,hM⟩:=h;have:=qW hM.sa.wr
 rw [show ([] ++ ca:List Value).length=30 from hM.ea.len] at this;refine this.mono ?_;rintro e W' ⟨rfl,v',hw,hf⟩;exact ⟨rfl,v',vb,⟨ca,cb,hM.setA (hM.sa.line hf hw) hf (Nb9.refl _ _)⟩,fun _=>Fw.a _ hf⟩
theorem vu {base:Nat} {W:World} {B:Nat} {m:Mw} {va vb:Value} (h:MW base B m W va vb) :
  Calls prog 41 #[.pointer (some ⟨B,61,none⟩)] W fun e W'=>e=.returned (.tuple #[])∧∃ va' vb',MW base B ⟨m.a,dN m.b m.b.ln.tail,m.now⟩ W' va' vb'∧FW B va vb va' vb' W W':=by
 obtain ⟨ca,cb,hM⟩:=h;have:=qW hM.sb.wr
 rw [hM.lenB] at this;refine this.mono ?_;rintro e W' ⟨rfl,v',hw,hf⟩;exact ⟨rfl,va,v',⟨ca,cb,hM.setB (hM.sb.line hf hw) hf (Nb9.refl _ _)⟩,fun _=>Fw.b _ hf⟩
theorem xU {base:Nat} {W:World} {B:Nat} {m:Mw} {va vb:Value} (h:MW base B m W va vb) :
  Calls prog 42 #[.pointer (some ⟨B,30,none⟩)] W fun e W'=>e=.returned (.tuple #[])∧∃ va' vb',MW base B ⟨dN m.a (ml m.a.ln),m.b,m.now⟩ W' va' vb'∧FW B va vb va' vb' W W':=by
 obtain ⟨ca,cb,hM⟩:=h;have:=ol hM.sa.wr
 rw [show ([] ++ ca:List Value).length=30 from hM.ea.len] at this;refine this.mono ?_;rintro e W' ⟨rfl,v',hw,hf⟩;exact ⟨rfl,v',vb,⟨ca,cb,hM.setA (hM.sa.line hf hw) hf (Nb9.refl _ _)⟩,fun _=>Fw.a _ hf⟩
theorem xV {base:Nat} {W:World} {B:Nat} {m:Mw} {va vb:Value} (h:MW base B m W va vb) :
  Calls prog 42 #[.pointer (some ⟨B,61,none⟩)] W fun e W'=>e=.returned (.tuple #[])∧∃ va' vb',MW base B ⟨m.a,dN m.b (ml m.b.ln),m.now⟩ W' va' vb'∧FW B va vb va' vb' W W':=by
 obtain ⟨ca,cb,hM⟩:=h;have:=ol hM.sb.wr
 rw [hM.lenB] at this;refine this.mono ?_;rintro e W' ⟨rfl,v',hw,hf⟩;exact ⟨rfl,va,v',⟨ca,cb,hM.setB (hM.sb.line hf hw) hf (Nb9.refl _ _)⟩,fun _=>Fw.b _ hf⟩
theorem zg {base:Nat} {W:World} {B:Nat} {m:Mw} {va vb:Value} (h:MW base B m W va vb) (_h0:0≤m.now) (_h1:m.now≤1000000) :
  Calls prog 40 #[.pointer (some ⟨B,0,none⟩)] W fun e W'=>e=.returned (.tuple #[])∧∃ va' vb',MW base B (fQ m 0) W' va' vb'∧FW B va vb va' vb' W W':=vk h
theorem zh {base:Nat} {W:World} {B:Nat} {m:Mw} {va vb:Value} (h:MW base B m W va vb) (_h0:0≤m.now) (_h1:m.now≤1000000) :
  Calls prog 41 #[.pointer (some ⟨B,30,none⟩)] W fun e W'=>e=.returned (.tuple #[])∧∃ va' vb',MW base B (fQ m 1) W' va' vb'∧FW B va vb va' vb' W W':=vq h
theorem zi {base:Nat} {W:World} {B:Nat} {m:Mw} {va vb:Value} (h:MW base B m W va vb) (_h0:0≤m.now) (_h1:m.now≤1000000) :
  Calls prog 42 #[.pointer (some ⟨B,30,none⟩)] W fun e W'=>e=.returned (.tuple #[])∧∃ va' vb',MW base B (fQ m 2) W' va' vb'∧FW B va vb va' vb' W W':=xU h
theorem zj {base:Nat} {W:World} {B:Nat} {m:Mw} {va vb:Value} (h:MW base B m W va vb) (_h0:0≤m.now) (_h1:m.now≤1000000) :
  Calls prog 43 #[.pointer (some ⟨B,0,none⟩)] W fun e W'=>e=.returned (.tuple #[])∧∃ va' vb',MW base B (fQ m 3) W' va' vb'∧FW B va vb va' vb' W W':=vl h
theorem zk {base:Nat} {W:World} {B:Nat} {m:Mw} {va vb:Value} (h:MW base B m W va vb) (_h0:0≤m.now) (_h1:m.now≤1000000) :
  Calls prog 41 #[.pointer (some ⟨B,61,none⟩)] W fun e W'=>e=.returned (.tuple #[])∧∃ va' vb',MW base B (fQ m 4) W' va' vb'∧FW B va vb va' vb' W W':=vu h
theorem zm {base:Nat} {W:World} {B:Nat} {m:Mw} {va vb:Value} (h:MW base B m W va vb) (_h0:0≤m.now) (_h1:m.now≤1000000) :
  Calls prog 42 #[.pointer (some ⟨B,61,none⟩)] W fun e W'=>e=.returned (.tuple #[])∧∃ va' vb',MW base B (fQ m 5) W' va' vb'∧FW B va vb va' vb' W W':=xV h
theorem zn {base:Nat} {W:World} {B:Nat} {m:Mw} {va vb:Value} (h:MW base B m W va vb) (h0:0≤m.now) (h1:m.now≤1000000) :
  Calls prog 44 #[.pointer (some ⟨B,0,none⟩)] W fun e W'=>e=.returned (.tuple #[])∧∃ va' vb',MW base B (fQ m 6) W' va' vb'∧FW B va vb va' vb' W W':=tL h h0 h1
theorem tj (m:Mw) (e:Int):m.now≤(fQ m e).now∧(fQ m e).now≤m.now+1:=by
 unfold fQ;repeat' split
 ·unfold aI;split<;>exact ⟨Int.le_refl _,by show m.now≤m.now+1;omega⟩
 ·exact ⟨Int.le_refl _,by dsimp only;omega⟩
 ·exact ⟨Int.le_refl _,by dsimp only;omega⟩
 ·unfold aN;split<;>exact ⟨Int.le_refl _,by show m.now≤m.now+1;omega⟩
 ·exact ⟨Int.le_refl _,by dsimp only;omega⟩
 ·exact ⟨Int.le_refl _,by dsimp only;omega⟩
 ·unfold ng;dsimp only;omega
 ·exact ⟨Int.le_refl _,by omega⟩
theorem gQ (L:List Int):∀ m:Mw,m.now≤(L.foldl fQ m).now∧(L.foldl fQ m).now≤m.now+L.length:=by
 induction L with
 | nil=>intro m;simp
 | cons e L ih =>
  intro m;have h1:=tj m e;have h2:=ih (fQ m e);simp only [List.foldl_cons,List.length_cons];omega
theorem Mt.keepT {base:Nat} {W W':World} {B:Nat} {m:Mw} {ca cb:List Value} {va vb va' vb':Value} (h:Mt base W B m ca va cb vb) (f:FW B va vb va' vb' W W') (g:Nat) (cur:Array Value) (T:TypeId) (t1:T≠66) (t2:T≠85) (hg:W.heap[g]?=some (.cells cur T)):W'.heap[g]?=some (.cells cur T):=by
 have hl:=(ge.1 hg).1;refine ((f W.heap.size).same g hl (fun e=>?_) (by omega) (fun e=>?_) (fun e=>?_)).trans hg
 ·rw [e,h.row] at hg;injection hg with hg;injection hg with _ hg;exact t1 hg.symm
 ·obtain ⟨_,_,_,c,h2⟩:=h.sa.wr.ownB g e;rw [hg] at h2;injection h2 with h2;injection h2 with _ h2;exact t2 h2
 ·obtain ⟨_,_,_,c,h2⟩:=h.sb.wr.ownB g e;rw [hg] at h2;injection h2 with h2;injection h2 with _ h2;exact t2 h2
theorem xW {base:Nat} {W:World} {B:Nat} {m:Mw} {va vb:Value} (h:MW base B m W va vb) (h0:0≤m.now) (h1:m.now≤1000) {x:Option Addr} {y:Nat} {L:List Int} (hL:HoldsI W (.slice x L.length y) L) (hl:L.length≤10000) :
  Calls prog 24 #[.pointer (some ⟨B,0,none⟩),.slice x L.length y] W fun e W'=>e=.returned (.tuple #[])∧∃ va' vb',MW base B (L.foldl fQ m) W' va' vb'∧FW B va vb va' vb' W W':=by
 obtain ⟨ca,cb,hM⟩:=h;obtain ⟨fs,hfs⟩:∃ fs:Array Value,#[.func (.func 40) #[.pointer (some ⟨B,0,none⟩)] #[],.func (.func 41) #[.pointer (some ⟨B,30,none⟩)] #[],.func (.func 42) #[.pointer (some ⟨B,30,none⟩)] #[],.func (.func 43) #[.pointer (some ⟨B,0,none⟩)] #[],.func (.func 41) #[.pointer (some ⟨B,61,none⟩)] #[],.func (.func 42) #[.pointer (some ⟨B,61,none⟩)] #[],.func (.func 44) #[.pointer (some ⟨B,0,none⟩)] #[]]=fs:=⟨_,rfl⟩;have hbW:Below W.heap.size W (W.alloc (.cells fs 86)).drew:=((zC W.heap.size W).alloc (zD _) _).drew;have hA0:(W.alloc (.cells fs 86)).drew.heap[W.heap.size]?=_:=zF W (.cells fs 86);have H0:Hid (Mt base (W.alloc (.cells fs 86)).drew B m ca va cb vb∧HoldsI (W.alloc (.cells fs 86)).drew (.slice x L.length y) L∧Below W.heap.size W (W.alloc (.cells fs 86)).drew∧(W.alloc (.cells fs 86)).drew.heap[W.heap.size]?=some (.cells fs 86)):=aa ⟨hM.below hbW,hL.below hbW rfl,hbW,hA0⟩;have HFS:=aa hfs;clear hfs;clear hM hL hbW hA0;have CW:=fun (e:Int) (w:World)=>cE e 0 6 w
 generalize hn:L.length=n at *;go_enter func24,ntmps24
 go_upto_region 0 with fail
 refine wp_region_held_drew (S:=fun _=>True) (by kernel_rfl) trivial (fun hHeld=>?_);refine tq 0 1 2 3 ?_;refine tq 4 5 6 7 ?_;refine tq 8 9 10 11 ?_;refine tq 12 13 14 15 ?_;refine tq 16 17 18 19 ?_;refine tq 20 21 22 23 ?_;refine tt 24 25 ?_;refine t2 26 ?_;refine r3 27 fun K hK=>?_
 go_simp;refine ro hK trivial fun _=>?_
 clear hK K;refine r3 28 fun K hK=>?_
 go_simp;refine ro hK trivial fun _=>?_
 clear hK K;refine dn ?_ _;rw [uh HFS];generalize (W.alloc (.cells fs 86)).drew=W1 at H0 ⊢;rw [← uh HFS] at H0;clear HFS;generalize hA9:W.heap.size=A at H0 ⊢;go_wp2_with fail
 go_loopw [36] (fun p wr=>∃ (i:Nat) (va' vb':Value),i≤n∧p=.int .i64 i∧MW base B ((L.take i).foldl fQ m) wr va' vb'∧FW B va vb va' vb' W1 wr) (fun p _=>n - (intOf p).toNat)
 case atStart=>exact ⟨0,va,vb,Nat.zero_le _,rfl,⟨ca,cb,(uh H0).1⟩,fun _=>Fw.refl _ _ _ _ _⟩
 case round =>
  obtain ⟨i,va',vb',hi,rfl,hM,hf⟩:=hrel;by_cases hlt:i<n
  ·have d1:(i:Int)<(n:Int):=by omega
   have hiL:i<L.length:=by omega
   have HST:Hid ((L.take (i+1)).foldl fQ m=fQ ((L.take i).foldl fQ m) L[i]):=aa (by
    rw [← List.take_append_getElem hiL,List.foldl_append];rfl)
   have hnw:=gQ (L.take i) m;have hli:(L.take i).length=i:=by rw [List.length_take];omega
   rw [hli] at hnw;have hn0:0≤((L.take i).foldl fQ m).now:=by omega
   have hn1:((L.take i).foldl fQ m).now≤1000000:=by omega
   have hA:=(uh H0).1.keepT hf A _ _ (by decide) (by decide) (uh H0).2.2.2;obtain ⟨g,ex,hgc⟩:∃ g,x=some ⟨g,0,none⟩∧wr.cell? ⟨g,i,none⟩=some (.int .i64 L[i]):=by
    rcases (uh H0).2.1 with ⟨ad,cp,e,e2⟩ | ⟨g,cp,cur,e,q1,_,q3⟩
    ·rw [e2] at hn;simp at hn;omega
    ·injection e with e _ _;refine ⟨g,e,?_⟩;rw [cr ((uh H0).1.keepT hf g _ _ (by decide) (by decide) q1),q3 i (by omega)];exact dB _ _ _ (List.getElem?_eq_getElem hiL)
   subst ex;generalize L[i]=e at *;have HFW:=aa hf;replace CW:=aa (CW e);generalize (L.take i).foldl fQ m=mi at *;have he:(e=0∨e=1∨e=2∨e=3∨e=4∨e=5∨e=6)∨al 0 6 e=false:=by
    by_cases h:0≤e∧e≤6
    ·left;omega
    ·right;unfold al;simp;omega
   clear hnw hli hlt;rcases he with (rfl | rfl | rfl | rfl | rfl | rfl | rfl) | hwi
   ·have cx:wr.cell? ⟨A,0,none⟩=some (.func (.func 40) #[.pointer (some ⟨B,0,none⟩)] #[]):=by rw [cr hA];rfl
    have CE:=aa (zg hM hn0 hn1);have hwi:al 0 6 (0:Int)=true:=by decide
    rw [hwi] at CW;clear hM hf hA hn0 hn1;go_wp2_with (refine (uh CW wr).mono ?_;rintro e w1 ⟨rfl,rfl⟩)
    refine (uh CE).mono ?_;rintro e W' ⟨rfl,va2,vb2,hm2,hf2⟩;have HF2:=aa (zA hm2 hf2);clear hm2 hf2 CE;go_wp2_with fail
    go_roundw
    case rel=>exact ⟨i+1,va2,vb2,by omega,by go_num,by rw [uh HST];exact (uh HF2).1,(uh HFW).trans (uh HF2).2⟩
    case measure=>simp [intOf];omega
   ·have cx:wr.cell? ⟨A,1,none⟩=some (.func (.func 41) #[.pointer (some ⟨B,30,none⟩)] #[]):=by rw [cr hA];rfl
    have CE:=aa (zh hM hn0 hn1);have hwi:al 0 6 (1:Int)=true:=by decide
    rw [hwi] at CW;clear hM hf hA hn0 hn1;go_wp2_with (refine (uh CW wr).mono ?_;rintro e w1 ⟨rfl,rfl⟩)
    refine (uh CE).mono ?_;rintro e W' ⟨rfl,va2,vb2,hm2,hf2⟩;have HF2:=aa (zA hm2 hf2);clear hm2 hf2 CE;go_wp2_with fail
    go_roundw
    case rel=>exact ⟨i+1,va2,vb2,by omega,by go_num,by rw [uh HST];exact (uh HF2).1,(uh HFW).trans (uh HF2).2⟩
    case measure=>simp [intOf];omega
   ·have cx:wr.cell? ⟨A,2,none⟩=some (.func (.func 42) #[.pointer (some ⟨B,30,none⟩)] #[]):=by rw [cr hA];rfl
    have CE:=aa (zi hM hn0 hn1);have hwi:al 0 6 (2:Int)=true:=by decide
    rw [hwi] at CW;clear hM hf hA hn0 hn1;go_wp2_with (refine (uh CW wr).mono ?_;rintro e w1 ⟨rfl,rfl⟩)
    refine (uh CE).mono ?_;rintro e W' ⟨rfl,va2,vb2,hm2,hf2⟩;have HF2:=aa (zA hm2 hf2);clear hm2 hf2 CE;go_wp2_with fail
    go_roundw
    case rel=>exact ⟨i+1,va2,vb2,by omega,by go_num,by rw [uh HST];exact (uh HF2).1,(uh HFW).trans (uh HF2).2⟩
    case measure=>simp [intOf];omega
   ·have cx:wr.cell? ⟨A,3,none⟩=some (.func (.func 43) #[.pointer (some ⟨B,0,none⟩)] #[]):=by rw [cr hA];rfl
    have CE:=aa (zj hM hn0 hn1);have hwi:al 0 6 (3:Int)=true:=by decide
    rw [hwi] at CW;clear hM hf hA hn0 hn1;go_wp2_with (refine (uh CW wr).mono ?_;rintro e w1 ⟨rfl,rfl⟩)
    refine (uh CE).mono ?_;rintro e W' ⟨rfl,va2,vb2,hm2,hf2⟩;have HF2:=aa (zA hm2 hf2);clear hm2 hf2 CE;go_wp2_with fail
    go_roundw
    case rel=>exact ⟨i+1,va2,vb2,by omega,by go_num,by rw [uh HST];exact (uh HF2).1,(uh HFW).trans (uh HF2).2⟩
    case measure=>simp [intOf];omega
   ·have cx:wr.cell? ⟨A,4,none⟩=some (.func (.func 41) #[.pointer (some ⟨B,61,none⟩)] #[]):=by rw [cr hA];rfl
    have CE:=aa (zk hM hn0 hn1);have hwi:al 0 6 (4:Int)=true:=by decide
    rw [hwi] at CW;clear hM hf hA hn0 hn1;go_wp2_with (refine (uh CW wr).mono ?_;rintro e w1 ⟨rfl,rfl⟩)
    refine (uh CE).mono ?_;rintro e W' ⟨rfl,va2,vb2,hm2,hf2⟩;have HF2:=aa (zA hm2 hf2);clear hm2 hf2 CE;go_wp2_with fail
    go_roundw
    case rel=>exact ⟨i+1,va2,vb2,by omega,by go_num,by rw [uh HST];exact (uh HF2).1,(uh HFW).trans (uh HF2).2⟩
    case measure=>simp [intOf];omega
   ·have cx:wr.cell? ⟨A,5,none⟩=some (.func (.func 42) #[.pointer (some ⟨B,61,none⟩)] #[]):=by rw [cr hA];rfl
    have CE:=aa (zm hM hn0 hn1);have hwi:al 0 6 (5:Int)=true:=by decide
    rw [hwi] at CW;clear hM hf hA hn0 hn1;go_wp2_with (refine (uh CW wr).mono ?_;rintro e w1 ⟨rfl,rfl⟩)
    refine (uh CE).mono ?_;rintro e W' ⟨rfl,va2,vb2,hm2,hf2⟩;have HF2:=aa (zA hm2 hf2);clear hm2 hf2 CE;go_wp2_with fail
    go_roundw
    case rel=>exact ⟨i+1,va2,vb2,by omega,by go_num,by rw [uh HST];exact (uh HF2).1,(uh HFW).trans (uh HF2).2⟩
    case measure=>simp [intOf];omega
   ·have cx:wr.cell? ⟨A,6,none⟩=some (.func (.func 44) #[.pointer (some ⟨B,0,none⟩)] #[]):=by rw [cr hA];rfl
    have CE:=aa (zn hM hn0 hn1);have hwi:al 0 6 (6:Int)=true:=by decide
    rw [hwi] at CW;clear hM hf hA hn0 hn1;go_wp2_with (refine (uh CW wr).mono ?_;rintro e w1 ⟨rfl,rfl⟩)
    refine (uh CE).mono ?_;rintro e W' ⟨rfl,va2,vb2,hm2,hf2⟩;have HF2:=aa (zA hm2 hf2);clear hm2 hf2 CE;go_wp2_with fail
    go_roundw
    case rel=>exact ⟨i+1,va2,vb2,by omega,by go_num,by rw [uh HST];exact (uh HF2).1,(uh HFW).trans (uh HF2).2⟩
    case measure=>simp [intOf];omega
   ·rw [hwi] at CW;have HMi:=aa hM;clear hM hf hA hn0 hn1;have hev:fQ mi e=mi:=by
     unfold al at hwi;unfold fQ;simp at hwi;rw [if_neg (by omega),if_neg (by omega),if_neg (by omega),if_neg (by omega),if_neg (by omega),if_neg (by omega),if_neg (by omega)]
    rw [hev] at HST;clear hev hwi;go_wp2_with (refine (uh CW wr).mono ?_;rintro e w1 ⟨rfl,rfl⟩)
    go_roundw
    case rel=>exact ⟨i+1,va',vb',by omega,by go_num,by rw [uh HST];exact uh HMi,uh HFW⟩
    case measure=>simp [intOf];omega
  ·have e:i=n:=by omega
   subst e;have d1:¬ ((i:Int)<(i:Int)):=by omega
   rw [show L.take i=L by rw [← hn];exact List.take_length] at hM;have HM:=aa (zA hM hf);clear hM hf;go_wp2_with fail
   refine zI ?_;rw [← hA9] at H0;exact ⟨rfl,va',vb',(uh HM).1,(FW.of_below (uh H0).2.2.1).trans (uh HM).2⟩
end Go.Proofs.YtjdgiimfpkideaaGreatDoor
