/- HrV -/
import Derived.Test.YtjdgiimfpkideaaGreatDoorS29
set_option maxHeartbeats 16000000
set_option maxRecDepth 100000
set_option linter.unusedSimpArgs false
namespace Go.Proofs.YtjdgiimfpkideaaGreatDoor
open Go.RowKit Go.Proofs.Tryz
variable {z0 z z':World} {N:Nat} {nv:Value} {K:List Op.Opt}
structure Nk(z0:World)(N:Nat)(nv:Value)(K:List Op.Opt)(z:World):Prop where
 b:Below z0 z0 z
 n:z.heap[N]?=some (.cells #[(4:Int),nv] 97)
 o:z.ownsRow z0 105 2 nv K.length (aj K)
 m:z0.heap.size<=N
theorem Nk.step(h:Nk z0 N nv K z)(hb:Below z z z'):Nk z0 N nv K z' :=
 ⟨h.b.trans (hb.mono h.b.size),(hb.block _ (ge.1 h.n).1).trans h.n,aP h.o hb,h.m⟩
theorem Nk.grow{v':Value}{K':List Op.Opt}(h:Nk z0 N nv K z)(hg:z.grownBy z' nv.ownBlock)(ho:z'.ownsRow z0 105 2 v' K'.length (aj K')):z'.heap[N]?=some (.cells #[(4:Int),nv] 97)/\Below z0 z0 z'/\Nk z0 N v' K' (z'.setCell (N,1) v'):=by
 have hn:=aq h.o h.n (by decide);have h1:z'.heap[N]?=some (.cells #[(4:Int),nv] 97):=(hg.block N (ge.1 h.n).1 (fun e=>hn e.symm)).trans h.n;have h2:=h.b.grown hg h.b.size (fun m hm=>(World.ownsRow.lt h.o m hm).1);refine⟨h1,h2,h2.setCell (p:=(N,1)) h.m _,zH _ _ 1 _ _ _ h1,bZ ho fun g hg=>heap_setCell_other _ _ _ _ fun e=>aq ho h1 (by decide) ((show g=N from e)▸hg),h.m⟩
theorem zU{ops:Array Oper}{o:Oper}{a:Act}{K:Act->World->Prop}{Q:Exit->Act->World->Prop}{E:Prop}(W:World)(hgd:o.guard=none)(s x:Operand)(ho:o.op=.call {callee:=.builtin .append,args:=#[s,x],argTypes:=#[28,28]})(base:Nat)(v sv:Value)(P F:List Op.Opt)(hs:a.eval s=v)(hx:a.eval x=sv)(hv:W.ownsRow base 105 2 v P.length (aj P))(hsv:HoldsO W sv F)(hP:P.length<=1048576)(hF:F.length<=1048576)(hbase:base<=W.heap.size)(h:∀v' w',w'.ownsRow base 105 2 v' (P++F).length (aj (P++F))->W.grownBy w' v.ownBlock->K (a.put o.dst v') w'):if Region.wanted o (yielded ops a.tmps)=true then Oper.wp prog o a W K Q else E:=by
 have hw:Region.wanted o (yielded ops a.tmps)=true:=by simp[Region.wanted,hgd]
 rw[if_pos hw];obtain⟨v',w',hr,h2,h3⟩:=fZ (W:=W) o.type hv hsv hP hF hbase;unfold Oper.wp execOp;simp only[ho,resolve,invoke,builtin,Sem.run_bind,Sem.run_pure,Result.andThen_ok,List.map_toArray,List.map_cons,List.map_nil,hs,hx,hr];exact h v' w' h2 h3
def gM(L R:List Op.Opt)(i k:Nat):List Op.Opt:=lE (L.take i) R++match L[i]? with
 | none=>[]
 | some o=>((R.take k).filter fun x=>x.kind==o.kind).map fun _=>o
theorem jA(L R:List Op.Opt)(i:Nat)(hi:i<L.length)(k:Nat)(hk:k<R.length):gM L R i (k+1)=gM L R i k++(if R[k].kind=L[i].kind then[L[i]]else[]):=by
 unfold gM;rw[List.getElem?_eq_getElem hi];dsimp only;rw[List.take_succ_eq_append_getElem hk,List.filter_append,List.map_append,<- List.append_assoc];congr 1
 by_cases e:R[k].kind=L[i].kind
 .rw [if_pos e,List.filter_cons,if_pos (by simpa using e)];rfl
 .rw [if_neg e,List.filter_cons,if_neg (by simpa using e)];rfl
theorem qR(L R:List Op.Opt)(i:Nat)(hi:i<L.length):gM L R i R.length=gM L R (i+1) 0:=by
 have e0:gM L R (i+1) 0=lE (L.take (i+1)) R:=by
  unfold gM;cases L[i+1]?<;>simp
 rw[e0];unfold gM;rw[List.getElem?_eq_getElem hi,List.take_length,List.take_succ_eq_append_getElem hi];unfold lE;rw[List.flatMap_append];simp
theorem oP(L R:List Op.Opt):gM L R 0 0=[]:=by
 unfold gM lE;cases L[0]?<;>simp
theorem D_(L R:List Op.Opt):gM L R L.length 0=lE L R:=by
 unfold gM;rw[List.getElem?_eq_none (zD _),List.take_length,List.append_nil]
theorem qS{w0 w1:World}{B:Nat}{now:Int}{p:Op.Pk}{e:En}{F1 F2:List Op.Opt}{v1 v2:Value}{q:World}(h:Lay 99 w0 w1 B (aU now p [] (0,[]) ai ai) ⟨e,F1,F2,[],[]⟩ v1 v2 ai ai q)(hf:Fit 0 (bY now) ⟨e,F1,F2,[],[]⟩)(hp:Op.pok p=true)(hst:0<=e.st/\e.st<=9)(hc:p.code=1):Calls prog 75 #[(B,0)] q fun r q'=>EvA w0 (aB now p e F1 F2) r q':=by
 have hs:p.data.size<=250:=by
  have:=hp
  unfold Op.pok at this;exact(of_decide_eq_true this).2.2.2.2
 have CO:=aa fun z=>qP p.data z hs
 have hr:=dd p.data;have hX0:=zF q (.cells k_ 74);have hL0:=h.step ((zC q q).alloc (zD _) (.cells k_ 74));have hXw:w0.heap.size<=q.heap.size:=h.low.size;have hXB:q.heap.size≠B:=Nat.ne_of_gt h.lt;have HST:=aa hst;have H0:=aa (zA hL0 hX0);clear h hX0 hL0 hst;go_enter func75,ntmps75
 go_upto_region 1 with fail
 refine bb (fun z=>Lay 99 w0 w1 B (aU now p [] (0,[]) ai ai) ⟨e,F1,F2,[],[]⟩ v1 v2 ai ai z/\z.heap[q.heap.size]?=some (.cells k_ 74)) H0.out ?_;clear H0;generalize q.heap.size=X at*;intro z1 hz1;have E1:=aa hz1;have c33:z1.cell? (B,33)=some (.string p.data):=hz1.1.cell (i:=33) rfl;clear hz1;go_wp2_with fail
 refine(uh CO _).mono ?_;rintro r z3⟨ad,n,cp,rfl,hyes,hb3⟩;by_cases h0:(ar p.data).2=0
 .obtain ⟨hn,ho⟩:=hyes h0;subst hn;have hL20:=Op.right_len hr;have hm:(ar p.data).1.length<=maxLen:=by unfold maxLen;omega
  have CR:Hid (∀z v,HoldsO z v (ar p.data).1->Calls prog 109 #[.agg #[e.m1,e.a1,e.g2,e.p1,e.c1,e.d1],v] z fun r w'=>∃ad cp,r=.returned (.agg #[.int .i64 (ck e.m1 e.a1 e.g2 e.p1 e.c1 e.d1 (ar p.data).1).1,.slice ad (ck e.m1 e.a1 e.g2 e.p1 e.c1 e.d1 (ar p.data).1).2.length cp])/\w'.ownsRow z 105 2 (.slice ad (ck e.m1 e.a1 e.g2 e.p1 e.c1 e.d1 (ar p.data).1).2.length cp) (ck e.m1 e.a1 e.g2 e.p1 e.c1 e.d1 (ar p.data).1).2.length (aj (ck e.m1 e.a1 e.g2 e.p1 e.c1 e.d1 (ar p.data).1).2)/\Below z z w'):=aa fun z v hv=>mZ e.m1 e.a1 e.g2 e.p1 e.c1 e.d1 (ar p.data).1 v z hm hv
  have hR20:=lM e.m1 e.a1 e.g2 e.p1 e.c1 e.d1 (ar p.data).1;have hAN:=B4 e (ar p.data).1;have HFX:=aa fun vh va=>hf.came p hp (eS hs) (kB e (eS hs)) vh va
  have HH:Hid (aB now p e F1 F2=bj (aU now p (ar p.data).1 (dI e (ar p.data).1) ai ai) ⟨e,F1,F2,[],[]⟩ (im (if(dI e (ar p.data).1).1=2 then 6 else 7))):=aa (by unfold aB;rw[if_pos hc,if_pos h0]);have hd0:decide ((ar p.data).2=0)=true:=decide_eq_true h0;have E3:=aa (zA E1.out.1 (zA hb3 (zA ho ((hb3.block _ (ge.1 E1.out.2).1).trans E1.out.2))));rw[hd0];clear hyes ho hb3 E1 c33 CO hd0 h0 hr hm hs hf hp hc;generalize (ar p.data).1=L at*;generalize ck e.m1 e.a1 e.g2 e.p1 e.c1 e.d1 L=RR at*;obtain⟨code,R⟩:=RR;dsimp only at CR hR20 hAN;generalize hAA:dI e L=AA at*;clear hAA;obtain⟨AC,AO⟩:=AA;dsimp only at HH HFX;have hL3:=E3.out.1.step E3.out.2.1;have hBz:B<z3.heap.size:=hL3.lt;have hXz:X<z3.heap.size:=(ge.1 E3.out.2.2.2).1;have hXB2:¬(B=X):=fun e=>hXB e.symm
  obtain⟨C,hC⟩ := ex z3.heap.size;have hCB:¬(C=B):=by omega
  have hCB2:¬(B=C):=by omega
  have k0:z3.cell? (B,0)=some (.int .i64 e.m1):=hL3.cell (i:=0) rfl;have k1:z3.cell? (B,1)=some (.int .i64 e.a1):=hL3.cell (i:=1) rfl;have k2:z3.cell? (B,2)=some (.int .i64 e.g1):=hL3.cell (i:=2) rfl;have k3:z3.cell? (B,3)=some (.bool e.p1):=hL3.cell (i:=3) rfl;have k4:z3.cell? (B,4)=some (.bool e.c1):=hL3.cell (i:=4) rfl;have k5:z3.cell? (B,5)=some (.bool e.d1):=hL3.cell (i:=5) rfl;clear hL3;go_upto_region 5 with fail
  refine bb (fun z=>(Below z1 z1 z/\z.ownsRow z1 105 2 (ad,L.length,cp) L.length (aj L)/\z.heap[X]?=some (.cells k_ 74))/\z.heap[C]?=some (.cells #[e.m1,e.a1,e.g1,e.p1,e.c1,e.d1] 24)) ?_ ?_
  .have hbA:=(zC z3 z3).alloc (zD _) (.cells #[e.m1,e.a1,e.g1,e.p1,e.c1,e.d1] 24);exact⟨⟨E3.out.2.1.trans (hbA.mono E3.out.2.1.size),aP E3.out.2.2.1 hbA,(hbA.block _ hXz).trans E3.out.2.2.2⟩,hC▸zF z3 _⟩
  intro z4 hz4;have E4:=aa (zA E3.out.1 hz4);have hL4:=E3.out.1.step hz4.1.1;have k8:z4.cell? (B,8)=some (.int .i64 e.g2):=hL4.cell (i:=8) rfl;have t2:z4.cell? (C,2)=some (.int .i64 e.g1):=by rw[cr hz4.2];rfl
  have ft2:=aX hz4.2 2;have hXC:X≠C:=by omega
  have hCz1:z1.heap.size<=C:=by rw[<- hC];exact E3.out.2.1.size
  clear hz4 hL4 E3 k0 k1 k2 k3 k4 k5 hC hBz hXz;go_upto_region 6 with fail
  refine bb (fun z=>(Below z1 z1 z/\z.ownsRow z1 105 2 (ad,L.length,cp) L.length (aj L)/\z.heap[X]?=some (.cells k_ 74))/\z.heap[C]?=some (.cells #[e.m1,e.a1,e.g2,e.p1,e.c1,e.d1] 24)) ?_ ?_
  .obtain ⟨_,⟨g1,g2,g3⟩,g4⟩:=uh E4;exact⟨⟨g1.setCell (p:=(C,2)) hCz1 _,bZ g2 fun g hg=>heap_setCell_other _ _ _ _ fun e=>aq g2 g4 (by decide) ((show g=C from e)▸hg),(zJ _ (C,2) _ _ hXC).trans g3⟩,zH _ _ 2 _ _ _ g4⟩
  intro z5 hz5;have E5:=aa (zA E4.out.1 hz5);have hL5:=E4.out.1.step hz5.1.1;have k34:=hL5.cell (i:=34) rfl;have f34:=hL5.frz 34;clear hz5 hL5 E4 k8 t2 ft2 hCz1;go_upto_region 7 with fail
  refine bb (fun z=>Lay 99 w0 w1 B (aU now p L (0,[]) (ad,L.length,cp) ai) ⟨e,F1,F2,[],[]⟩ v1 v2 ai ai z/\z.heap[X]?=some (.cells k_ 74)/\z.heap[C]?=some (.cells #[e.m1,e.a1,e.g2,e.p1,e.c1,e.d1] 24)) ?_ ?_
  .obtain ⟨g0,⟨g1,g2,g3⟩,g4⟩:=uh E5;exact⟨g0.had9 g1 _ L g2,(zJ _ (B,34) _ _ hXB).trans g3,(zJ _ (B,34) _ _ hCB).trans g4⟩
  intro z6 hz6;have E6:=aa hz6;clear hz6 E5 k34 f34;have hc6:=E6.out.2.2;have t0:z6.cell? (C,0)=some (.int .i64 e.m1):=cv hc6
  have t1:z6.cell? (C,1)=some (.int .i64 e.a1):=cv hc6
  have t2:z6.cell? (C,2)=some (.int .i64 e.g2):=cv hc6
  have t3:z6.cell? (C,3)=some (.bool e.p1):=cv hc6
  have t4:z6.cell? (C,4)=some (.bool e.c1):=cv hc6
  have t5:z6.cell? (C,5)=some (.bool e.d1):=cv hc6
  clear hc6;go_wp2_with fail
  refine(uh CR _ _ E6.out.1.hh).mono ?_;rintro r z7⟨ra,rc,rfl,ho7,hb7⟩;have E7:=aa (zA (E6.out.1.step hb7) (zA ((hb7.block _ (ge.1 E6.out.2.1).1).trans E6.out.2.1) (HoldsO.own ho7)));clear ho7 hb7 E6 CR t0 t1 t2 t3 t4 t5;have k35:=E7.out.1.cell (i:=35) rfl;have k36:=E7.out.1.cell (i:=36) rfl;have f35:=E7.out.1.frz 35;have f36:=E7.out.1.frz 36;go_upto_region 8 with fail
  refine bb (fun z=>Lay 99 w0 w1 B (aU now p L (code,R) (ad,L.length,cp) (ra,R.length,rc)) ⟨e,F1,F2,[],[]⟩ v1 v2 ai ai z/\z.heap[X]?=some (.cells k_ 74)) ?_ ?_
  .exact ⟨E7.out.1.ans9 code (ra,R.length,rc) R E7.out.2.2,(AJ hXB).trans E7.out.2.1⟩
  clear k35 k36 f35 f36 E7;intro z8 hz8;have E8:=aa hz8;have k35:z8.cell? (B,35)=some (.int .i64 code):=hz8.1.cell (i:=35) rfl;have k16:z8.cell? (B,16)=some (.int .i64 e.fl):=hz8.1.cell (i:=16) rfl;clear hz8;by_cases hcd:code=3/\e.fl=3
  .rw [if_pos hcd]at hAN;obtain⟨hcd1,hcd2⟩:=hcd;subst hcd1;rw[hcd2]at k16;injection hAN with hAC hAO;have HAO:=aa hAO;have HAC:=aa hAC;clear hAO hAC;go_upto_region 10 with fail
   refine bb (Nk z8 z8 () []) ?_ ?_
   .exact ⟨(zC _ _).alloc (zD _) _,zF z8 _,World.ownsRow_nil _ _ _ _,zD _⟩
   intro zz hzz;have E9:=aa hzz;have hNB:¬(z8.heap.size=B):=Nat.ne_of_gt E8.out.1.lt;generalize hz0:z8=z0 at*;clear hz0;generalize z0.heap.size=N at*;clear hzz k35 k16;go_wp2_with fail
   go_loopw [7] (fun x wr=>∃(i:Nat)(KL:List Op.Opt)(na:Option Addr)(nc:Nat),i<=L.length/\x=.int .i64 i/\KL=gM L R i 0/\KL.length<=20*i/\Nk z0 N (na,KL.length,nc) KL wr) (fun x _=>L.length-(intOf x).toNat)
   case atStart=>exact⟨0,[],none,0,Nat.zero_le _,rfl,(oP L R).symm,Nat.zero_le _,uh E9⟩
   case round =>
    obtain⟨i,KL,na,nc,hi,rfl,hK,hKl,hnk⟩:=hrel;have E10:=aa hnk;have HK0:=aa hK;clear hnk hK E9;by_cases hlt:i<L.length
    .have di:(i:Int)<(L.length:Int):=by omega
     obtain⟨G,⟨cp',hv⟩,hgl,_,_⟩:=HoldsO.at (show HoldsO z0 (ad,L.length,cp) L from E8.out.1.hh) i hlt;injection hv with hv hv2 hv3;subst hv;subst hv3;clear hv2;obtain⟨o,ho⟩ := ex (L[i]);have HO:=aa ho;clear ho;obtain⟨kd,dt⟩:=o;have SZ:Hid (∀y9:World,Below z0 z0 y9->(y9.cell? ⟨G,i*2,none⟩=some (.int .i64 kd)/\y9.cell? ⟨G,i*2+1,none⟩=some (dt:V))):=aa fun y9 hb=>by
      obtain⟨G',⟨cp',hv⟩,hgl',q0,q1⟩:=HoldsO.at (show HoldsO y9 (.slice (some (G,0)) L.length cp) L from E8.out.1.hh.below hb rfl) i hlt;injection hv with hv _ _;cases hv;rw[uh HO]at q0 q1;exact⟨q0,q1⟩
     have SB:Hid (∀y9:World,Below z0 z0 y9->y9.cell? (B,36)=some ((ra,R.length,rc):V)):=aa fun y9 hb=>(E8.out.1.step hb).cell (i:=36) rfl
     have SR:Hid (∀k (hk:k<R.length),∃g,ra=some ⟨g,0,none⟩/\∀y9:World,Below z0.heap.size z0 y9->y9.cell? ⟨g,k*2,none⟩=some (.int .i64 R[k].kind)):=aa fun k hk=>by
      obtain⟨g,⟨cp',hv⟩,_,_⟩:=HoldsO.at (show HoldsO z0 (ra,R.length,rc) R from E8.out.1.ha) k hk;injection hv with hv _ _;refine⟨g,hv,fun y9 hb=>?_⟩;obtain⟨g',⟨cp'',hv'⟩,_,q0,_⟩:=HoldsO.at (show HoldsO y9 (ra,R.length,rc) R from E8.out.1.ha.below hb rfl) k hk;injection hv' with hv' _ _;rw[hv]at hv';cases hv';exact q0
     go_wp2_with fail
     go_loopw [8] (fun x wr=>∃(k:Nat),k<=R.length/\x=.int .i64 k/\∃(KL:List Op.Opt)(na:Option Addr)(nc:Nat),KL=gM L R i k/\KL.length<=20*i+k/\Nk z0 N (na,KL.length,nc) KL wr) (fun x _=>R.length-(intOf x).toNat)
     case atStart=>exact⟨0,Nat.zero_le _,rfl,KL,na,nc,uh HK0,by omega,uh E10⟩
     case round =>
      obtain⟨k,hk,rfl,KL,na,nc,hK,hKl,hnk⟩:=hrel;have E9:=aa hnk;have HK:=aa hK;clear hnk hK E10 HK0;have k36:=uh SB _ E9.out.b;by_cases hkR:k<R.length
      .have dk:(k:Int)<(R.length:Int):=by omega
       obtain⟨RG,era,hra⟩:=uh SR k hkR;subst era;have r0:=hra _ E9.out.b;obtain⟨q0,q1⟩:=uh SZ _ E9.out.b;have HQK:Hid (∀b:Bool,(R[k].kind==kd)=b->(R[k].kind==kd)=b):=aa fun _ h=>h
       clear hra HQK;by_cases hq:R[k].kind=kd
       .have HQ:Hid (R[k].kind=L[i].kind):=aa (by rw[hq,uh HO]);rw[hq]at r0;clear hq;go_upto_region 16 with fail
        go_quiet (fail)
        have E11:=aa (E9.out.step (aH (zC _ _) nq));generalize wr.drewN nq=y1 at*;clear E9 k36 r0 q0 q1;go_upto_region 17 with fail
        have E9:=aa (E11.out.step (zC _ _).drew);refine wp_region_held_drew (S:=fun y9=>y9.cell? ⟨G,i*2,none⟩=some (.int .i64 kd)/\y9.cell? ⟨G,i*2+1,none⟩=some (dt:V)) (by kernel_rfl) (uh SZ _ E9.out.b) (fun hHeld=>?_);generalize y1.drew=yy at E9 hHeld|-;clear E11;refine tq 0 2 3 4 ?_;refine t2 5 ?_;refine r4 1 6 (fun K hK=>?_) (fun K hK=>?_)
        .have n1:=(vg E9.out.n).2;go_simp;clear n1;refine ro hK (uh SZ _ E9.out.b) fun _=>?_
         clear hK K;refine r3 6 fun K hK=>?_
         have hb62:Below yy yy (yy.alloc (.cells #[kd,dt] 105)):=(zC _ _).alloc (zD _) _;have E62:=aa (E9.out.step hb62);have M62:Hid (HoldsO (yy.alloc (.cells #[kd,dt] 105)) (.slice (some (yy,0)) 1 1) [⟨kd,dt⟩]):=aa (Or.inr ⟨yy.heap.size,1,_,rfl,zF yy _,zD _,fun j hj=>by
          have hj2:j=0\/j=1:=by
           have:j<1*2:=hj
           omega
          rcases hj2 with rfl|rfl<;>rfl⟩)
         clear hb62;go_simp;refine ro hK (uh SZ _ E62.out.b) fun _=>?_
         clear hK K;generalize yy.heap.size=N62 at M62|-;generalize (yy.alloc (.cells #[kd,dt] 105))=q62 at E62 M62|-;have hS62:=uh SZ _ E62.out.b;refine r3 7 fun K hK=>?_
         have hw63:=E62.out.b.size;refine zU q62 (by rfl) _ _ (by rfl) z0 (na,KL.length,nc) (.slice (some (N62,0)) 1 1) KL [⟨kd,dt⟩] (by rfl) (by rfl) E62.out.o M62.out (by omega) (by show 1<=1048576;decide) hw63 ?_;rintro v63 y63 ho63 hg63;obtain⟨va63,vc63,ev63⟩:=af ho63;obtain⟨KK,hKK⟩ := ex (KL++[(⟨kd,dt⟩:Op.Opt)]);rw[hKK]at ho63 ev63;subst ev63;have HKK:=aa hKK;have A63:=aa (E62.out.grow hg63 (K':=KK) ho63);clear ho63 hg63 hw63 hKK;refine ro hK (uh SZ _ A63.out.2.1) fun _=>?_
         clear hK K;refine t2 8 ?_;refine r3 9 fun K hK=>?_
         have n1:=(vg A63.out.1).2;have fn:=aX A63.out.1 1;have ZF:=aa A63.out.2.2;go_simp;clear n1 fn;refine ro hK (uh SZ _ ZF.out.b) fun _=>?_
         clear hK K;refine dn ?_ _;go_wp2_with fail
         go_roundw
         case rel =>
          refine⟨k+1,by omega,by go_num,?_⟩;refine⟨KK,_,_,?_,?_,uh ZF⟩
          .rw [<- uh HKK,HK.out,jA L R i (by omega) k (by omega),if_pos HQ.out,uh HO]
          .have hz:=congrArg List.length HKK.out;rw[List.length_append,List.length_singleton]at hz;omega
         case measure=>simp[intOf];omega
        .have hb61:Below yy yy (yy.alloc (.cells #[kd,dt] 105)):=(zC _ _).alloc (zD _) _;have E61:=aa (E9.out.step hb61);have M61:Hid (HoldsO (yy.alloc (.cells #[kd,dt] 105)) (.slice (some (yy,0)) 1 1) [⟨kd,dt⟩]):=aa (Or.inr ⟨yy.heap.size,1,_,rfl,zF yy _,zD _,fun j hj=>by
          have hj2:j=0\/j=1:=by
           have:j<1*2:=hj
           omega
          rcases hj2 with rfl|rfl<;>rfl⟩)
         clear hb61;go_simp;refine ro hK (uh SZ _ E61.out.b) fun _=>?_
         clear hK K;generalize yy.heap.size=N61 at M61|-;generalize (yy.alloc (.cells #[kd,dt] 105))=q61 at E61 M61|-;have hS61:=uh SZ _ E61.out.b;refine r3 1 fun K hK=>?_
         have n1:=(vg E61.out.n).2;go_simp;clear n1;refine ro hK (uh SZ _ E61.out.b) fun _=>?_
         clear hK K;refine r3 7 fun K hK=>?_
         have hw63:=E61.out.b.size;refine zU q61 (by rfl) _ _ (by rfl) z0 (na,KL.length,nc) (.slice (some (N61,0)) 1 1) KL [⟨kd,dt⟩] (by rfl) (by rfl) E61.out.o M61.out (by omega) (by show 1<=1048576;decide) hw63 ?_;rintro v63 y63 ho63 hg63;obtain⟨va63,vc63,ev63⟩:=af ho63;obtain⟨KK,hKK⟩ := ex (KL++[(⟨kd,dt⟩:Op.Opt)]);rw[hKK]at ho63 ev63;subst ev63;have HKK:=aa hKK;have A63:=aa (E61.out.grow hg63 (K':=KK) ho63);clear ho63 hg63 hw63 hKK;refine ro hK (uh SZ _ A63.out.2.1) fun _=>?_
         clear hK K;refine t2 8 ?_;refine r3 9 fun K hK=>?_
         have n1:=(vg A63.out.1).2;have fn:=aX A63.out.1 1;have ZF:=aa A63.out.2.2;go_simp;clear n1 fn;refine ro hK (uh SZ _ ZF.out.b) fun _=>?_
         clear hK K;refine dn ?_ _;go_wp2_with fail
         go_roundw
         case rel =>
          refine⟨k+1,by omega,by go_num,?_⟩;refine⟨KK,_,_,?_,?_,uh ZF⟩
          .rw [<- uh HKK,HK.out,jA L R i (by omega) k (by omega),if_pos HQ.out,uh HO]
          .have hz:=congrArg List.length HKK.out;rw[List.length_append,List.length_singleton]at hz;omega
         case measure=>simp[intOf];omega
       .have hqb:(R[k].kind==kd)=false:=zL hq;have HQ:Hid (¬R[k].kind=L[i].kind):=aa (by rw[uh HO];exact hq);clear hq;generalize R[k].kind=kr at r0 hqb;go_upto_region 16 with fail
        go_quiet (fail)
        have E11:=aa (E9.out.step (aH (zC _ _) nq));generalize wr.drewN nq=y1 at*;go_wp2_with fail
        go_roundw
        case rel =>
         refine⟨k+1,by omega,by go_num,KL,na,nc,?_,by omega,uh E11⟩;rw[uh HK,jA L R i hlt k hkR,if_neg HQ.out,List.append_nil]
        case measure=>simp[intOf];omega
      .have dk:¬((k:Int)<(R.length:Int)):=by omega
       have ek:k=R.length:=by omega
       have EK:=aa ek;clear ek;go_wp2_with fail
       go_roundw
       case rel =>
        refine⟨i+1,KL,na,nc,by omega,by go_num,?_,by have:=uh EK;omega,uh E9⟩;rw[uh HK,uh EK,qR L R i hlt]
       case measure=>simp[intOf];omega
    .have di:¬((i:Int)<(L.length:Int)):=by omega
     have ei:i=L.length:=by omega
     have HKE:Hid (KL=AO):=aa (by rw[uh HK0,ei,D_];exact HAO.out.symm);clear ei HK0 HAO;have hb10:=E10.out.b;obtain⟨n0,n1⟩:=vg E10.out.n;have hL10:=E8.out.1.step hb10;have k35:=hL10.cell (i:=35) rfl;have k36:=hL10.cell (i:=36) rfl;have f35:=hL10.frz 35;have f36:=hL10.frz 36;have HZ9:Hid (Lay 99 w0 w1 B (aU now p L (AC,AO) (ad,L.length,cp) (na,KL.length,nc)) ⟨e,F1,F2,[],[]⟩ v1 v2 ai ai ((wr.setCell (B,35) (4:Int)).setCell (B,36) (na,KL.length,nc))/\((wr.setCell (B,35) (4:Int)).setCell (B,36) (na,KL.length,nc)).heap[X]?=some (.cells k_ 74)):=aa (by
      rw[uh HAC,<- uh HKE];exact⟨hL10.ans9 4 (na,KL.length,nc) KL (HoldsO.own E10.out.o),(AJ hXB).trans ((hb10.block _ (ge.1 E8.out.2).1).trans E8.out.2)⟩)
     clear hb10 hL10;go_upto_region 19 with fail
     refine bb (fun z=>Lay 99 w0 w1 B (aU now p L (AC,AO) (ad,L.length,cp) (na,KL.length,nc)) ⟨e,F1,F2,[],[]⟩ v1 v2 ai ai z/\z.heap[X]?=some (.cells k_ 74)) HZ9.out ?_;clear n0 n1 k35 k36 f35 f36 HZ9 E10 E8 HKE HAC;intro z9 hz9;have E8:=aa hz9;clear hz9;generalize (.slice na KL.length nc:Value)=va9 at*;generalize (.slice ad L.length cp:Value)=vh9 at*;have k35:z9.cell? (B,35)=some (.int .i64 AC):=E8.out.1.cell (i:=35) rfl;by_cases ha:AC=2
     .rw [if_pos ha]at HH;have hb2:(AC==2)=true:=by simpa using ha
      have HA:=aa ha;clear ha;have CE:=aa (dR w0 w1 B (aU now p L (AC,AO) vh9 va9) ⟨e,F1,F2,[],[]⟩ v1 v2 z9 E8.out.1 rfl rfl (uh HFX vh9 va9) ⟨#[82,67,82,43]⟩ (by decide) (fun a ha=>bK _ a ((aO (i:=6) (c:=aU now p L (AC,AO) vh9 va9) rfl HST.out.1 HST.out.2 (fun _=>uh HA) (fun h=>absurd h (by decide))).1 a ha)) (aO (i:=6) (c:=aU now p L (AC,AO) vh9 va9) rfl HST.out.1 HST.out.2 (fun _=>uh HA) (fun h=>absurd h (by decide))).2);have HH2:Hid (aB now p e F1 F2=bj (aU now p L (AC,AO) vh9 va9) ⟨e,F1,F2,[],[]⟩ ⟨#[82,67,82,43]⟩):=HH;generalize bj (aU now p L (AC,AO) vh9 va9) ⟨e,F1,F2,[],[]⟩ ⟨#[82,67,82,43]⟩=EV at*;go_wp2_with fail
      refine CE.out.mono ?_;rintro r z6⟨hE,hnr⟩;clear CE;obtain⟨cs,rfl,hsz,hall,hX2,hEv⟩:=hE.outN hnr E8.out.2 hXB hXw;have HE2:=aa (zA hX2 hEv);clear hE hX2 hEv hnr
      go_wp2_with (first
       | (refine wpList_store_rowTo rfl 74 (.tmp 2) (.tmp 109) rfl rfl X cs rfl rfl 74 k_ HE2.out.1 (by rw[hsz];exact aw) (by rw[hsz];rfl) hall ?_))
      refine bodyPost_ret (v:=.agg cs) (by simp[results,results75,asAddr,Act.put,de (setRow_heap z6 X _ cs _ _ HE2.out.1) hsz]) rfl ?_;rw[uh HH2];exact HE2.out.2
     .rw [if_neg ha]at HH;have hb2:(AC==2)=false:=by simpa using ha
      have HA:=aa ha;clear ha;have CE:=aa (dR w0 w1 B (aU now p L (AC,AO) vh9 va9) ⟨e,F1,F2,[],[]⟩ v1 v2 z9 E8.out.1 rfl rfl (uh HFX vh9 va9) ⟨#[82,67,82,45]⟩ (by decide) (fun a ha=>bK _ a ((aO (i:=7) (c:=aU now p L (AC,AO) vh9 va9) rfl HST.out.1 HST.out.2 (fun h=>absurd h (by decide)) (fun _=>uh HA)).1 a ha)) (aO (i:=7) (c:=aU now p L (AC,AO) vh9 va9) rfl HST.out.1 HST.out.2 (fun h=>absurd h (by decide)) (fun _=>uh HA)).2);have HH2:Hid (aB now p e F1 F2=bj (aU now p L (AC,AO) vh9 va9) ⟨e,F1,F2,[],[]⟩ ⟨#[82,67,82,45]⟩):=HH;generalize bj (aU now p L (AC,AO) vh9 va9) ⟨e,F1,F2,[],[]⟩ ⟨#[82,67,82,45]⟩=EV at*;go_wp2_with fail
      refine CE.out.mono ?_;rintro r z6⟨hE,hnr⟩;clear CE;obtain⟨cs,rfl,hsz,hall,hX2,hEv⟩:=hE.outN hnr E8.out.2 hXB hXw;have HE2:=aa (zA hX2 hEv);clear hE hX2 hEv hnr
      go_wp2_with (first
       | (refine wpList_store_rowTo rfl 74 (.tmp 2) (.tmp 111) rfl rfl X cs rfl rfl 74 k_ HE2.out.1 (by rw[hsz];exact aw) (by rw[hsz];rfl) hall ?_))
      refine bodyPost_ret (v:=.agg cs) (by simp[results,results75,asAddr,Act.put,de (setRow_heap z6 X _ cs _ _ HE2.out.1) hsz]) rfl ?_;rw[uh HH2];exact HE2.out.2
  .rw [if_neg hcd]at hAN;injection hAN with hAC hAO;subst hAC;subst hAO;have hvv:True:=trivial;by_cases hc3:AC=3
   .have hfl:(e.fl==3)=false:=zL fun e=>hcd ⟨hc3,e⟩
    have hb3:(AC==3)=true:=by simpa using hc3
    clear hcd hc3;go_upto_region 19 with fail
    generalize (.slice ra AO.length rc:Value)=va9 at*;generalize (.slice ad L.length cp:Value)=vh9 at*;clear k35 k16;have k35:z8.cell? (B,35)=some (.int .i64 AC):=E8.out.1.cell (i:=35) rfl;by_cases ha:AC=2
    .rw [if_pos ha]at HH;have hb2:(AC==2)=true:=by simpa using ha
     have HA:=aa ha;clear ha;have CE:=aa (dR w0 w1 B (aU now p L (AC,AO) vh9 va9) ⟨e,F1,F2,[],[]⟩ v1 v2 z8 E8.out.1 rfl rfl (uh HFX vh9 va9) ⟨#[82,67,82,43]⟩ (by decide) (fun a ha=>bK _ a ((aO (i:=6) (c:=aU now p L (AC,AO) vh9 va9) rfl HST.out.1 HST.out.2 (fun _=>uh HA) (fun h=>absurd h (by decide))).1 a ha)) (aO (i:=6) (c:=aU now p L (AC,AO) vh9 va9) rfl HST.out.1 HST.out.2 (fun _=>uh HA) (fun h=>absurd h (by decide))).2);have HH2:Hid (aB now p e F1 F2=bj (aU now p L (AC,AO) vh9 va9) ⟨e,F1,F2,[],[]⟩ ⟨#[82,67,82,43]⟩):=HH;generalize bj (aU now p L (AC,AO) vh9 va9) ⟨e,F1,F2,[],[]⟩ ⟨#[82,67,82,43]⟩=EV at*;go_wp2_with fail
     refine CE.out.mono ?_;rintro r z6⟨hE,hnr⟩;clear CE;obtain⟨cs,rfl,hsz,hall,hX2,hEv⟩:=hE.outN hnr E8.out.2 hXB hXw;have HE2:=aa (zA hX2 hEv);clear hE hX2 hEv hnr
     go_wp2_with (first
      | (refine wpList_store_rowTo rfl 74 (.tmp 2) (.tmp 109) rfl rfl X cs rfl rfl 74 k_ HE2.out.1 (by rw[hsz];exact aw) (by rw[hsz];rfl) hall ?_))
     refine bodyPost_ret (v:=.agg cs) (by simp[results,results75,asAddr,Act.put,de (setRow_heap z6 X _ cs _ _ HE2.out.1) hsz]) rfl ?_;rw[uh HH2];exact HE2.out.2
    .rw [if_neg ha]at HH;have hb2:(AC==2)=false:=by simpa using ha
     have HA:=aa ha;clear ha;have CE:=aa (dR w0 w1 B (aU now p L (AC,AO) vh9 va9) ⟨e,F1,F2,[],[]⟩ v1 v2 z8 E8.out.1 rfl rfl (uh HFX vh9 va9) ⟨#[82,67,82,45]⟩ (by decide) (fun a ha=>bK _ a ((aO (i:=7) (c:=aU now p L (AC,AO) vh9 va9) rfl HST.out.1 HST.out.2 (fun h=>absurd h (by decide)) (fun _=>uh HA)).1 a ha)) (aO (i:=7) (c:=aU now p L (AC,AO) vh9 va9) rfl HST.out.1 HST.out.2 (fun h=>absurd h (by decide)) (fun _=>uh HA)).2);have HH2:Hid (aB now p e F1 F2=bj (aU now p L (AC,AO) vh9 va9) ⟨e,F1,F2,[],[]⟩ ⟨#[82,67,82,45]⟩):=HH;generalize bj (aU now p L (AC,AO) vh9 va9) ⟨e,F1,F2,[],[]⟩ ⟨#[82,67,82,45]⟩=EV at*;go_wp2_with fail
     refine CE.out.mono ?_;rintro r z6⟨hE,hnr⟩;clear CE;obtain⟨cs,rfl,hsz,hall,hX2,hEv⟩:=hE.outN hnr E8.out.2 hXB hXw;have HE2:=aa (zA hX2 hEv);clear hE hX2 hEv hnr
     go_wp2_with (first
      | (refine wpList_store_rowTo rfl 74 (.tmp 2) (.tmp 111) rfl rfl X cs rfl rfl 74 k_ HE2.out.1 (by rw[hsz];exact aw) (by rw[hsz];rfl) hall ?_))
     refine bodyPost_ret (v:=.agg cs) (by simp[results,results75,asAddr,Act.put,de (setRow_heap z6 X _ cs _ _ HE2.out.1) hsz]) rfl ?_;rw[uh HH2];exact HE2.out.2
   .have hb3:(AC==3)=false:=zL hc3;clear hcd;go_upto_region 19 with fail
    generalize (.slice ra AO.length rc:Value)=va9 at*;generalize (.slice ad L.length cp:Value)=vh9 at*;clear k35 k16;have k35:z8.cell? (B,35)=some (.int .i64 AC):=E8.out.1.cell (i:=35) rfl;by_cases ha:AC=2
    .rw [if_pos ha]at HH;have hb2:(AC==2)=true:=by simpa using ha
     have HA:=aa ha;clear ha;have CE:=aa (dR w0 w1 B (aU now p L (AC,AO) vh9 va9) ⟨e,F1,F2,[],[]⟩ v1 v2 z8 E8.out.1 rfl rfl (uh HFX vh9 va9) ⟨#[82,67,82,43]⟩ (by decide) (fun a ha=>bK _ a ((aO (i:=6) (c:=aU now p L (AC,AO) vh9 va9) rfl HST.out.1 HST.out.2 (fun _=>uh HA) (fun h=>absurd h (by decide))).1 a ha)) (aO (i:=6) (c:=aU now p L (AC,AO) vh9 va9) rfl HST.out.1 HST.out.2 (fun _=>uh HA) (fun h=>absurd h (by decide))).2);have HH2:Hid (aB now p e F1 F2=bj (aU now p L (AC,AO) vh9 va9) ⟨e,F1,F2,[],[]⟩ ⟨#[82,67,82,43]⟩):=HH;generalize bj (aU now p L (AC,AO) vh9 va9) ⟨e,F1,F2,[],[]⟩ ⟨#[82,67,82,43]⟩=EV at*;go_wp2_with fail
     refine CE.out.mono ?_;rintro r z6⟨hE,hnr⟩;clear CE;obtain⟨cs,rfl,hsz,hall,hX2,hEv⟩:=hE.outN hnr E8.out.2 hXB hXw;have HE2:=aa (zA hX2 hEv);clear hE hX2 hEv hnr
     go_wp2_with (first
      | (refine wpList_store_rowTo rfl 74 (.tmp 2) (.tmp 109) rfl rfl X cs rfl rfl 74 k_ HE2.out.1 (by rw[hsz];exact aw) (by rw[hsz];rfl) hall ?_))
     refine bodyPost_ret (v:=.agg cs) (by simp[results,results75,asAddr,Act.put,de (setRow_heap z6 X _ cs _ _ HE2.out.1) hsz]) rfl ?_;rw[uh HH2];exact HE2.out.2
    .rw [if_neg ha]at HH;have hb2:(AC==2)=false:=by simpa using ha
     have HA:=aa ha;clear ha;have CE:=aa (dR w0 w1 B (aU now p L (AC,AO) vh9 va9) ⟨e,F1,F2,[],[]⟩ v1 v2 z8 E8.out.1 rfl rfl (uh HFX vh9 va9) ⟨#[82,67,82,45]⟩ (by decide) (fun a ha=>bK _ a ((aO (i:=7) (c:=aU now p L (AC,AO) vh9 va9) rfl HST.out.1 HST.out.2 (fun h=>absurd h (by decide)) (fun _=>uh HA)).1 a ha)) (aO (i:=7) (c:=aU now p L (AC,AO) vh9 va9) rfl HST.out.1 HST.out.2 (fun h=>absurd h (by decide)) (fun _=>uh HA)).2);have HH2:Hid (aB now p e F1 F2=bj (aU now p L (AC,AO) vh9 va9) ⟨e,F1,F2,[],[]⟩ ⟨#[82,67,82,45]⟩):=HH;generalize bj (aU now p L (AC,AO) vh9 va9) ⟨e,F1,F2,[],[]⟩ ⟨#[82,67,82,45]⟩=EV at*;go_wp2_with fail
     refine CE.out.mono ?_;rintro r z6⟨hE,hnr⟩;clear CE;obtain⟨cs,rfl,hsz,hall,hX2,hEv⟩:=hE.outN hnr E8.out.2 hXB hXw;have HE2:=aa (zA hX2 hEv);clear hE hX2 hEv hnr
     go_wp2_with (first
      | (refine wpList_store_rowTo rfl 74 (.tmp 2) (.tmp 111) rfl rfl X cs rfl rfl 74 k_ HE2.out.1 (by rw[hsz];exact aw) (by rw[hsz];rfl) hall ?_))
     refine bodyPost_ret (v:=.agg cs) (by simp[results,results75,asAddr,Act.put,de (setRow_heap z6 X _ cs _ _ HE2.out.1) hsz]) rfl ?_;rw[uh HH2];exact HE2.out.2
 .have HH:Hid (aB now p e F1 F2=bA 3):=aa (by unfold aB;rw[if_pos hc,if_neg h0,od hs h0]);have hd0:decide ((ar p.data).2=0)=false:=decide_eq_false h0;have E3:=aa (zA (E1.out.1.step hb3) ((hb3.block _ (ge.1 E1.out.2).1).trans E1.out.2));rw[hd0];clear hyes hb3 E1 c33 CO hd0 hf hp hs hr hc h0
  go_wp2_with (first
   | (refine wpList_buildTo rfl 74 _ rfl (some 20) rfl (aC ag () () () () 3) (by as_aux_lemma=>kernel_rfl) ?_)
   | (refine wpList_store_rowTo rfl 74 (.tmp 2) (.tmp 20) rfl rfl X (aC ag () () () () 3) rfl rfl 74 k_ E3.out.2 aw rfl (aG _ _ _ _ _ _ _ _ _ _ _ _ _ _) ?_))
  refine bodyPost_ret (v:=.agg (aC ag () () () () 3)) (by simp[results,results75,asAddr,Act.put,de (setRow_heap z3 X _ (aC ag () () () () 3) _ _ E3.out.2)]) rfl ?_;rw[uh HH];exact bE (am E3.out.1.low hXw _) 3
end Go.Proofs.YtjdgiimfpkideaaGreatDoor
