/- The program: an end of a numbered line finds frames in bytes, and hears a packet; what lay in memory stands but for the end, its line's row and the row of what it has got. Two ends of a numbered line and their lines, laid in memory; what stands while one of them is worked on; no condition but those named. Two ends of a numbered line laid in memory: one of them finds frames, and hears a packet; what the world counts is read and set; no condition but those named. The program takes frames off one end's line, and the other end hears what is found in them; what lay in memory stands but for the two ends and their rows; no condition but those named. -/
import Derived.Test.YtkcghhkkepndnaaGreatDoorS32
import Derived.Test.YtkcghhkkepndnaaGreatDoorS22
import Derived.Test.YtkcghhkkepndnaaGreatDoorS15
import Derived.RangeFuncBound
import Derived.Test.YtkcghhkkepndnaaGreatDoorShW
namespace Go.Proofs.YtkcghhkkepndnaaGreatDoor
open Go.RowKit
set_option maxHeartbeats 8000000 in
set_option maxRecDepth 100000 in
theorem iFindN {base:Nat} {W:World} {B:Nat} {X Z:List Value} {s:Nl} {vq vl vg:Value} (h:Sn base W B X Z s vq vl vg) (hL:Lt base W) (hD:DmOk s.df) {t:ByteArray} (ht:t.size≤411) :
  Calls Tryz.prog 67 #[.pointer (some ⟨B,X.length,none⟩),.string t] W fun e W'=>∃ v,e=.returned v∧HoldsF W' v (ansD s.df t).F∧(∀ g,v.ownBlock=some g→W.heap.size≤g)∧Sn base W' B X Z (dfN s t) vq vl vg∧Fz (fun k=>k=B) (K2 vl vg) (K2 vl vg) W W':=by
 have rg:=h.dm
 have C:=hide (implDefrAll s.df.wd s.df.x s.df.inn s.df.esc s.df.long s.df.tx t W (by have:=hD.tx;unfold maxLen;omega) (by unfold maxLen;omega) hL.tabs)
 obtain ⟨A,hA⟩:∃ A,ansOf s.df.wd s.df.x s.df.inn s.df.esc s.df.long s.df.tx t=A:=⟨_,rfl⟩
 have hA2:ansD s.df t=A:=hA
 unfold dfN
 rw [hA] at C
 rw [hA2]
 have HS:=hide h
 clear hA hA2 h hL hD
 generalize hk:X.length=k at *
 go_enter Tryz.func67,Tryz.ntmps67
 go_wp2_with (refine wpList_load_mid rfl 59 (.tmp 8) rfl B (k+7) rfl (dmC s.df) _ rg Tryz.underlying59 rfl (by exact infoD6) ?_)
 refine (uh C).mono ?_
 rintro e w2 ⟨v,rfl,⟨hv1,hv2⟩,hb2⟩
 obtain ⟨wd,x,inn,esc,long,tx,F,cd⟩:=A
 unfold ansV
 dsimp only at hv1 ⊢
 obtain ⟨va,vc,rfl⟩:=hv1.form
 have hbz:Below w2.heap.size w2 (w2.alloc (.cells #[.bool wd,.int .i64 x,.bool inn,.bool esc,.bool long,.string tx,.slice va F.length vc,.int .i64 cd] 121)):=(Below.refl _ _).alloc (Nat.le_refl _) _
 have hN:=heap_alloc_new w2 (.cells #[.bool wd,.int .i64 x,.bool inn,.bool esc,.bool long,.string tx,.slice va F.length vc,.int .i64 cd] 121)
 have HV:=hide (And.intro hv1 hv2)
 have HB:=hide hb2
 have HZ:=hide (And.intro hbz hN)
 clear hv1 hv2 hb2 C hbz hN
 go_upto_region 2 with fail
 generalize w2.alloc (.cells #[.bool wd,.int .i64 x,.bool inn,.bool esc,.bool long,.string tx,.slice va F.length vc,.int .i64 cd] 121)=z at HZ ⊢
 generalize hN:w2.heap.size=N at HZ ⊢
 have hbz:Below W.heap.size W z:=(uh HB).trans ((uh HZ).1.mono (by rw [← hN];exact (uh HB).size))
 have hs:=(uh HS).below hbz
 have rgE:z.rangeAt N 0 (dmC ⟨wd,x,inn,esc,long,tx⟩):=by
  have h1:z.heap[N]?=some (.cells ([] ++ dmC ⟨wd,x,inn,esc,long,tx⟩ ++ [Value.slice va F.length vc,Value.int .i64 cd]).toArray 121):=(uh HZ).2
  exact range_blk h1
 have thB:=hs.dmT
 rw [hk] at thB
 have rgV:z.cell? ⟨N,6,none⟩=some (.slice va F.length vc):=by rw [cr (uh HZ).2];rfl
 have nBN:B≠N:=fun e=>by have:=(uh HS).lt;have:=(uh HB).size;omega
 have HF:=hide hs
 have HBZ:=hide hbz
 clear hs hbz
 go_upto_region 3 with (first
  | (refine wpList_load_mid rfl 59 (.tmp 13) rfl N 0 rfl (dmC ⟨wd,x,inn,esc,long,tx⟩) _ rgE Tryz.underlying59 rfl (by exact infoD6) ?_)
  | (refine wpList_store_mid rfl 59 (.tmp 16) (.tmp 14) rfl B (k+7) (dmC ⟨wd,x,inn,esc,long,tx⟩).toArray rfl rfl (by exact thB) (by exact infoD6) (by kernel_rfl) ?_))
 have HY:Hid (HoldsF (z.setCells B (k+7) (dmC ⟨wd,x,inn,esc,long,tx⟩)) (.slice va F.length vc) F∧(∀ g,(Value.slice va F.length vc).ownBlock=some g→W.heap.size≤g)∧Sn base (z.setCells B (k+7) (dmC ⟨wd,x,inn,esc,long,tx⟩)) B X Z ⟨s.p,s.Q,s.ln,⟨wd,x,inn,esc,long,tx⟩,s.gt⟩ vq vl vg∧Fz (fun k=>k=B) (K2 vl vg) (K2 vl vg) W (z.setCells B (k+7) (dmC ⟨wd,x,inn,esc,long,tx⟩))):=hide (by
  have h1:=(uh HF).setD ⟨wd,x,inn,esc,long,tx⟩
  rw [hk] at h1
  obtain ⟨v1,v2⟩:=uh HV
  have hlt:=(uh HS).lt
  refine ⟨?_,v2,h1,(Fz.of_below (uh HBZ)).trans (Fz.cells _ _ _ _ _)⟩
  refine HoldsF.same (v1.below (by rw [hN];exact (uh HZ).1)) fun g hg=>set_other3 (fun e=>?_) _ _ _
  have:=v2 g hg
  omega)
 have cV:(z.setCells B (k+7) (dmC ⟨wd,x,inn,esc,long,tx⟩)).cell? ⟨N,6,none⟩=some (.slice va F.length vc):=by
  have h1:(z.setCells B (k+7) (dmC ⟨wd,x,inn,esc,long,tx⟩)).heap[N]?=z.heap[N]?:=set_other3 (fun e=>nBN e.symm) _ _ _
  rw [cr (h1.trans (uh HZ).2)];rfl
 clear HF rgE thB rgV rg
 generalize z.setCells B (k+7) (dmC ⟨wd,x,inn,esc,long,tx⟩)=y at HY cV ⊢
 go_wp2_with fail
 go_ret
 exact ⟨_,rfl,uh HY⟩
theorem read_len9 (r:List UInt8):(Pp.read r).text.length≤r.length:=by
 rcases r with _ | ⟨c,_ | ⟨d,r⟩⟩
 ·exact Nat.zero_le _
 ·simp only [Pp.read]
  split<;>exact Nat.zero_le _
 ·simp only [Pp.read]
  split
  ·exact Nat.le_succ _
  ·split
   ·show r.length≤r.length+1+1
    omega
   ·exact Nat.zero_le _
theorem unp_len (l:List UInt8):(Pp.unpack l).text.length≤l.length:=by
 unfold Pp.unpack
 split
 ·exact Nat.le_trans (read_len9 _) (Pp.rest_len l)
 ·exact Nat.zero_le _
set_option maxHeartbeats 8000000 in
set_option maxRecDepth 100000 in
theorem iHearN {base:Nat} {W:World} {B:Nat} {X Z:List Value} {s:Nl} {vq vl vg:Value} (h:Sn base W B X Z s vq vl vg) (hL:Lt base W) (hB:base≤B) (hG:s.gt.length≤1000000) (hp:s.Q.length≤1048576) {t:ByteArray} (ht:t.size≤8000) :
  Calls Tryz.prog 68 #[.pointer (some ⟨B,X.length,none⟩),.string t] W fun e W'=>e=.returned (.tuple #[])∧∃ vq' vl' vg',Sn base W' B X Z (hearN s t) vq' vl' vg'∧Fz (fun k=>k=B) (K2 vl vg) (K2 vl' vg') W W'∧(vq'=vq∨∀ g,vq'.ownBlock=some g→W.heap.size≤g):=by
 have C0:=hide (implUnpAll t W (by unfold maxLen;omega))
 unfold hearN
 obtain ⟨P,hP⟩:∃ P,Pp.unpack t.data.toList=P:=⟨_,rfl⟩
 rw [hP] at C0 ⊢
 have HPL:P.text.length≤8000:=by
  rw [← hP]
  have h1:=unp_len t.data.toList
  rw [Array.length_toList] at h1
  have h2:t.data.size=t.size:=rfl
  omega
 clear hP
 obtain ⟨pr,pt,pc⟩:=P
 unfold outV at C0
 dsimp only at C0 HPL ⊢
 obtain ⟨R,hR⟩:∃ R,(if pr=33 then followN s (hearLF s.p s.Q (nbRead (txt pt))) else s)=R:=⟨_,rfl⟩
 rw [hR]
 have HR:=hide hR
 clear hR
 have HS:=hide h
 have HL:=hide hL
 clear h hL
 generalize hk:X.length=k at *
 go_enter Tryz.func68,Tryz.ntmps68
 go_wp2_with fail
 refine (uh C0).mono ?_
 rintro e w2 ⟨rfl,hb2⟩
 have hbz:Below w2.heap.size w2 (w2.alloc (.cells #[.int .i64 pr,.string (txt pt),.int .i64 pc] 124)):=(Below.refl _ _).alloc (Nat.le_refl _) _
 have hN:=heap_alloc_new w2 (.cells #[.int .i64 pr,.string (txt pt),.int .i64 pc] 124)
 have HZ:=hide (And.intro hb2 (And.intro hbz hN))
 clear hb2 hbz hN C0
 go_upto_region 1 with fail
 obtain ⟨qa,qc,rfl⟩:=own_form (uh HS).hq
 generalize hN:w2.heap.size=N at HZ ⊢
 generalize w2.alloc (.cells #[.int .i64 pr,.string (txt pt),.int .i64 pc] 124)=z at HZ ⊢
 have c0:z.cell? ⟨N,0,none⟩=some (.int .i64 pr):=by rw [cr (uh HZ).2.2];rfl
 have hbz:Below W.heap.size W z:=(uh HZ).1.trans ((uh HZ).2.1.mono (by rw [← hN];exact (uh HZ).1.size))
 have hWN:W.heap.size≤N:=by rw [← hN];exact (uh HZ).1.size
 have HBZ:=hide hbz
 clear hbz
 by_cases h33:pr=33
 ·subst h33
  have hR:=uh HR
  rw [if_pos rfl] at hR
  replace HR:=hide hR
  clear hR
  have d1:((33:Int) == 33)=true:=rfl
  obtain ⟨f,hf⟩:∃ f,nbRead (txt pt)=f:=⟨_,rfl⟩
  rw [hf] at HR
  have CN:=hide fun (v:World)=>iNbRead (txt pt) v (by rw [txt_size];unfold maxLen;omega)
  rw [hf] at CN
  clear hf
  go_upto_region 2 with fail
  clear c0
  have hbd:Below W.heap.size W z.drew:=(uh HBZ).drew
  have hNd:z.drew.heap[N]?=some (.cells #[.int .i64 33,.string (txt pt),.int .i64 pc] 124):=(uh HZ).2.2
  obtain ⟨zd,hzd⟩:∃ zd,z.drew=zd:=⟨_,rfl⟩
  rw [hzd] at hbd hNd
  have HBD:=hide hbd
  have rg:zd.rangeAt B k (lpC s.p (.slice qa s.Q.length qc)).toList:=by
   have:=((uh HS).below hbd).lp
   rw [hk] at this
   exact this
  have hsz:W.heap.size≤zd.heap.size:=hbd.size
  have HSQ:Hid (∀ q:World,Below zd.heap.size zd q→q.cell? ⟨N,1,none⟩=some (.string (txt pt))):=hide fun q hq=>by
   rw [cr ((hq.block N (Array.getElem?_eq_some_iff.1 hNd).1).trans hNd)];rfl
  have CH:Hid (∀ z1:World,Below zd.heap.size zd z1→Calls Tryz.prog 95 #[.agg (lpC s.p (.slice qa s.Q.length qc)),nbV f] z1 fun e q=>AnsL z1 (hearLF s.p s.Q f) e q):=hide fun z1 hb=>iHearL s.p qa qc s.Q f z1 hp (HoldsT.own (((uh HS).below hbd).below hb).hq).s
  have HRR:Hid (followN s (hearLF s.p s.Q f)=R):=HR
  have hfine:=fine_hear s.p s.Q f
  obtain ⟨o,ho⟩:∃ o,hearLF s.p s.Q f=o:=⟨_,rfl⟩
  have hoe:o.cd≠0→o.sn=[]∧o.gt=[]:=by
   rw [← ho]
   unfold hearLF
   repeat' split
   all_goals first | exact fun _=>⟨rfl,rfl⟩ | (unfold hearG;repeat' split) | skip
   all_goals exact fun h=>absurd rfl h
  rw [ho] at CH HRR hfine
  clear ho
  have CF:Hid (∀ (z1 q:World) (v vf vgo:Value),Below zd.heap.size zd z1→q.ownsRow z1.heap.size 9 1 v o.Q.length (scells o.Q)→q.ownsRow z1.heap.size 96 4 vf o.sn.length (nbcells o.sn)→q.ownsRow z1.heap.size 9 1 vgo o.gt.length (scells o.gt)→(∀ g,v.ownBlock=some g→vgo.ownBlock≠some g)→Below z1.heap.size z1 q →
    Calls Tryz.prog 38 #[.pointer (some ⟨B,k,none⟩),.agg (loC o.p v vf vgo o.cd)] q fun e W'=>e=.returned (.tuple #[])∧(∃ vq' vl' vg',Sn base W' B X Z R vq' vl' vg'∧Fz (fun k=>k=B) (K2 vl vg) (K2 vl' vg') W W'∧(vq'=.slice qa s.Q.length qc∨∀ g,vq'.ownBlock=some g→W.heap.size≤g))∧W'.cell? ⟨N,1,none⟩=some (.string (txt pt))):=hide fun z1 q v vf vgo hb oq os og ap lo=>by
   have hbq:Below W.heap.size W q:=hbd.trans ((hb.trans (lo.mono hb.size)).mono hsz)
   have hs:=(uh HS).below hbq
   rw [← hk]
   have hz1:W.heap.size≤z1.heap.size:=Nat.le_trans hsz hb.size
   refine (iFollowN hs ((uh HL).step (hbq.mono (uh HS).bs)) hB (b:=z1.heap.size) (Nat.le_trans (uh HS).bs hz1) ⟨oq,os,og⟩ ap (fun g hg=>by have:=((uh HS).kk g hg).2.1;omega) hfine hoe hG).mono ?_
   rintro e W' ⟨rfl,vq',vl',vg',p1,p2,p3⟩
   rw [uh HRR] at p1
   refine ⟨rfl,⟨vq',vl',vg',p1,(Fz.of_below hbq).trans p2,p3.imp id fun e g hg=>?_⟩,?_⟩
   ·rw [e] at hg
    have:=(own_typ oq g hg).1
    omega
   ·have hNq:q.heap[N]?=some (.cells #[.int .i64 33,.string (txt pt),.int .i64 pc] 124):=((hb.trans (lo.mono hb.size)).block N (Array.getElem?_eq_some_iff.1 hNd).1).trans hNd
    have h1:=p2.same N (Array.getElem?_eq_some_iff.1 hNq).1 (typ_ne hNq hs.row (by decide)) (fun e=>by have:=((uh HS).kk N e).2.1;omega)
    rw [cr (h1.trans hNq)];rfl
  have hS0:=uh HSQ zd (Below.refl _ _)
  clear hfine hoe HR HZ HBZ
  refine wp_region_held_drew (S:=fun y=>y.cell? ⟨N,1,none⟩=some (.string (txt pt))) (by kernel_rfl) (by rw [hzd];exact hS0) (fun hHeld=>?_)
  rw [hzd]
  clear hHeld hbd hNd
  refine t2 0 ?_
  refine t2 1 ?_
  refine t2 2 ?_
  refine t2 3 ?_
  refine t2 5 ?_
  refine t2 6 ?_
  refine wpAnyH_ready (rs:=[4,7]) (by kernel_rfl) (by simp) (AllReadyH.cons rfl (fun K hK=>?_) (AllReadyH.cons rfl (fun K hK=>?_) (AllReadyH.nil)))
  ·rw [if_pos (by rfl)]
   refine wp_load_mid 54 (.tmp 13) rfl B k rfl (lpC s.p (.slice qa s.Q.length qc)).toList _ rg Tryz.underlying54 rfl (by exact infoL6) ?_
   refine ro hK hS0 fun _=>?_
   clear hK K
   refine r1 7 rfl (fun K hK=>?_)
   go_simp
   refine (uh CN zd).mono ?_
   rintro e z1 ⟨rfl,hb1⟩
   have hS1:=uh HSQ z1 hb1
   refine ro hK hS1 fun _=>?_
   clear hK K hS1
   refine r1 8 rfl (fun K hK=>?_)
   go_simp
   refine (uh CH z1 hb1).mono ?_
   rintro e q ⟨v,vf,vgo,rfl,h1,h2,h3,h4,h5⟩
   have CF9:=hide (uh CF z1 q v vf vgo hb1 h1 h2 h3 h4 h5)
   have hSq:=uh HSQ q (hb1.trans (h5.mono hb1.size))
   clear h1 h2 h3 h4 h5
   refine ro hK hSq fun _=>?_
   clear hK K hSq
   refine r1 9 rfl (fun K hK=>?_)
   go_simp
   refine (uh CF9).mono ?_
   rintro e W' ⟨rfl,hpost,hS9⟩
   have HPOST:=hide hpost
   clear hpost
   refine ro hK hS9 fun _=>?_
   clear hK K hS9
   refine dn ?_ _
   go_wp2_with fail
   refine bodyPost_end (results_none rfl _ _ _) rfl ?_
   exact ⟨rfl,uh HPOST⟩
  ·go_simp
   refine (uh CN zd).mono ?_
   rintro e z1 ⟨rfl,hb1⟩
   have hS1:=uh HSQ z1 hb1
   have rg1:z1.rangeAt B k (lpC s.p (.slice qa s.Q.length qc)).toList:=by
    have:=((((uh HS).below (uh HBD)).below hb1)).lp
    rw [hk] at this
    exact this
   refine ro hK hS1 fun _=>?_
   clear hK K
   refine r1 4 rfl (fun K hK=>?_)
   rw [if_pos (by rfl)]
   refine wp_load_mid 54 (.tmp 13) rfl B k rfl (lpC s.p (.slice qa s.Q.length qc)).toList _ rg1 Tryz.underlying54 rfl (by exact infoL6) ?_
   refine ro hK hS1 fun _=>?_
   clear hK K hS1
   refine r1 8 rfl (fun K hK=>?_)
   go_simp
   refine (uh CH z1 hb1).mono ?_
   rintro e q ⟨v,vf,vgo,rfl,h1,h2,h3,h4,h5⟩
   have CF9:=hide (uh CF z1 q v vf vgo hb1 h1 h2 h3 h4 h5)
   have hSq:=uh HSQ q (hb1.trans (h5.mono hb1.size))
   clear h1 h2 h3 h4 h5
   refine ro hK hSq fun _=>?_
   clear hK K hSq
   refine r1 9 rfl (fun K hK=>?_)
   go_simp
   refine (uh CF9).mono ?_
   rintro e W' ⟨rfl,hpost,hS9⟩
   have HPOST:=hide hpost
   clear hpost
   refine ro hK hS9 fun _=>?_
   clear hK K hS9
   refine dn ?_ _
   go_wp2_with fail
   refine bodyPost_end (results_none rfl _ _ _) rfl ?_
   exact ⟨rfl,uh HPOST⟩
 ·have d1:(pr == 33)=false:=beq_eq_false_iff_ne.2 h33
  have hR:=uh HR
  rw [if_neg h33] at hR
  subst hR
  go_wp2_with fail
  refine bodyPost_end (results_none rfl _ _ _) rfl ?_
  exact ⟨rfl,_,vl,vg,(uh HS).below (uh HBZ),Fz.of_below (uh HBZ),Or.inl rfl⟩
end Go.Proofs.YtkcghhkkepndnaaGreatDoor
namespace Go.Proofs.YtkcghhkkepndnaaGreatDoor
open Go.RowKit
def nwC (n bad un:Int):List Value:=[.int .i64 n,.int .i64 bad,.int .i64 un]
structure Nt (base:Nat) (W:World) (B:Nat) (m:Nw) (n:Int) (qa la ga qb lb gb:Value):Prop where
 sa:Sn base W B [] (slC m.b.p qb lb m.b.df gb ++ nwC n m.bad m.un) m.a qa la ga
 sb:Sn base W B (slC m.a.p qa la m.a.df ga) (nwC n m.bad m.un) m.b qb lb gb
 x1:∀ g,K2 la ga g→¬ K2 lb gb g
 x2:∀ g,Kv qa g→¬ K2 lb gb g
 x3:∀ g,Kv qb g→¬ K2 la ga g
 lo:Lt base W
 bB:base≤B
def K4 (la ga lb gb:Value) (g:Nat):Prop:=K2 la ga g∨K2 lb gb g
def MN (base B:Nat) (m:Nw) (n:Int) (W:World) (K:Nat→Prop):Prop:=∃ qa la ga qb lb gb,Nt base W B m n qa la ga qb lb gb∧K=K4 la ga lb gb
section
variable {base:Nat} {W W':World} {B:Nat} {m:Nw} {n:Int} {qa la ga qb lb gb qa' la' ga' qb' lb' gb':Value}
theorem Nt.setA (h:Nt base W B m n qa la ga qb lb gb) {s':Nl} (hs:Sn base W' B [] (slC m.b.p qb lb m.b.df gb ++ nwC n m.bad m.un) s' qa' la' ga') (f:Fz (fun k=>k=B) (K2 la ga) (K2 la' ga') W W') (hq:qa'=qa∨∀ g,qa'.ownBlock=some g→W.heap.size≤g):Nt base W' B ⟨s',m.b,m.bad,m.un⟩ n qa' la' ga' qb lb gb:=by
 have kb:∀ g,K2 lb gb g→W'.heap[g]?=W.heap[g]?:=fun g hg=>f.same g (h.sb.kk g hg).2.1 (h.sb.kk g hg).2.2 (fun e=>h.x1 g e hg)
 have kq:∀ g (cur:Array Value),qb.ownBlock=some g→W.heap[g]?=some (.cells cur 9)→W'.heap[g]?=W.heap[g]?:=fun g cur hv hg=>f.same g (Array.getElem?_eq_some_iff.1 hg).1 (typ_ne hg h.sb.row (by decide)) (h.x3 g hv)
 refine ⟨hs,⟨?_,own_blk h.sb.hq kq,h.sb.hl.keep fun g _ hg _ _=>kb g (Or.inl hg),own_blk h.sb.hg fun g _ hg _=>kb g (Or.inr hg),h.sb.ap,h.sb.le,hs.bs⟩,fun g hg e=>?_,fun g hg e=>?_,fun g hg e=>?_,h.lo.fz h.sa h.bB f,h.bB⟩
 ·rw [hs.row]
  simp
 ·rcases f.own g hg with e1 | e1
  ·exact h.x1 g e1 e
  ·have:=(h.sb.kk g e).2.1;omega
 ·rcases hq with e1 | e1
  ·rw [e1] at hg
   exact h.x2 g hg e
  ·have:=(h.sb.kk g e).2.1
   have:=e1 g hg
   omega
 ·rcases f.own g e with e1 | e1
  ·exact h.x3 g hg e1
  ·have:=(own_typ h.sb.hq g hg).2.1;omega
theorem Nt.setB (h:Nt base W B m n qa la ga qb lb gb) {s':Nl} (hs:Sn base W' B (slC m.a.p qa la m.a.df ga) (nwC n m.bad m.un) s' qb' lb' gb') (f:Fz (fun k=>k=B) (K2 lb gb) (K2 lb' gb') W W') (hq:qb'=qb∨∀ g,qb'.ownBlock=some g→W.heap.size≤g):Nt base W' B ⟨m.a,s',m.bad,m.un⟩ n qa la ga qb' lb' gb':=by
 have kb:∀ g,K2 la ga g→W'.heap[g]?=W.heap[g]?:=fun g hg=>f.same g (h.sa.kk g hg).2.1 (h.sa.kk g hg).2.2 (fun e=>h.x1 g hg e)
 have kq:∀ g (cur:Array Value),qa.ownBlock=some g→W.heap[g]?=some (.cells cur 9)→W'.heap[g]?=W.heap[g]?:=fun g cur hv hg=>f.same g (Array.getElem?_eq_some_iff.1 hg).1 (typ_ne hg h.sb.row (by decide)) (h.x2 g hv)
 refine ⟨⟨?_,own_blk h.sa.hq kq,h.sa.hl.keep fun g _ hg _ _=>kb g (Or.inl hg),own_blk h.sa.hg fun g _ hg _=>kb g (Or.inr hg),h.sa.ap,h.sa.le,hs.bs⟩,hs,fun g hg e=>?_,fun g hg e=>?_,fun g hg e=>?_,h.lo.fz h.sb h.bB f,h.bB⟩
 ·rw [hs.row]
  simp
 ·rcases f.own g e with e1 | e1
  ·exact h.x1 g hg e1
  ·have:=(h.sa.kk g hg).2.1;omega
 ·rcases f.own g e with e1 | e1
  ·exact h.x2 g hg e1
  ·have:=(own_typ h.sa.hq g hg).2.1;omega
 ·rcases hq with e1 | e1
  ·rw [e1] at hg
   exact h.x3 g hg e
  ·have:=(h.sa.kk g e).2.1
   have:=e1 g hg
   omega
theorem Nt.step (h:Nt base W B m n qa la ga qb lb gb) (hb:Below W.heap.size W W'):Nt base W' B m n qa la ga qb lb gb :=
 ⟨h.sa.below hb,h.sb.below hb,h.x1,h.x2,h.x3,h.lo.step (hb.mono h.sa.bs),h.bB⟩
theorem Nt.setC (h:Nt base W B m n qa la ga qb lb gb) (n' bad un:Int) (hr:W'.heap[B]?=some (.cells (slC m.a.p qa la m.a.df ga ++ slC m.b.p qb lb m.b.df gb ++ nwC n' bad un).toArray 63)) (hs:∀ k,k≠B→W'.heap[k]?=W.heap[k]?) (hb:Below base W W'):Nt base W' B ⟨m.a,m.b,bad,un⟩ n' qa la ga qb lb gb:=by
 have nB:∀ (g:Nat) (cur:Array Value) (T:TypeId),T≠63→W.heap[g]?=some (.cells cur T)→W'.heap[g]?=W.heap[g]?:=fun g cur T hT hg=>hs g (typ_ne hg h.sb.row hT)
 exact ⟨⟨by rw [hr];simp,own_blk h.sa.hq fun g cur _ hg=>nB g cur _ (by decide) hg,h.sa.hl.keep fun g cur _ _ hg=>nB g cur _ (by decide) hg,own_blk h.sa.hg fun g cur _ hg=>nB g cur _ (by decide) hg,h.sa.ap,h.sa.le,Nat.le_trans h.sa.bs hb.size⟩,
  ⟨by rw [hr],own_blk h.sb.hq fun g cur _ hg=>nB g cur _ (by decide) hg,h.sb.hl.keep fun g cur _ _ hg=>nB g cur _ (by decide) hg,own_blk h.sb.hg fun g cur _ hg=>nB g cur _ (by decide) hg,h.sb.ap,h.sb.le,Nat.le_trans h.sb.bs hb.size⟩,h.x1,h.x2,h.x3,h.lo.step hb,h.bB⟩
theorem Nt.rowW (h:Nt base W B m n qa la ga qb lb gb):W.heap[B]?=some (.cells (slC m.a.p qa la m.a.df ga ++ slC m.b.p qb lb m.b.df gb ++ nwC n m.bad m.un).toArray 63):=h.sb.row
theorem Nt.kk (h:Nt base W B m n qa la ga qb lb gb) (g:Nat) (hg:K4 la ga lb gb g):base≤g∧g<W.heap.size∧g≠B:=hg.elim (h.sa.kk g) (h.sb.kk g)
theorem Nt.typ (h:Nt base W B m n qa la ga qb lb gb) (g:Nat) (hg:K4 la ga lb gb g):∃ cur,W.heap[g]?=some (.cells cur 9)∨W.heap[g]?=some (.cells cur 82):=by
 rcases hg with (e | e) | (e | e)
 ·obtain ⟨_,_,_,c,h2⟩:=h.sa.wr.ownB g e
  exact ⟨c,Or.inr h2⟩
 ·obtain ⟨_,_,c,h2⟩:=own_typ h.sa.hg g e
  exact ⟨c,Or.inl h2⟩
 ·obtain ⟨_,_,_,c,h2⟩:=h.sb.wr.ownB g e
  exact ⟨c,Or.inr h2⟩
 ·obtain ⟨_,_,c,h2⟩:=own_typ h.sb.hg g e
  exact ⟨c,Or.inl h2⟩
end
section
variable {base:Nat} {W W':World} {B l:Nat} {m:Nw} {n:Int} {K K':Nat→Prop}
theorem MN.kk (h:MN base B m n W K) (g:Nat) (hg:K g):base≤g∧g<W.heap.size∧g≠B∧∃ cur,W.heap[g]?=some (.cells cur 9)∨W.heap[g]?=some (.cells cur 82):=by
 obtain ⟨qa,la,ga,qb,lb,gb,h,rfl⟩:=h
 exact ⟨(h.kk g hg).1,(h.kk g hg).2.1,(h.kk g hg).2.2,h.typ g hg⟩
theorem MN.row (h:MN base B m n W K):∃ c,W.heap[B]?=some (.cells c 63):=by
 obtain ⟨qa,la,ga,qb,lb,gb,h,rfl⟩:=h
 exact ⟨_,h.sb.row⟩
theorem MN.lo (h:MN base B m n W K):Lt base W:=by
 obtain ⟨qa,la,ga,qb,lb,gb,h,rfl⟩:=h
 exact h.lo
theorem MN.bB (h:MN base B m n W K):base≤B:=by
 obtain ⟨qa,la,ga,qb,lb,gb,h,rfl⟩:=h
 exact h.bB
theorem MN.step (h:MN base B m n W K) (hb:Below W.heap.size W W'):MN base B m n W' K:=by
 obtain ⟨qa,la,ga,qb,lb,gb,h,rfl⟩:=h
 exact ⟨_,_,_,_,_,_,h.step hb,rfl⟩
theorem MN.no (h:MN base B m n W K) {g:Nat} {o:Obj} (hg:W.heap[g]?=some o) (ho:∀ c T,o=.cells c T→T≠9∧T≠82):¬ K g:=fun e=>by
 obtain ⟨_,_,_,c,h2 | h2⟩:=h.kk g e
 ·rw [hg] at h2
  injection h2 with h2
  exact (ho _ _ h2).1 rfl
 ·rw [hg] at h2
  injection h2 with h2
  exact (ho _ _ h2).2 rfl
theorem MN.noB (h:MN base B m n W K) {g:Nat} {o:Obj} (hg:W.heap[g]?=some o) (ho:∀ c T,o=.cells c T→T≠63):g≠B:=fun e=>by
 obtain ⟨c,h2⟩:=h.row
 rw [e,h2] at hg
 injection hg with hg
 exact ho _ _ hg.symm rfl
theorem MN.keepT (h:MN base B m n W K) (f:Fz (fun k=>k=B∨k=l) K K' W W') (g:Nat) (cur:Array Value) (T:TypeId) (t1:T≠63) (t2:T≠9) (t3:T≠82) (hl:g≠l) (hg:W.heap[g]?=some (.cells cur T)):W'.heap[g]?=some (.cells cur T):=by
 refine (f.same g (Array.getElem?_eq_some_iff.1 hg).1 (fun e=>e.elim (fun e1=>h.noB hg (fun c T' e2=>by injection e2 with _ e3;rw [← e3];exact t1) e1) hl) (h.no hg fun c T' e2=>?_)).trans hg
 injection e2 with _ e3
 rw [← e3]
 exact ⟨t2,t3⟩
theorem Fz.all (f:Fz (fun k=>k=B∨k=l) K K' W W') (hl:W.heap.size≤l):Fz (fun k=>k=B) K K' W W' :=
 ⟨f.os,f.tape,f.output,f.size,fun k hk h1 h2=>f.same k hk (fun e=>e.elim h1 (by omega)) h2,f.own⟩
theorem Fz.two (f:Fz (fun k=>k=B) K K' W W'):Fz (fun k=>k=B∨k=l) K K' W W':=f.mono fun _ e=>Or.inl e
theorem MN.put (h:MN base B m n W K) {o0:Obj} (hl:W.heap[l]?=some o0) (ho:o0.isCells=false) (hb:base≤l) (o:Obj):MN base B m n (W.putObj l o) K:=by
 obtain ⟨qa,la,ga,qb,lb,gb,h,rfl⟩:=h
 have ne:∀ (g:Nat) (cur:Array Value) (T:TypeId),W.heap[g]?=some (.cells cur T)→(W.putObj l o).heap[g]?=W.heap[g]?:=fun g cur T hg=>World.putObj_heap_other fun e=>by rw [e,hl] at hg;cases hg;cases ho
 have hz:(W.putObj l o).heap.size=W.heap.size:=World.putObj_size
 refine ⟨qa,la,ga,qb,lb,gb,⟨⟨(ne _ _ _ h.sa.row).trans h.sa.row,own_blk h.sa.hq fun g cur _ hg=>ne g cur _ hg,h.sa.hl.keep fun g cur _ _ hg=>ne g cur _ hg,own_blk h.sa.hg fun g cur _ hg=>ne g cur _ hg,h.sa.ap,h.sa.le,by rw [hz];exact h.sa.bs⟩,
  ⟨(ne _ _ _ h.sb.row).trans h.sb.row,own_blk h.sb.hq fun g cur _ hg=>ne g cur _ hg,h.sb.hl.keep fun g cur _ _ hg=>ne g cur _ hg,own_blk h.sb.hg fun g cur _ hg=>ne g cur _ hg,h.sb.ap,h.sb.le,by rw [hz];exact h.sb.bs⟩,h.x1,h.x2,h.x3,h.lo.step ⟨rfl,rfl,rfl,by rw [hz];exact Nat.le_refl _,fun k hk=>World.putObj_heap_other (by omega)⟩,h.bB⟩,rfl⟩
theorem Fz.keepsN (h:MN base B m n W K) (f:Fz (fun k=>k=B) K K' W W') (c:Nat):KeepsFrom c W W':=by
 exact ⟨f.size,fun k o _ hk ho=>(f.same k (Array.getElem?_eq_some_iff.1 hk).1 (h.noB hk fun c T e=>by rw [e] at ho;cases ho) (h.no hk fun c T e=>by rw [e] at ho;cases ho)).trans hk⟩
theorem below_keeps9 {n:Nat} {W W':World} (h:Below W.heap.size W W'):KeepsFrom n W W':=⟨h.size,fun k _ _ hk _=>(h.block k (Array.getElem?_eq_some_iff.1 hk).1).trans hk⟩
end
end Go.Proofs.YtkcghhkkepndnaaGreatDoor
namespace Go.Proofs.YtkcghhkkepndnaaGreatDoor
open Go.RowKit
section
variable {base:Nat} {W W':World} {B:Nat} {m:Nw} {n:Int} {K K':Nat→Prop}
theorem MN.cnt (h:MN base B m n W K):W.cell? ⟨B,28,none⟩=some (.int .i64 n)∧W.cell? ⟨B,29,none⟩=some (.int .i64 m.bad)∧W.cell? ⟨B,30,none⟩=some (.int .i64 m.un):=by
 obtain ⟨qa,la,ga,qb,lb,gb,h,rfl⟩:=h
 have r:=h.rowW
 exact ⟨by rw [cr r];rfl,by rw [cr r];rfl,by rw [cr r];rfl⟩
theorem MN.frz (h:MN base B m n W K) (o:Nat):W.frozen? ⟨B,o,none⟩=false:=by
 obtain ⟨c,r⟩:=h.row
 exact Go.Proofs.YtkcghhkkepndnaaGreatDoor.frz r o
theorem MN.setX (h:MN base B m n W K) (o:Nat) (v:Int) (n' bad un:Int) (e:∀ p vq vl d vg p' vq' vl' d' vg',(slC p vq vl d vg ++ slC p' vq' vl' d' vg' ++ nwC n m.bad m.un).toArray.setIfInBounds o (.int .i64 v)=(slC p vq vl d vg ++ slC p' vq' vl' d' vg' ++ nwC n' bad un).toArray) :
  MN base B ⟨m.a,m.b,bad,un⟩ n' (W.setCell ⟨B,o,none⟩ (.int .i64 v)) K∧Fz (fun k=>k=B) K K W (W.setCell ⟨B,o,none⟩ (.int .i64 v)):=by
 obtain ⟨qa,la,ga,qb,lb,gb,h,rfl⟩:=h
 have r:=heap_setCell_same W B o _ _ (.int .i64 v) h.rowW
 rw [e] at r
 have hb:=(Below.refl base W).setCell (p:=⟨B,o,none⟩) h.bB (.int .i64 v)
 have ot:∀ k,k≠B→(W.setCell ⟨B,o,none⟩ (.int .i64 v)).heap[k]?=W.heap[k]?:=fun k hk=>heap_setCell_other _ _ _ _ hk
 exact ⟨⟨_,_,_,_,_,_,h.setC n' bad un r ot hb,rfl⟩,hb.os,hb.tape,hb.output,hb.size,fun k _ h1 _=>ot k h1,fun _ hg=>Or.inl hg⟩
theorem MN.setN (h:MN base B m n W K) (v:Int):MN base B m v (W.setCell ⟨B,28,none⟩ (.int .i64 v)) K∧Fz (fun k=>k=B) K K W (W.setCell ⟨B,28,none⟩ (.int .i64 v)):=h.setX 28 v v m.bad m.un fun _ _ _ _ _ _ _ _ _ _=>rfl
theorem MN.setBad (h:MN base B m n W K) (v:Int):MN base B ⟨m.a,m.b,v,m.un⟩ n (W.setCell ⟨B,29,none⟩ (.int .i64 v)) K∧Fz (fun k=>k=B) K K W (W.setCell ⟨B,29,none⟩ (.int .i64 v)):=h.setX 29 v n v m.un fun _ _ _ _ _ _ _ _ _ _=>rfl
theorem MN.setUn (h:MN base B m n W K) (v:Int):MN base B ⟨m.a,m.b,m.bad,v⟩ n (W.setCell ⟨B,30,none⟩ (.int .i64 v)) K∧Fz (fun k=>k=B) K K W (W.setCell ⟨B,30,none⟩ (.int .i64 v)):=h.setX 30 v n m.bad v fun _ _ _ _ _ _ _ _ _ _=>rfl
theorem iFindB (h:MN base B m n W K) (hd:DmOk m.b.df) {t:ByteArray} (ht:t.size≤411):Calls Tryz.prog 67 #[.pointer (some ⟨B,14,none⟩),.string t] W fun e W'=>∃ v,e=.returned v∧HoldsF W' v (ansD m.b.df t).F∧(∀ g,v.ownBlock=some g→W.heap.size≤g)∧MN base B ⟨m.a,dfN m.b t,m.bad,m.un⟩ n W' K∧Fz (fun k=>k=B) K K W W':=by
 obtain ⟨qa,la,ga,qb,lb,gb,h,rfl⟩:=h
 refine (iFindN h.sb h.lo hd ht).mono ?_
 rintro e W' ⟨v,rfl,h1,h2,h3,h4⟩
 exact ⟨v,rfl,h1,h2,⟨_,_,_,_,_,_,h.setB h3 h4 (Or.inl rfl),rfl⟩,h4.wide' (K2 la ga)⟩
theorem iFindA (h:MN base B m n W K) (hd:DmOk m.a.df) {t:ByteArray} (ht:t.size≤411):Calls Tryz.prog 67 #[.pointer (some ⟨B,0,none⟩),.string t] W fun e W'=>∃ v,e=.returned v∧HoldsF W' v (ansD m.a.df t).F∧(∀ g,v.ownBlock=some g→W.heap.size≤g)∧MN base B ⟨dfN m.a t,m.b,m.bad,m.un⟩ n W' K∧Fz (fun k=>k=B) K K W W':=by
 obtain ⟨qa,la,ga,qb,lb,gb,h,rfl⟩:=h
 refine (iFindN h.sa h.lo hd ht).mono ?_
 rintro e W' ⟨v,rfl,h1,h2,h3,h4⟩
 exact ⟨v,rfl,h1,h2,⟨_,_,_,_,_,_,h.setA h3 h4 (Or.inl rfl),rfl⟩,h4.wide (K2 lb gb)⟩
theorem iHearB (h:MN base B m n W K) (hG:m.b.gt.length≤1000000) (hp:m.b.Q.length≤1048576) {t:ByteArray} (ht:t.size≤8000):Calls Tryz.prog 68 #[.pointer (some ⟨B,14,none⟩),.string t] W fun e W'=>e=.returned (.tuple #[])∧∃ K',MN base B ⟨m.a,hearN m.b t,m.bad,m.un⟩ n W' K'∧Fz (fun k=>k=B) K K' W W':=by
 obtain ⟨qa,la,ga,qb,lb,gb,h,rfl⟩:=h
 refine (iHearN h.sb h.lo h.bB hG hp ht).mono ?_
 rintro e W' ⟨rfl,vq',vl',vg',h3,h4,h5⟩
 exact ⟨rfl,_,⟨_,_,_,_,_,_,h.setB h3 h4 h5,rfl⟩,h4.wide' (K2 la ga)⟩
theorem iHearA (h:MN base B m n W K) (hG:m.a.gt.length≤1000000) (hp:m.a.Q.length≤1048576) {t:ByteArray} (ht:t.size≤8000):Calls Tryz.prog 68 #[.pointer (some ⟨B,0,none⟩),.string t] W fun e W'=>e=.returned (.tuple #[])∧∃ K',MN base B ⟨hearN m.a t,m.b,m.bad,m.un⟩ n W' K'∧Fz (fun k=>k=B) K K' W W':=by
 obtain ⟨qa,la,ga,qb,lb,gb,h,rfl⟩:=h
 refine (iHearN h.sa h.lo h.bB hG hp ht).mono ?_
 rintro e W' ⟨rfl,vq',vl',vg',h3,h4,h5⟩
 exact ⟨rfl,_,⟨_,_,_,_,_,_,h.setA h3 h4 h5,rfl⟩,h4.wide (K2 lb gb)⟩
end
end Go.Proofs.YtkcghhkkepndnaaGreatDoor
namespace Go.Proofs.YtkcghhkkepndnaaGreatDoor
open Go.RowKit Go.Shelf
attribute [local go_sem] Oper.semAt_some
theorem cmB_ln (m:Nw):∀ i,i≤m.a.ln.length→(timesN cmB i m).a.ln=m.a.ln.drop i
 | 0,_=>rfl
 | i+1,hi=>by
  have h1:=cmB_ln m i (by omega)
  have h3:m.a.ln.drop i=m.a.ln[i] :: m.a.ln.drop (i+1):=List.drop_eq_getElem_cons (by omega)
  rw [h3] at h1
  show (cmB (timesN cmB i m)).a.ln=_
  generalize timesN cmB i m=u at *
  unfold cmB
  rw [h1]
  rfl
theorem cmA_ln (m:Nw):∀ i,i≤m.b.ln.length→(timesN cmA i m).b.ln=m.b.ln.drop i
 | 0,_=>rfl
 | i+1,hi=>by
  have h1:=cmA_ln m i (by omega)
  have h3:m.b.ln.drop i=m.b.ln[i] :: m.b.ln.drop (i+1):=List.drop_eq_getElem_cons (by omega)
  rw [h3] at h1
  show (cmA (timesN cmA i m)).b.ln=_
  generalize timesN cmA i m=u at *
  unfold cmA
  rw [h1]
  rfl
theorem cmB_at {u:Nw} {f:Sf} {r:List Sf} (e:u.a.ln=f :: r):cmB u=⟨lnN u.a r,(tookN f u.b u.bad u.un).s,(tookN f u.b u.bad u.un).bad,(tookN f u.b u.bad u.un).un⟩:=by
 unfold cmB
 rw [e]
theorem cmA_at {u:Nw} {f:Sf} {r:List Sf} (e:u.b.ln=f :: r):cmA u=⟨(tookN f u.a u.bad u.un).s,lnN u.b r,(tookN f u.a u.bad u.un).bad,(tookN f u.a u.bad u.un).un⟩:=by
 unfold cmA
 rw [e]
theorem ansD_txt {d:Dm} (h:DmOk d) {t:ByteArray}:∀ f ∈ (ansD d t).F,f.text.length≤304:=by
 unfold ansD ansOf
 split
 ·have h':rightV d.x d.inn d.esc d.long d.tx=true:=h
  rw [if_pos h']
  intro f hf
  have hr:Hd.Right ⟨d.inn,d.esc,d.long,d.tx.data.toList⟩:=by
   unfold DmOk rightV at h
   simp only [Bool.and_eq_true,decide_eq_true_eq,Bool.or_eq_true,Bool.not_eq_true'] at h
   obtain ⟨h1,h2,h3⟩:=h
   refine ⟨by show d.tx.data.toList.length≤304;rw [Array.length_toList];exact h2,fun hi=>?_⟩
   rcases h3 with h3 | ⟨h3,h4,h5⟩
   ·rw [show d.inn=false from hi] at h3
    cases h3
   ·refine ⟨h3,h4,List.eq_nil_of_length_eq_zero ?_⟩
    show d.tx.data.toList.length=0
    rw [Array.length_toList]
    exact h5
  exact finds_txt _ _ _ _ hr f (List.mem_of_mem_take hf)
 ·intro f hf
  cases hf
theorem fd_at {W:World} {g i:Nat} {L:List Hd.Fd} {cur:Array Value} (h:W.heap[g]?=some (.cells cur 113)) (hc:∀ j,j<L.length*2→cur[j]?=(fcells L)[j]?) (hi:i<L.length):W.cell? ⟨g,i*2,none⟩=some (.int .i64 (L[i].kind:Int))∧W.cell? ⟨g,i*2+1,none⟩=some (.string (txt L[i].text)):=by
 obtain ⟨k0,k1⟩:=fcells_get L i L[i] (List.getElem?_eq_getElem hi)
 exact ⟨by rw [cr h,hc _ (by omega)];exact k0,by rw [cr h,hc _ (by omega)];exact k1⟩
theorem take1_no {tx:ByteArray} {x:Tk} {d:Hd.Fd} (h:¬ d.kind=1):take1 tx x d=⟨x.s,x.bad+1,x.un,x.good⟩:=if_neg h
theorem take1_un {tx:ByteArray} {x:Tk} {d:Hd.Fd} (h:d.kind=1) (h2:0<x.good∨txt d.text≠tx):take1 tx x d=⟨hearN x.s (txt d.text),x.bad,x.un+1,x.good+1⟩:=by
 unfold take1
 rw [if_pos h,if_pos h2]
theorem take1_ok1 {tx:ByteArray} {x:Tk} {d:Hd.Fd} (h:d.kind=1) (h2:¬ (0<x.good∨txt d.text≠tx)):take1 tx x d=⟨hearN x.s (txt d.text),x.bad,x.un,x.good+1⟩:=by
 unfold take1
 rw [if_pos h,if_neg h2]
theorem wrap_i (x:Int) (h0:0≤x) (h1:x≤1000000000):IntKind.i64.wrap (x+1)=x+1:=by
 simp only [IntKind.wrap,IntKind.bits,IntKind.signed]
 simp
 omega
set_option maxHeartbeats 16000000 in
set_option maxRecDepth 100000 in
theorem iTakeB {base:Nat} {W:World} {B:Nat} {m:Nw} {n:Int} {K:Nat→Prop} (h:MN base B m n W K) {na nb c:Nat} (ok:NwOk na nb c m) (hnb:nb≤990000) (hcc:c≤100000000) {C1 C2 cnt:Nat} (b1:W.heap[C1]?=some (.cells #[.int .i64 (cnt:Int)] 3)) (b2:W.heap[C2]?=some (.cells #[.pointer (some ⟨B,6,none⟩)] 108)) :
  Calls Tryz.prog 47 #[.pointer (some ⟨B,0,none⟩),.func (.func 89) #[] #[.pointer (some ⟨C1,0,none⟩),.pointer (some ⟨C2,0,none⟩)],.pointer (some ⟨B,14,none⟩)] W fun e W'=>e=.returned (.tuple #[])∧∃ K',MN base B (timesN cmB (min cnt m.a.ln.length) m) n W' K'∧Fz (fun k=>k=B) K K' W W':=by
 have hbW:Below W.heap.size W ((W.alloc (.cells #[.pointer (some ⟨B,0,none⟩)] 50)).alloc (.cells #[.pointer (some ⟨B,14,none⟩)] 88)):=((Below.refl _ _).alloc (Nat.le_refl _) _).alloc (by simp) _
 have s2:=heap_alloc_new (W.alloc (.cells #[.pointer (some ⟨B,0,none⟩)] 50)) (.cells #[.pointer (some ⟨B,14,none⟩)] 88)
 rw [World.size_alloc] at s2
 have s1:=(Below.heap_alloc (W.alloc (.cells #[.pointer (some ⟨B,0,none⟩)] 50)) (.cells #[.pointer (some ⟨B,14,none⟩)] 88) W.heap.size (by simp)).trans (heap_alloc_new W (.cells #[.pointer (some ⟨B,0,none⟩)] 50))
 have hM2:=h.step hbW
 have b1':=(hbW.block C1 (Array.getElem?_eq_some_iff.1 b1).1).trans b1
 have b2':=(hbW.block C2 (Array.getElem?_eq_some_iff.1 b2).1).trans b2
 clear b1 b2 h
 refine (callsIn_wide (n:=3)).1 ?_
 refine callsIn_of_wp_marks Tryz.func47 rfl trivial ?_ rfl
 simp only [Tryz.ntmps47,List.size_toArray,List.length_cons,List.length_nil,Nat.reduceAdd,Nat.reduceSub,Array.replicate_succ,Array.replicate_zero,List.push_toArray,List.append_toArray,List.nil_append,List.cons_append]
 gi_wp2
 generalize hWW:(W.alloc (.cells #[.pointer (some ⟨B,0,none⟩)] 50)).alloc (.cells #[.pointer (some ⟨B,14,none⟩)] 88)=W2 at *
 generalize hs1:W.heap.size=S1 at *
 have hle:base≤W2.heap.size:=hM2.lo.le
 refine wp_range (gf:=89) (lb:=#[.pointer (some ⟨C1,0,none⟩),.pointer (some ⟨C2,0,none⟩)]) rfl (enters_of Tryz.func89 (by kernel_rfl) rfl) (J:=fun y=>∃ K',MN base B (timesN cmB (min cnt m.a.ln.length) m) n y K'∧Fz (fun k=>k=B) K K' W2 y) ?st ?it ?dn
 case st =>
  rintro V l r o hl hV ⟨K',hM',hf⟩
  exact ⟨K',hM'.put hV rfl (Nat.le_trans hle hl) _,((hf.two (l:=l)).put (Or.inr rfl) _).all hl⟩
 case dn =>
  rintro D y hD ⟨K',hM',hf⟩ hdf
  have hfin:Hid (∃ K',MN base B (timesN cmB (min cnt m.a.ln.length) m) n (y.putObj D (.deferred none)) K'∧Fz (fun k=>k=B) K K' W (y.putObj D (.deferred none))):=hide (by
   refine ⟨K',hM'.put hdf rfl (Nat.le_trans hle hD) _,?_⟩
   have h1:=((hf.two (l:=D)).put (Or.inr rfl) (.deferred none)).all hD
   rw [← hs1] at hbW
   exact (Fz.of_below hbW).trans h1)
  clear hM' hf
  gi_wp2
  refine ⟨by simp,.inl ⟨_,_,rfl,run_takeDeferred hdf,?_⟩⟩
  exact ⟨_,results_none rfl _ _ _,rfl,uh hfin⟩
 case it =>
  intro fn l D W1 R hR hl hD hb1 hz1 hrec
  have kp:∀ (g:Nat) (x:Value) (T:TypeId),T≠63→T≠9→T≠82→W2.heap[g]?=some (.cells #[x] T)→∀ y K',Fz (fun k=>k=B∨k=l) K K' W2 y→y.heap[g]?=some (.cells #[x] T):=fun g x T t1 t2 t3 hg y K' hf =>
   hM2.keepT hf g _ T t1 t2 t3 (by have:=(Array.getElem?_eq_some_iff.1 hg).1;omega) hg
  refine CallsIn.mono (iCome1 (base:=base) (T:=63) (l:=l) (B:=B) (k:=6) (C1:=C1) (C2:=C2) (m0:=m.a.ln.length) (cnt:=cnt) (W:=W1) (n:=2) (by omega) (fun i y=>i≤m.a.ln.length∧RecAt l R D .ready y∧∃ K',MN base B (timesN cmB i m) n y K'∧Fz (fun k=>k=B∨k=l) K K' W2 y) ?hI ?hdr ?h0) ?fin
  case fin =>
   rintro e y ⟨hv,_,hr,K',h1,h2⟩
   exact ⟨hv,⟨K',h1,h2.all hl⟩,hr⟩
  case h0=>exact ⟨Nat.zero_le _,hrec,K,hM2.step hb1,Fz.of_below hb1⟩
  case hdr =>
   rintro i y ⟨h1,h2,K',hM',hf⟩
   exact ⟨h1,⟨h2.lp,h2.df⟩,K',hM'.step (Below.refl _ _).drew,hf.trans (Fz.of_below (Below.refl _ _).drew)⟩
  case hI =>
   rintro i y ⟨hi,hr,K',hM',hf⟩
   have hln:=cmB_ln m i hi
   have hok:=timesB_ok i ok
   obtain ⟨qa,la,ga,qb,lb,gb,hN',hKe⟩:=id hM'
   refine ⟨kp C1 _ _ (by decide) (by decide) (by decide) b1' y K' hf,kp C2 _ _ (by decide) (by decide) (by decide) b2' y K' hf,[] ++ (lpC (timesN cmB i m).a.p qa).toList,_,la,(timesN cmB i m).a.ln,rfl,hN'.sa.wr,by rw [hln,List.length_drop];omega,?_⟩
   intro f r z v2 eL hWz hfz
   subst hR
   have h1q:i+1≤m.a.ln.length:=by
    have:=congrArg List.length hln
    rw [eL,List.length_drop,List.length_cons] at this
    omega
   have hfok:SfOk f:=hok.a.f f (by rw [eL];exact List.mem_cons_self ..)
   have hst:timesN cmB (i+1) m=⟨lnN (timesN cmB i m).a r,(tookN f (timesN cmB i m).b (timesN cmB i m).bad (timesN cmB i m).un).s,(tookN f (timesN cmB i m).b (timesN cmB i m).bad (timesN cmB i m).un).bad,(tookN f (timesN cmB i m).b (timesN cmB i m).bad (timesN cmB i m).un).un⟩:=cmB_at eL
   have hfz2:=Fz.line ga hfz
   have hNz:=hN'.setA (hN'.sa.setLine hfz hWz) hfz2 (Or.inl rfl)
   have hMz:MN base B ⟨lnN (timesN cmB i m).a r,(timesN cmB i m).b,(timesN cmB i m).bad,(timesN cmB i m).un⟩ n z (K4 v2 ga lb gb):=⟨_,_,_,_,_,_,hNz,rfl⟩
   have hfw:Fz (fun k=>k=B) K' (K4 v2 ga lb gb) y z:=by
    rw [hKe]
    exact hfz2.wide (K2 lb gb)
   have hrz:RecAt l _ D .ready z:=hr.keep (hfw.keepsN hM' W2.heap.size) hl hD
   have hfZ:Fz (fun k=>k=B∨k=l) K (K4 v2 ga lb gb) W2 z:=hf.trans hfw.two
   generalize timesN cmB (i+1) m=mi1 at *
   generalize timesN cmB i m=mi at *
   generalize K4 v2 ga lb gb=Kz at *
   clear hN' hKe hfz hWz hfz2 hNz hM' hf hr hfw
   refine YieldAt.mono (yield_of (B:=W2.heap.size) (J:=fun y'=>i+1≤m.a.ln.length∧∃ K3,MN base B mi1 n y' K3∧Fz (fun k=>k=B∨k=l) K K3 W2 y') hrz rfl hl hD ?hJ ?wk) ?mo
   case mo =>
    rintro e z' ⟨rfl,⟨h1,h2⟩,h3⟩
    exact ⟨rfl,h1,h3,h2⟩
   case hJ =>
    rintro V r' o hV ⟨h1,K3,hM3,hf3⟩
    exact ⟨h1,K3,hM3.put hV rfl (Nat.le_trans hle hl) _,hf3.put (Or.inr rfl) _⟩
   case wk =>
    have hb4:Below z.heap.size z (z.alloc (.cells #[.string f.text,.string f.bytes] 82)):=(Below.refl _ _).alloc (Nat.le_refl _) _
    have hN4:=heap_alloc_new z (.cells #[.string f.text,.string f.bytes] 82)
    have hlz:l<z.heap.size:=(Array.getElem?_eq_some_iff.1 hrz.lp).1
    have hl4:=(hb4.block l hlz).trans hrz.lp
    have HH:Hid (∀ o:Obj,MN base B ⟨lnN mi.a r,mi.b,mi.bad,mi.un⟩ n ((z.alloc (.cells #[.string f.text,.string f.bytes] 82)).putObj l o) Kz∧Fz (fun k=>k=B∨k=l) K Kz W2 ((z.alloc (.cells #[.string f.text,.string f.bytes] 82)).putObj l o)∧((z.alloc (.cells #[.string f.text,.string f.bytes] 82)).putObj l o).heap[z.heap.size]?=some (.cells #[.string f.text,.string f.bytes] 82)∧∀ g,Kz g→g<z.heap.size):=hide fun o =>
     ⟨(hMz.step hb4).put hl4 rfl (Nat.le_trans hle hl) o,(hfZ.trans (Fz.of_below hb4)).put (Or.inr rfl) o,(World.putObj_heap_other (by omega)).trans hN4,fun g hg=>(hMz.kk g hg).2.1⟩
    have HK9:Hid (KeepsFrom W2.heap.size z (z.alloc (.cells #[.string f.text,.string f.bytes] 82))):=hide (below_keeps9 hb4)
    have HS1:=hide (kp S1 _ _ (by decide) (by decide) (by decide) s1)
    have HS2:=hide (kp (S1+1) _ _ (by decide) (by decide) (by decide) s2)
    have HST:=hide hst
    have HLN:=hide hln
    clear hb4 hN4 hl4 hst hMz hfZ hrz hrec kp hM2 hb1 b1' b2' s1 s2 hbW hWW hz1 hln eL
    gi_wp2
    refine ⟨uh HK9,?_⟩
    intro W3 hW3 hr3
    obtain ⟨hM3,hf3,hN3,hown⟩:=uh HH (.loop (recOf fn _ _ _ _ D .busy))
    rw [← hW3] at hM3 hf3 hN3
    clear HH HK9 hW3 hr3
    have g1:=cell1L (uh HS1 _ _ hf3)
    have g2:=cell1L (uh HS2 _ _ hf3)
    have x1:W3.cell? ⟨z.heap.size,1,none⟩=some (.string f.bytes):=by rw [cr hN3];rfl
    generalize z.heap.size=N at *
    gi_wp2
    refine ⟨trivial,?_⟩
    have hil:i≤40:=Nat.le_trans hi ok.a.l
    refine CallsIn.mono (CallsIn.inRound l (callsIn_wide.2 (iFindB hM3 hok.b.d hfok.c))) ?_
    rintro e w4 ⟨v4,rfl,hv4,ho4,hm4,hf4⟩
    have hFl:(ansD mi.b.df f.bytes).F.length≤206:=ansD_F hfok.c
    have hFt:=ansD_txt (d:=mi.b.df) hok.b.d (t:=f.bytes)
    have htk:TkOk (nb+206*i) (c+206*i) ⟨dfN mi.b f.bytes,mi.bad,mi.un,0⟩:=⟨df_ok hok.b hfok.c,hok.bd,hok.un⟩
    unfold tookN at HST
    generalize hFF:(ansD mi.b.df f.bytes).F=F at *
    obtain ⟨x0,hx0⟩:∃ x0:Tk,(⟨dfN mi.b f.bytes,mi.bad,mi.un,0⟩:Tk)=x0:=⟨_,rfl⟩
    have hm4':MN base B ⟨lnN mi.a r,x0.s,x0.bad,x0.un⟩ n w4 Kz:=by rw [← hx0];exact hm4
    have hg0:x0.good=0:=by rw [← hx0]
    rw [hx0] at HST htk
    obtain ⟨va,vc,rfl⟩:=hv4.form
    have KEEP:Hid (∀ y K',Fz (fun k=>k=B) Kz K' w4 y→y.cell? ⟨S1,0,none⟩=some (.pointer (some ⟨B,0,none⟩))∧y.cell? ⟨S1+1,0,none⟩=some (.pointer (some ⟨B,14,none⟩))∧y.cell? ⟨N,0,none⟩=some (.string f.text)∧HoldsF y (.slice va F.length vc) F∧KeepsFrom W2.heap.size W3 y∧Fz (fun k=>k=B∨k=l) K K' W2 y):=hide fun y K' hy=>by
     have h3:=hf4.trans hy
     have hall:=hf3.trans h3.two
     have hNy:y.heap[N]?=some (.cells #[.string f.text,.string f.bytes] 82):=(h3.same N (Array.getElem?_eq_some_iff.1 hN3).1 (hM3.noB hN3 fun c T e=>by injection e with _ e2;rw [← e2];decide) (fun e=>by have:=hown N e;omega)).trans hN3
     refine ⟨cell1L (uh HS1 _ _ hall),cell1L (uh HS2 _ _ hall),by rw [cr hNy];rfl,?_,h3.keepsN hM3 _,hall⟩
     rcases hv4 with ⟨ad,cp,e1,e2⟩ | ⟨g',cp,cur,e1,e2,e3⟩
     ·exact Or.inl ⟨ad,cp,e1,e2⟩
     ·refine Or.inr ⟨g',cp,cur,e1,(hy.same g' (Array.getElem?_eq_some_iff.1 e2).1 (typ_ne e2 (Classical.choose_spec hm4.row) (by decide)) (fun e=>?_)).trans e2,e3⟩
      have h5:=ho4 g' (by rw [e1];rfl)
      have:=(hM3.kk g' e).2.1
      omega
    have HM4:=hide hm4'
    have HTK:=hide htk
    have HFT:=hide hFt
    clear hv4 ho4 hm4 hf4 hm4' htk hFt hx0 hFF hM3 hf3 hN3 HS1 HS2 g1 g2 x1 hown
    generalize hq:F.length=q at *
    gi_wp2
    gi_loopw [7,17] (fun gd p wr=>∃ j:Nat,j≤q∧p=.int .i64 j∧gd=.int .i64 (((F.take j).foldl (take1 f.text) x0).good:Int)∧∃ K',MN base B ⟨lnN mi.a r,((F.take j).foldl (take1 f.text) x0).s,((F.take j).foldl (take1 f.text) x0).bad,((F.take j).foldl (take1 f.text) x0).un⟩ n wr K'∧Fz (fun k=>k=B) Kz K' w4 wr) (fun _ p _=>q - (intOf p).toNat)
    case atStart=>exact ⟨0,Nat.zero_le _,rfl,by show _=Value.int .i64 (x0.good:Int);rw [hg0];rfl,Kz,uh HM4,Fz.refl _ _ _⟩
    case round =>
     obtain ⟨j,hj,rfl,rfl,K9,hM9,hf9⟩:=hrel
     by_cases hlt:j<q
     ·have d1:(j:Int)<(q:Int):=by omega
      have hjF:j<F.length:=by omega
      have HST2:Hid ((F.take (j+1)).foldl (take1 f.text) x0=take1 f.text ((F.take j).foldl (take1 f.text) x0) F[j]):=hide (by
       rw [← List.take_append_getElem hjF,List.foldl_append]
       rfl)
      have hdt:F[j].text.length≤304:=uh HFT _ (List.getElem_mem hjF)
      have htj:TkOk (nb+206*i+206) (c+206*i+206) ((F.take j).foldl (take1 f.text) x0):=(fold_ok f.text (F.take j) _ _ x0 (uh HTK)).mono (by rw [List.length_take];omega) (by rw [List.length_take];omega)
      have hgj:=fold_good f.text (F.take j) x0
      rw [List.length_take] at hgj
      obtain ⟨k1,k2,k3,k4,_,_⟩:=uh KEEP wr K9 hf9
      obtain ⟨g,eva,cur,q1,q3⟩:∃ g,va=some ⟨g,0,none⟩∧∃ cur,wr.heap[g]?=some (.cells cur 113)∧∀ j,j<F.length*2→cur[j]?=(fcells F)[j]?:=by
       rcases k4 with ⟨ad,cp,e,e2⟩ | ⟨g,cp,cur,e,q1,_,q3⟩
       ·rw [e2] at hq;simp at hq;omega
       ·injection e with e _ _
        exact ⟨g,e,cur,q1,fun j hj=>q3 j (by omega)⟩
      subst eva
      obtain ⟨y0,y1⟩:=fd_at q1 q3 hjF
      have hdk:(txt F[j].text).size≤304:=by rw [txt_size];exact hdt
      obtain ⟨d,hd⟩:∃ d,F[j]=d:=⟨_,rfl⟩
      rw [hd] at HST2 y0 y1 hdk
      obtain ⟨x,hx⟩:∃ x,(F.take j).foldl (take1 f.text) x0=x:=⟨_,rfl⟩
      rw [hx] at HST2 hM9 htj hgj ⊢
      have hbx:=htj.b
      have hux:=htj.u
      have hgx:x.good≤300:=by omega
      obtain ⟨kz,hkz⟩:∃ kz:Int,(d.kind:Int)=kz:=⟨_,rfl⟩
      rw [hkz] at y0
      have hN5:=heap_alloc_new wr (.cells #[.int .i64 kz,.string (txt d.text)] 113)
      have hb5:Below wr.heap.size wr (wr.alloc (.cells #[.int .i64 kz,.string (txt d.text)] 113)):=(Below.refl _ _).alloc (Nat.le_refl _) _
      have hM5:=hM9.step hb5
      obtain ⟨_,cb,cu⟩:=hM5.cnt
      have fb:=hM5.frz 29
      have fu:=hM5.frz 30
      have c3:=(hb5.cell (p:=⟨S1,0,none⟩) (World.block_lt_of_cell? _ _ k1)).trans k1
      have c5:=(hb5.cell (p:=⟨S1+1,0,none⟩) (World.block_lt_of_cell? _ _ k2)).trans k2
      have cN:=(hb5.cell (p:=⟨N,0,none⟩) (World.block_lt_of_cell? _ _ k3)).trans k3
      have c90:(wr.alloc (.cells #[.int .i64 kz,.string (txt d.text)] 113)).cell? ⟨wr.heap.size,0,none⟩=some (.int .i64 kz):=by rw [cr hN5];rfl
      have c91:(wr.alloc (.cells #[.int .i64 kz,.string (txt d.text)] 113)).cell? ⟨wr.heap.size,1,none⟩=some (.string (txt d.text)):=by rw [cr hN5];rfl
      have hf5:=hf9.trans (Fz.of_below hb5)
      have hlp:=htj.s
      have HM5:=hide (And.intro hM5 (And.intro hf5 hlp))
      have HN5:=hide hN5
      clear hM9 hf9 hb5 q1 q3 k1 k2 k3 k4 hd hx hM5 hf5 hgj htj hlp hN5
      have hwb:=wrap_i x.bad hbx.1 (by omega)
      have hwu:=wrap_i x.un hux.1 (by omega)
      have HW:=hide (And.intro hwb hwu)
      clear hwb hwu
      have HKZ:=hide hkz
      clear hkz
      by_cases hk1:d.kind=1
      ·have e1:(kz == 1)=true:=beq_iff_eq.2 (by have:=uh HKZ;omega)
       have e2:(kz != 1)=false:=by rw [bne,e1];rfl
       have hxg:x.s.gt.length≤1000000:=by have:=(uh HM5).2.2.g;omega
       have hxq:x.s.Q.length≤1048576:=by have:=(lpRt (uh HM5).2.2.p).l20;omega
       have hxt:(txt d.text).size≤8000:=by omega
       by_cases hun:0<x.good∨txt d.text≠f.text
       ·have HT1:=hide (take1_un (tx:=f.text) hk1 hun)
        have HMX:=hide (And.intro ((uh HM5).1.setUn (x.un+1)).1 ((uh HM5).2.1.trans ((uh HM5).1.setUn (x.un+1)).2))
        by_cases hg1:0<x.good
        ·clear hk1 hun
         have dg:(1:Int)<(x.good:Int)+1:=by omega
         gi_wp2
         refine ⟨trivial,?_⟩
         refine CallsIn.mono (CallsIn.inRound l (callsIn_wide.2 (iHearB (uh HMX).1 hxg hxq hxt))) ?_
         rintro e w6 ⟨rfl,K6,hm6,hf6⟩
         have HF6:=hide (And.intro hm6 ((uh HMX).2.trans hf6))
         clear hm6 hf6
         gi_wp2
         refine ⟨⟨j+1,by omega,by go_num,?_,K6,?_,?_⟩,by simp [intOf];omega⟩
         ·rw [uh HST2,uh HT1]
          simp
         ·rw [uh HST2,uh HT1]
          exact (uh HF6).1
         ·exact (uh HF6).2
        ·have dg:¬ ((1:Int)<(x.good:Int)+1):=by omega
         have e3:((txt d.text).toList == f.text.toList)=false:=beq_eq_false_iff_ne.2 fun e=>hun.resolve_left hg1 (by
          rw [ByteArray.toList_eq,ByteArray.toList_eq] at e
          exact ByteArray.ext (Array.ext' e))
         clear hk1 hun
         gi_wp2
         refine ⟨trivial,?_⟩
         refine CallsIn.mono (CallsIn.inRound l (callsIn_wide.2 (iHearB (uh HMX).1 hxg hxq hxt))) ?_
         rintro e w6 ⟨rfl,K6,hm6,hf6⟩
         have HF6:=hide (And.intro hm6 ((uh HMX).2.trans hf6))
         clear hm6 hf6
         gi_wp2
         refine ⟨⟨j+1,by omega,by go_num,?_,K6,?_,?_⟩,by simp [intOf];omega⟩
         ·rw [uh HST2,uh HT1]
          simp
         ·rw [uh HST2,uh HT1]
          exact (uh HF6).1
         ·exact (uh HF6).2
       ·have HT1:=hide (take1_ok1 (tx:=f.text) hk1 hun)
        have HMX:=hide (And.intro (uh HM5).1 (uh HM5).2.1)
        have dg:¬ ((1:Int)<(x.good:Int)+1):=by omega
        have het:txt d.text=f.text:=Classical.not_not.1 fun h=>hun (Or.inr h)
        clear hk1 hun
        obtain ⟨ft,fb⟩:=f
        dsimp only at *
        subst het
        gi_wp2
        refine ⟨trivial,?_⟩
        refine CallsIn.mono (CallsIn.inRound l (callsIn_wide.2 (iHearB (uh HMX).1 hxg hxq hxt))) ?_
        rintro e w6 ⟨rfl,K6,hm6,hf6⟩
        have HF6:=hide (And.intro hm6 ((uh HMX).2.trans hf6))
        clear hm6 hf6
        gi_wp2
        refine ⟨⟨j+1,by omega,by go_num,?_,K6,?_,?_⟩,by simp [intOf];omega⟩
        ·rw [uh HST2,uh HT1]
         simp
        ·rw [uh HST2,uh HT1]
         exact (uh HF6).1
        ·exact (uh HF6).2
      ·have e1:(kz == 1)=false:=beq_eq_false_iff_ne.2 (by have:=uh HKZ;omega)
       have e2:(kz != 1)=true:=by rw [bne,e1];rfl
       have HT1:=hide (take1_no (tx:=f.text) (x:=x) hk1)
       clear hk1
       gi_wp2
       refine ⟨⟨j+1,by omega,by go_num,?_,K9,?_,?_⟩,by simp [intOf];omega⟩
       ·rw [uh HST2,uh HT1]
       ·rw [uh HST2,uh HT1]
        exact ((uh HM5).1.setBad (x.bad+1)).1
       ·exact (uh HM5).2.1.trans ((uh HM5).1.setBad (x.bad+1)).2
     ·have e:j=q:=by omega
      subst e
      have d1:¬ ((j:Int)<(j:Int)):=by omega
      rw [show F.take j=F by rw [← hq];exact List.take_length] at hM9
      have HFI:Hid (KeepsFrom W2.heap.size W3 wr∧i+1≤m.a.ln.length∧∃ K3,MN base B mi1 n wr K3∧Fz (fun k=>k=B∨k=l) K K3 W2 wr):=hide (by
       obtain ⟨_,_,_,_,k5,k6⟩:=uh KEEP wr K9 hf9
       exact ⟨k5,h1q,K9,by rw [uh HST];exact hM9,k6⟩)
      clear hM9 hf9
      gi_wp2
      exact ⟨(uh HFI).1,(uh HFI).2.2⟩
end Go.Proofs.YtkcghhkkepndnaaGreatDoor
