/- The program: an end of a numbered line finds frames in bytes, and hears a packet; what lay in memory stands but for the end, its line's row and the row of what it has got. -/
import Derived.Test.YtkcghhkkepndnaaGreatDoorS32
import Derived.Test.YtkcghhkkepndnaaGreatDoorShW
namespace Go.Proofs.YtkcghhkkepndnaaGreatDoor
open Go.RowKit
set_option maxHeartbeats 8000000 in
set_option maxRecDepth 100000 in
theorem iFindN {base:Nat} {W:World} {B:Nat} {X Z:List Value} {s:Nl} {vq vl vg:Value} (h:Sn base W B X Z s vq vl vg) (hL:Lt base W) (hD:DmOk s.df) {t:ByteArray} (ht:t.size≤411) :
  Calls Tryz.prog 67 #[.pointer (some ⟨B,X.length,none⟩),.string t] W fun e W'=>∃ v,e=.returned v∧HoldsF W' v (ansD s.df t).F∧(∀ g,v.ownBlock=some g→W.heap.size≤g)∧Sn base W' B X Z (dfN s t) vq vl vg∧Fz (fun k=>k=B) (K2 vl vg) (K2 vl vg) W W':=by
 have rg:=h.dm
 have C:=hide (implDefrAll s.df.wd s.df.x s.df.inn s.df.esc s.df.long s.df.tx t W (by have:=hD.tx;unfold maxLen;omega) (by unfold maxLen;omega) hL.tabs)
 obtain ⟨A,hA⟩:∃ A,ansOf s.df.wd s.df.x s.df.inn s.df.esc s.df.long s.df.tx t=A:=⟨_,rfl⟩
 have hA2:ansD s.df t=A:=hA
 unfold dfN
 rw [hA] at C
 rw [hA2]
 have HS:=hide h
 clear hA hA2 h hL hD
 generalize hk:X.length=k at *
 go_enter Tryz.func67,Tryz.ntmps67
 go_wp2_with (refine wpList_load_mid rfl 59 (.tmp 8) rfl B (k+7) rfl (dmC s.df) _ rg Tryz.underlying59 rfl (by exact infoD6) ?_)
 refine (uh C).mono ?_
 rintro e w2 ⟨v,rfl,⟨hv1,hv2⟩,hb2⟩
 obtain ⟨wd,x,inn,esc,long,tx,F,cd⟩:=A
 unfold ansV
 dsimp only at hv1 ⊢
 obtain ⟨va,vc,rfl⟩:=hv1.form
 have hbz:Below w2.heap.size w2 (w2.alloc (.cells #[.bool wd,.int .i64 x,.bool inn,.bool esc,.bool long,.string tx,.slice va F.length vc,.int .i64 cd] 121)):=(Below.refl _ _).alloc (Nat.le_refl _) _
 have hN:=heap_alloc_new w2 (.cells #[.bool wd,.int .i64 x,.bool inn,.bool esc,.bool long,.string tx,.slice va F.length vc,.int .i64 cd] 121)
 have HV:=hide (And.intro hv1 hv2)
 have HB:=hide hb2
 have HZ:=hide (And.intro hbz hN)
 clear hv1 hv2 hb2 C hbz hN
 go_upto_region 2 with fail
 generalize w2.alloc (.cells #[.bool wd,.int .i64 x,.bool inn,.bool esc,.bool long,.string tx,.slice va F.length vc,.int .i64 cd] 121)=z at HZ ⊢
 generalize hN:w2.heap.size=N at HZ ⊢
 have hbz:Below W.heap.size W z:=(uh HB).trans ((uh HZ).1.mono (by rw [← hN];exact (uh HB).size))
 have hs:=(uh HS).below hbz
 have rgE:z.rangeAt N 0 (dmC ⟨wd,x,inn,esc,long,tx⟩):=by
  have h1:z.heap[N]?=some (.cells ([] ++ dmC ⟨wd,x,inn,esc,long,tx⟩ ++ [Value.slice va F.length vc,Value.int .i64 cd]).toArray 121):=(uh HZ).2
  exact range_blk h1
 have thB:=hs.dmT
 rw [hk] at thB
 have rgV:z.cell? ⟨N,6,none⟩=some (.slice va F.length vc):=by rw [cr (uh HZ).2];rfl
 have nBN:B≠N:=fun e=>by have:=(uh HS).lt;have:=(uh HB).size;omega
 have HF:=hide hs
 have HBZ:=hide hbz
 clear hs hbz
 go_upto_region 3 with (first
  | (refine wpList_load_mid rfl 59 (.tmp 13) rfl N 0 rfl (dmC ⟨wd,x,inn,esc,long,tx⟩) _ rgE Tryz.underlying59 rfl (by exact infoD6) ?_)
  | (refine wpList_store_mid rfl 59 (.tmp 16) (.tmp 14) rfl B (k+7) (dmC ⟨wd,x,inn,esc,long,tx⟩).toArray rfl rfl (by exact thB) (by exact infoD6) (by kernel_rfl) ?_))
 have HY:Hid (HoldsF (z.setCells B (k+7) (dmC ⟨wd,x,inn,esc,long,tx⟩)) (.slice va F.length vc) F∧(∀ g,(Value.slice va F.length vc).ownBlock=some g→W.heap.size≤g)∧Sn base (z.setCells B (k+7) (dmC ⟨wd,x,inn,esc,long,tx⟩)) B X Z ⟨s.p,s.Q,s.ln,⟨wd,x,inn,esc,long,tx⟩,s.gt⟩ vq vl vg∧Fz (fun k=>k=B) (K2 vl vg) (K2 vl vg) W (z.setCells B (k+7) (dmC ⟨wd,x,inn,esc,long,tx⟩))):=hide (by
  have h1:=(uh HF).setD ⟨wd,x,inn,esc,long,tx⟩
  rw [hk] at h1
  obtain ⟨v1,v2⟩:=uh HV
  have hlt:=(uh HS).lt
  refine ⟨?_,v2,h1,(Fz.of_below (uh HBZ)).trans (Fz.cells _ _ _ _ _)⟩
  refine HoldsF.same (v1.below (by rw [hN];exact (uh HZ).1)) fun g hg=>set_other3 (fun e=>?_) _ _ _
  have:=v2 g hg
  omega)
 have cV:(z.setCells B (k+7) (dmC ⟨wd,x,inn,esc,long,tx⟩)).cell? ⟨N,6,none⟩=some (.slice va F.length vc):=by
  have h1:(z.setCells B (k+7) (dmC ⟨wd,x,inn,esc,long,tx⟩)).heap[N]?=z.heap[N]?:=set_other3 (fun e=>nBN e.symm) _ _ _
  rw [cr (h1.trans (uh HZ).2)];rfl
 clear HF rgE thB rgV rg
 generalize z.setCells B (k+7) (dmC ⟨wd,x,inn,esc,long,tx⟩)=y at HY cV ⊢
 go_wp2_with fail
 go_ret
 exact ⟨_,rfl,uh HY⟩
theorem read_len9 (r:List UInt8):(Pp.read r).text.length≤r.length:=by
 rcases r with _ | ⟨c,_ | ⟨d,r⟩⟩
 ·exact Nat.zero_le _
 ·simp only [Pp.read]
  split<;>exact Nat.zero_le _
 ·simp only [Pp.read]
  split
  ·exact Nat.le_succ _
  ·split
   ·show r.length≤r.length+1+1
    omega
   ·exact Nat.zero_le _
theorem unp_len (l:List UInt8):(Pp.unpack l).text.length≤l.length:=by
 unfold Pp.unpack
 split
 ·exact Nat.le_trans (read_len9 _) (Pp.rest_len l)
 ·exact Nat.zero_le _
set_option maxHeartbeats 8000000 in
set_option maxRecDepth 100000 in
theorem iHearN {base:Nat} {W:World} {B:Nat} {X Z:List Value} {s:Nl} {vq vl vg:Value} (h:Sn base W B X Z s vq vl vg) (hL:Lt base W) (hB:base≤B) (hG:s.gt.length≤1000000) (hp:s.Q.length≤1048576) {t:ByteArray} (ht:t.size≤8000) :
  Calls Tryz.prog 68 #[.pointer (some ⟨B,X.length,none⟩),.string t] W fun e W'=>e=.returned (.tuple #[])∧∃ vq' vl' vg',Sn base W' B X Z (hearN s t) vq' vl' vg'∧Fz (fun k=>k=B) (K2 vl vg) (K2 vl' vg') W W'∧(vq'=vq∨∀ g,vq'.ownBlock=some g→W.heap.size≤g):=by
 have C0:=hide (implUnpAll t W (by unfold maxLen;omega))
 unfold hearN
 obtain ⟨P,hP⟩:∃ P,Pp.unpack t.data.toList=P:=⟨_,rfl⟩
 rw [hP] at C0 ⊢
 have HPL:P.text.length≤8000:=by
  rw [← hP]
  have h1:=unp_len t.data.toList
  rw [Array.length_toList] at h1
  have h2:t.data.size=t.size:=rfl
  omega
 clear hP
 obtain ⟨pr,pt,pc⟩:=P
 unfold outV at C0
 dsimp only at C0 HPL ⊢
 obtain ⟨R,hR⟩:∃ R,(if pr=33 then followN s (hearLF s.p s.Q (nbRead (txt pt))) else s)=R:=⟨_,rfl⟩
 rw [hR]
 have HR:=hide hR
 clear hR
 have HS:=hide h
 have HL:=hide hL
 clear h hL
 generalize hk:X.length=k at *
 go_enter Tryz.func68,Tryz.ntmps68
 go_wp2_with fail
 refine (uh C0).mono ?_
 rintro e w2 ⟨rfl,hb2⟩
 have hbz:Below w2.heap.size w2 (w2.alloc (.cells #[.int .i64 pr,.string (txt pt),.int .i64 pc] 124)):=(Below.refl _ _).alloc (Nat.le_refl _) _
 have hN:=heap_alloc_new w2 (.cells #[.int .i64 pr,.string (txt pt),.int .i64 pc] 124)
 have HZ:=hide (And.intro hb2 (And.intro hbz hN))
 clear hb2 hbz hN C0
 go_upto_region 1 with fail
 obtain ⟨qa,qc,rfl⟩:=own_form (uh HS).hq
 generalize hN:w2.heap.size=N at HZ ⊢
 generalize w2.alloc (.cells #[.int .i64 pr,.string (txt pt),.int .i64 pc] 124)=z at HZ ⊢
 have c0:z.cell? ⟨N,0,none⟩=some (.int .i64 pr):=by rw [cr (uh HZ).2.2];rfl
 have hbz:Below W.heap.size W z:=(uh HZ).1.trans ((uh HZ).2.1.mono (by rw [← hN];exact (uh HZ).1.size))
 have hWN:W.heap.size≤N:=by rw [← hN];exact (uh HZ).1.size
 have HBZ:=hide hbz
 clear hbz
 by_cases h33:pr=33
 ·subst h33
  have hR:=uh HR
  rw [if_pos rfl] at hR
  replace HR:=hide hR
  clear hR
  have d1:((33:Int) == 33)=true:=rfl
  obtain ⟨f,hf⟩:∃ f,nbRead (txt pt)=f:=⟨_,rfl⟩
  rw [hf] at HR
  have CN:=hide fun (v:World)=>iNbRead (txt pt) v (by rw [txt_size];unfold maxLen;omega)
  rw [hf] at CN
  clear hf
  go_upto_region 2 with fail
  clear c0
  have hbd:Below W.heap.size W z.drew:=(uh HBZ).drew
  have hNd:z.drew.heap[N]?=some (.cells #[.int .i64 33,.string (txt pt),.int .i64 pc] 124):=(uh HZ).2.2
  obtain ⟨zd,hzd⟩:∃ zd,z.drew=zd:=⟨_,rfl⟩
  rw [hzd] at hbd hNd
  have HBD:=hide hbd
  have rg:zd.rangeAt B k (lpC s.p (.slice qa s.Q.length qc)).toList:=by
   have:=((uh HS).below hbd).lp
   rw [hk] at this
   exact this
  have hsz:W.heap.size≤zd.heap.size:=hbd.size
  have HSQ:Hid (∀ q:World,Below zd.heap.size zd q→q.cell? ⟨N,1,none⟩=some (.string (txt pt))):=hide fun q hq=>by
   rw [cr ((hq.block N (Array.getElem?_eq_some_iff.1 hNd).1).trans hNd)];rfl
  have CH:Hid (∀ z1:World,Below zd.heap.size zd z1→Calls Tryz.prog 95 #[.agg (lpC s.p (.slice qa s.Q.length qc)),nbV f] z1 fun e q=>AnsL z1 (hearLF s.p s.Q f) e q):=hide fun z1 hb=>iHearL s.p qa qc s.Q f z1 hp (HoldsT.own (((uh HS).below hbd).below hb).hq).s
  have HRR:Hid (followN s (hearLF s.p s.Q f)=R):=HR
  have hfine:=fine_hear s.p s.Q f
  obtain ⟨o,ho⟩:∃ o,hearLF s.p s.Q f=o:=⟨_,rfl⟩
  have hoe:o.cd≠0→o.sn=[]∧o.gt=[]:=by
   rw [← ho]
   unfold hearLF
   repeat' split
   all_goals first | exact fun _=>⟨rfl,rfl⟩ | (unfold hearG;repeat' split) | skip
   all_goals exact fun h=>absurd rfl h
  rw [ho] at CH HRR hfine
  clear ho
  have CF:Hid (∀ (z1 q:World) (v vf vgo:Value),Below zd.heap.size zd z1→q.ownsRow z1.heap.size 9 1 v o.Q.length (scells o.Q)→q.ownsRow z1.heap.size 96 4 vf o.sn.length (nbcells o.sn)→q.ownsRow z1.heap.size 9 1 vgo o.gt.length (scells o.gt)→(∀ g,v.ownBlock=some g→vgo.ownBlock≠some g)→Below z1.heap.size z1 q →
    Calls Tryz.prog 38 #[.pointer (some ⟨B,k,none⟩),.agg (loC o.p v vf vgo o.cd)] q fun e W'=>e=.returned (.tuple #[])∧(∃ vq' vl' vg',Sn base W' B X Z R vq' vl' vg'∧Fz (fun k=>k=B) (K2 vl vg) (K2 vl' vg') W W'∧(vq'=.slice qa s.Q.length qc∨∀ g,vq'.ownBlock=some g→W.heap.size≤g))∧W'.cell? ⟨N,1,none⟩=some (.string (txt pt))):=hide fun z1 q v vf vgo hb oq os og ap lo=>by
   have hbq:Below W.heap.size W q:=hbd.trans ((hb.trans (lo.mono hb.size)).mono hsz)
   have hs:=(uh HS).below hbq
   rw [← hk]
   have hz1:W.heap.size≤z1.heap.size:=Nat.le_trans hsz hb.size
   refine (iFollowN hs ((uh HL).step (hbq.mono (uh HS).bs)) hB (b:=z1.heap.size) (Nat.le_trans (uh HS).bs hz1) ⟨oq,os,og⟩ ap (fun g hg=>by have:=((uh HS).kk g hg).2.1;omega) hfine hoe hG).mono ?_
   rintro e W' ⟨rfl,vq',vl',vg',p1,p2,p3⟩
   rw [uh HRR] at p1
   refine ⟨rfl,⟨vq',vl',vg',p1,(Fz.of_below hbq).trans p2,p3.imp id fun e g hg=>?_⟩,?_⟩
   ·rw [e] at hg
    have:=(own_typ oq g hg).1
    omega
   ·have hNq:q.heap[N]?=some (.cells #[.int .i64 33,.string (txt pt),.int .i64 pc] 124):=((hb.trans (lo.mono hb.size)).block N (Array.getElem?_eq_some_iff.1 hNd).1).trans hNd
    have h1:=p2.same N (Array.getElem?_eq_some_iff.1 hNq).1 (typ_ne hNq hs.row (by decide)) (fun e=>by have:=((uh HS).kk N e).2.1;omega)
    rw [cr (h1.trans hNq)];rfl
  have hS0:=uh HSQ zd (Below.refl _ _)
  clear hfine hoe HR HZ HBZ
  refine wp_region_held_drew (S:=fun y=>y.cell? ⟨N,1,none⟩=some (.string (txt pt))) (by kernel_rfl) (by rw [hzd];exact hS0) (fun hHeld=>?_)
  rw [hzd]
  clear hHeld hbd hNd
  refine t2 0 ?_
  refine t2 1 ?_
  refine t2 2 ?_
  refine t2 3 ?_
  refine t2 5 ?_
  refine t2 6 ?_
  refine wpAnyH_ready (rs:=[4,7]) (by kernel_rfl) (by simp) (AllReadyH.cons rfl (fun K hK=>?_) (AllReadyH.cons rfl (fun K hK=>?_) (AllReadyH.nil)))
  ·rw [if_pos (by rfl)]
   refine wp_load_mid 54 (.tmp 13) rfl B k rfl (lpC s.p (.slice qa s.Q.length qc)).toList _ rg Tryz.underlying54 rfl (by exact infoL6) ?_
   refine ro hK hS0 fun _=>?_
   clear hK K
   refine r1 7 rfl (fun K hK=>?_)
   go_simp
   refine (uh CN zd).mono ?_
   rintro e z1 ⟨rfl,hb1⟩
   have hS1:=uh HSQ z1 hb1
   refine ro hK hS1 fun _=>?_
   clear hK K hS1
   refine r1 8 rfl (fun K hK=>?_)
   go_simp
   refine (uh CH z1 hb1).mono ?_
   rintro e q ⟨v,vf,vgo,rfl,h1,h2,h3,h4,h5⟩
   have CF9:=hide (uh CF z1 q v vf vgo hb1 h1 h2 h3 h4 h5)
   have hSq:=uh HSQ q (hb1.trans (h5.mono hb1.size))
   clear h1 h2 h3 h4 h5
   refine ro hK hSq fun _=>?_
   clear hK K hSq
   refine r1 9 rfl (fun K hK=>?_)
   go_simp
   refine (uh CF9).mono ?_
   rintro e W' ⟨rfl,hpost,hS9⟩
   have HPOST:=hide hpost
   clear hpost
   refine ro hK hS9 fun _=>?_
   clear hK K hS9
   refine dn ?_ _
   go_wp2_with fail
   refine bodyPost_end (results_none rfl _ _ _) rfl ?_
   exact ⟨rfl,uh HPOST⟩
  ·go_simp
   refine (uh CN zd).mono ?_
   rintro e z1 ⟨rfl,hb1⟩
   have hS1:=uh HSQ z1 hb1
   have rg1:z1.rangeAt B k (lpC s.p (.slice qa s.Q.length qc)).toList:=by
    have:=((((uh HS).below (uh HBD)).below hb1)).lp
    rw [hk] at this
    exact this
   refine ro hK hS1 fun _=>?_
   clear hK K
   refine r1 4 rfl (fun K hK=>?_)
   rw [if_pos (by rfl)]
   refine wp_load_mid 54 (.tmp 13) rfl B k rfl (lpC s.p (.slice qa s.Q.length qc)).toList _ rg1 Tryz.underlying54 rfl (by exact infoL6) ?_
   refine ro hK hS1 fun _=>?_
   clear hK K hS1
   refine r1 8 rfl (fun K hK=>?_)
   go_simp
   refine (uh CH z1 hb1).mono ?_
   rintro e q ⟨v,vf,vgo,rfl,h1,h2,h3,h4,h5⟩
   have CF9:=hide (uh CF z1 q v vf vgo hb1 h1 h2 h3 h4 h5)
   have hSq:=uh HSQ q (hb1.trans (h5.mono hb1.size))
   clear h1 h2 h3 h4 h5
   refine ro hK hSq fun _=>?_
   clear hK K hSq
   refine r1 9 rfl (fun K hK=>?_)
   go_simp
   refine (uh CF9).mono ?_
   rintro e W' ⟨rfl,hpost,hS9⟩
   have HPOST:=hide hpost
   clear hpost
   refine ro hK hS9 fun _=>?_
   clear hK K hS9
   refine dn ?_ _
   go_wp2_with fail
   refine bodyPost_end (results_none rfl _ _ _) rfl ?_
   exact ⟨rfl,uh HPOST⟩
 ·have d1:(pr == 33)=false:=beq_eq_false_iff_ne.2 h33
  have hR:=uh HR
  rw [if_neg h33] at hR
  subst hR
  go_wp2_with fail
  refine bodyPost_end (results_none rfl _ _ _) rfl ?_
  exact ⟨rfl,_,vl,vg,(uh HS).below (uh HBZ),Fz.of_below (uh HBZ),Or.inl rfl⟩
end Go.Proofs.YtkcghhkkepndnaaGreatDoor
