/- The model: the first frame of a line is doubled; what lay in memory stands but for the world; no condition but those named. The model: what one number of the script does, whatever it is; what lay in memory stands but for the world; no condition but those named. The model: all is let come, a hundred times; what lay in memory stands but for the world; no condition but those named. The model's world of a numbered line as it is laid first; no condition but those named. -/
import Derived.Test.YtkcghhkkepndnaaGreatDoorS43
import Derived.Test.YtkcghhkkepndnaaGreatDoorShW
namespace Go.Proofs.YtkcghhkkepndnaaGreatDoor
open Go.RowKit
section
variable {base:Nat} {W:World} {Sa Sb Ww:Nat} {m:Nw} {K:Nat→Prop} {na nb c:Nat}
set_option linter.unusedSimpArgs false in
set_option maxHeartbeats 4000000 in
set_option maxRecDepth 100000 in
theorem sEv3 (h:MS base Sa Sb Ww m W K) (ok:NwOk na nb c m) (n:Nat) (hn:n % 8=3) :
  Calls Tryz.prog 31 #[.pointer (some ⟨Ww,0,none⟩),.int .i64 (n:Int)] W (Lft base Sa Sb Ww K W (evN m (n:Int))):=by
 rw [evN_am hn,if_neg (by decide),if_neg (by decide),if_neg (by decide),if_pos rfl]
 obtain ⟨qa,la,qb,lb,gv,h,rfl⟩:=h
 obtain ⟨c0,c1,_,_,_⟩:=h.cells
 have c12:=h.a.cl.1
 obtain ⟨lad,lac,hla⟩:=h.a.hl.form
 have d0:¬ ((n:Int)<0):=by omega
 have d8:(n:Int) % 8=3:=by omega
 have hl40:=ok.a.l
 clear ok hn
 cases e:m.a.ln with
 | nil =>
  have hs:(⟨lnN m.a (dbl []),m.b,m.bad,m.un⟩:Nw)=m:=by
   have h2:lnN m.a []=m.a:=by rw [← e];rfl
   show (⟨lnN m.a [],m.b,m.bad,m.un⟩:Nw)=m
   rw [h2]
  rw [hs]
  rw [e] at hla
  have c12':W.cell? ⟨Sa,12,none⟩=some (.slice lad 0 lac):=by rw [c12,hla];rfl
  have H:=hide h
  clear h c12 hla hs
  go_enter Tryz.func31,Tryz.ntmps31
  go_wp2_with fail
  refine bodyPost_end (results_none rfl _ _ _) rfl ?_
  exact ⟨rfl,_,⟨_,_,_,_,_,uh H,rfl⟩,Fz.refl _ _ _⟩
 | cons f r =>
  have d12:(0:Int)<(r.length:Int)+1:=by omega
  by_cases h40:(f :: r).length<40
  ·have hd:dbl (f :: r)=f :: f :: r:=if_pos h40
   rw [hd]
   have d40:(r.length:Int)+1<40:=by rw [List.length_cons] at h40;omega
   have hl:=h.a.hl
   rw [e] at hl
   obtain ⟨g,o,cp,hv,_,_,_⟩:=hl.first
   subst hv
   have H:=hide (And.intro h hl)
   clear h hl hla hd
   go_enter Tryz.func31,Tryz.ntmps31
   go_upto_region 14 with fail
   have hbd:Below W.heap.size W W.drew:=(Below.refl _ _).drew
   have HD:=hide (And.intro ((uh H).1.step hbd) (And.intro ((uh H).2.below hbd) (Fz.of_below (K:=K3 (.slice (some ⟨g,o,none⟩) (r.length+1) (cp+1)) lb gv) (E:=E3 Sa Sb Ww) hbd)))
   refine wp_region_held_drew (S:=fun _=>True) (by kernel_rfl) trivial (fun hHeld=>?_)
   have hTT:True:=trivial
   clear hHeld hbd H c12 c0 c1 h40
   generalize W.drew=zd at HD ⊢
   obtain ⟨g',o',cp',hv',x0,x1,_⟩:=(uh HD).2.1.first
   injection hv' with hv1 hv2 hv3
   injection hv1 with hv1
   injection hv1 with hv1 hv4
   rw [← hv1,← hv4] at x0 x1
   clear hv2 hv3 hv1 hv4
   obtain ⟨fb,hfb⟩:∃ fb,f.bytes=fb:=⟨_,rfl⟩
   obtain ⟨ft,hft⟩:∃ ft,f.text=ft:=⟨_,rfl⟩
   have cz:zd.cell? ⟨Sa,12,none⟩=some (.slice (some ⟨g,o,none⟩) (r.length+1) (cp+1)):=(uh HD).1.a.cl.1
   have hb7:Below zd.heap.size zd (zd.alloc (.cells #[.string fb,.string ft] 93)):=(Below.refl _ _).alloc (Nat.le_refl _) _
   have cz7:(zd.alloc (.cells #[.string fb,.string ft] 93)).cell? ⟨Sa,12,none⟩=some (.slice (some ⟨g,o,none⟩) (r.length+1) (cp+1)):=(hb7.cell (p:=⟨Sa,12,none⟩) (World.block_lt_of_cell? _ _ cz)).trans cz
   have HR:Hid (∀ ty,∃ v' w',(Builtin.append_ #[68,68] ty #[.slice (some ⟨zd.heap.size,0,none⟩) 1 1,.slice (some ⟨g,o,none⟩) (r.length+1) (cp+1)]).run Tryz.prog (zd.alloc (.cells #[.string fb,.string ft] 93))=.ok v' w' ∧
    ((∃ a c,v'=.slice a (r.length+2) c)∧w'.cell? ⟨Sa,12,none⟩=some (.slice (some ⟨g,o,none⟩) (r.length+1) (cp+1))∧w'.frozen? ⟨Sa,12,none⟩=false∧(Mlw base (w'.setCell ⟨Sa,12,none⟩ v') Sa Sb Ww ⟨lnN m.a (f :: f :: r),m.b,m.bad,m.un⟩ qa v' qb lb gv∧Fz (E3 Sa Sb Ww) (K3 (.slice (some ⟨g,o,none⟩) (r.length+1) (cp+1)) lb gv) (K3 v' lb gv) zd (w'.setCell ⟨Sa,12,none⟩ v')))):=hide fun ty=>by
    have hn1:=own_newm zd [f] (by simp)
    have hn2:(zd.alloc (.cells #[.string fb,.string ft] 93)).ownsRow zd.heap.size 93 2 (.slice (some ⟨zd.heap.size,0,none⟩) 1 1) 1 (sfcellsm [f]):=by
     rw [← hfb,← hft]
     exact hn1
    have hk:=(uh HD).2.1.below hb7
    have hs1:(zd.alloc (.cells #[.string fb,.string ft] 93)).heap.size=zd.heap.size+1:=by simp
    obtain ⟨v',w',q1,q2,q3⟩:=run_append_sm (base:=zd.heap.size) (D:=[f]) (F:=f :: r) ty rfl (Nat.le_refl 1) hn2 hk (by simp) (by rw [e] at hl40;omega) (by rw [hs1];omega)
    have hb9:Below zd.heap.size zd w':=hb7.trans ⟨q3.os,q3.tape,q3.output,q3.size,fun k hk=>q3.block k (by rw [hs1];omega) (fun e=>by cases e;omega)⟩
    have hSr:=(hb9.block Sa (uh HD).1.a.lt).trans (uh HD).1.a.row
    have hS:=(uh HD).1.a.setLine (q2.mono (uh HD).1.a.bs) (grown_below hb9 _) (fun g hg=>Or.inr (q2.blk g hg).1) (by rw [List.singleton_append,List.length_cons,List.length_cons];omega)
    refine ⟨v',w',q1,q2.form,?_,frz hSr _,(uh HD).1.setA hS.1 hS.2 (Or.inl rfl)⟩
    exact (hb9.cell (p:=⟨Sa,12,none⟩) (World.block_lt_of_cell? _ _ cz)).trans cz
   have HF:=hide (uh HD).2.2
   rw [hfb] at x0
   rw [hft] at x1
   clear HD hb7 hfb hft
   refine t2 0 ?_
   refine t2 1 ?_
   refine t2 2 ?_
   refine t2 3 ?_
   refine t2 8 ?_
   refine t2 9 ?_
   refine t2 10 ?_
   refine wpAnyH_ready (rs:=[4,11]) (by kernel_rfl) (by simp) (AllReadyH.cons rfl (fun K hK=>?_) (AllReadyH.cons rfl (fun K hK=>?_) (AllReadyH.nil)))
   ·go_simp
    refine ro hK trivial fun _=>?_
    clear hK K
    refine t2 5 ?_
    refine wpAnyH_ready (rs:=[6,11]) (by kernel_rfl) (by simp) (AllReadyH.cons rfl (fun K hK=>?_) (AllReadyH.cons rfl (fun K hK=>?_) (AllReadyH.nil)))
    ·go_simp
     refine ro hK trivial fun _=>?_
     clear hK K
     refine wpAnyH_ready (rs:=[7,11]) (by kernel_rfl) (by simp) (AllReadyH.cons rfl (fun K hK=>?_) (AllReadyH.cons rfl (fun K hK=>?_) (AllReadyH.nil)))
     ·go_simp
      refine ro hK trivial fun _=>?_
      clear hK K
      refine r1 11 rfl (fun K hK=>?_)
      go_simp
      refine ro hK trivial fun _=>?_
      clear hK K
      refine r1 12 rfl (fun K hK=>?_)
      refine step_append_gm _ _ rfl rfl rfl (uh HR) ?_
      rintro v9 w9 ⟨⟨a9,c9,rfl⟩,k1,k2,k3⟩
      have HK3:=hide k3
      clear k3 HR
      refine ro hK trivial fun _=>?_
      clear hK K
      refine t2 13 ?_
      refine t2 14 ?_
      refine r1 15 rfl (fun K hK=>?_)
      go_simp
      refine ro hK trivial fun _=>?_
      clear hK K k1 k2
      refine dn ?_ _
      generalize w9.setCell ⟨Sa,12,none⟩ (.slice a9 (r.length+2) c9)=y9 at HK3 ⊢
      go_wp2_with fail
      refine bodyPost_end (results_none rfl _ _ _) rfl ?_
      exact ⟨rfl,_,⟨_,_,_,_,_,(uh HK3).1,rfl⟩,(uh HF).trans (uh HK3).2⟩
     ·go_simp
      refine ro hK trivial fun _=>?_
      clear hK K
      refine r1 7 rfl (fun K hK=>?_)
      go_simp
      refine ro hK trivial fun _=>?_
      clear hK K
      refine r1 12 rfl (fun K hK=>?_)
      refine step_append_gm _ _ rfl rfl rfl (uh HR) ?_
      rintro v9 w9 ⟨⟨a9,c9,rfl⟩,k1,k2,k3⟩
      have HK3:=hide k3
      clear k3 HR
      refine ro hK trivial fun _=>?_
      clear hK K
      refine t2 13 ?_
      refine t2 14 ?_
      refine r1 15 rfl (fun K hK=>?_)
      go_simp
      refine ro hK trivial fun _=>?_
      clear hK K k1 k2
      refine dn ?_ _
      generalize w9.setCell ⟨Sa,12,none⟩ (.slice a9 (r.length+2) c9)=y9 at HK3 ⊢
      go_wp2_with fail
      refine bodyPost_end (results_none rfl _ _ _) rfl ?_
      exact ⟨rfl,_,⟨_,_,_,_,_,(uh HK3).1,rfl⟩,(uh HF).trans (uh HK3).2⟩
    ·go_simp
     refine ro hK trivial fun _=>?_
     clear hK K
     refine r1 6 rfl (fun K hK=>?_)
     go_simp
     refine ro hK trivial fun _=>?_
     clear hK K
     refine r1 7 rfl (fun K hK=>?_)
     go_simp
     refine ro hK trivial fun _=>?_
     clear hK K
     refine r1 12 rfl (fun K hK=>?_)
     refine step_append_gm _ _ rfl rfl rfl (uh HR) ?_
     rintro v9 w9 ⟨⟨a9,c9,rfl⟩,k1,k2,k3⟩
     have HK3:=hide k3
     clear k3 HR
     refine ro hK trivial fun _=>?_
     clear hK K
     refine t2 13 ?_
     refine t2 14 ?_
     refine r1 15 rfl (fun K hK=>?_)
     go_simp
     refine ro hK trivial fun _=>?_
     clear hK K k1 k2
     refine dn ?_ _
     generalize w9.setCell ⟨Sa,12,none⟩ (.slice a9 (r.length+2) c9)=y9 at HK3 ⊢
     go_wp2_with fail
     refine bodyPost_end (results_none rfl _ _ _) rfl ?_
     exact ⟨rfl,_,⟨_,_,_,_,_,(uh HK3).1,rfl⟩,(uh HF).trans (uh HK3).2⟩
   ·go_simp
    refine ro hK trivial fun _=>?_
    clear hK K
    refine r1 4 rfl (fun K hK=>?_)
    go_simp
    refine ro hK trivial fun _=>?_
    clear hK K
    refine t2 5 ?_
    refine r1 6 rfl (fun K hK=>?_)
    go_simp
    refine ro hK trivial fun _=>?_
    clear hK K
    refine r1 7 rfl (fun K hK=>?_)
    go_simp
    refine ro hK trivial fun _=>?_
    clear hK K
    refine r1 12 rfl (fun K hK=>?_)
    refine step_append_gm _ _ rfl rfl rfl (uh HR) ?_
    rintro v9 w9 ⟨⟨a9,c9,rfl⟩,k1,k2,k3⟩
    have HK3:=hide k3
    clear k3 HR
    refine ro hK trivial fun _=>?_
    clear hK K
    refine t2 13 ?_
    refine t2 14 ?_
    refine r1 15 rfl (fun K hK=>?_)
    go_simp
    refine ro hK trivial fun _=>?_
    clear hK K k1 k2
    refine dn ?_ _
    generalize w9.setCell ⟨Sa,12,none⟩ (.slice a9 (r.length+2) c9)=y9 at HK3 ⊢
    go_wp2_with fail
    refine bodyPost_end (results_none rfl _ _ _) rfl ?_
    exact ⟨rfl,_,⟨_,_,_,_,_,(uh HK3).1,rfl⟩,(uh HF).trans (uh HK3).2⟩
  ·have hd:dbl (f :: r)=f :: r:=if_neg h40
   rw [hd]
   have d40:¬ ((r.length:Int)+1<40):=by rw [List.length_cons] at h40;omega
   have hs:(⟨lnN m.a (f :: r),m.b,m.bad,m.un⟩:Nw)=m:=by
    have h2:lnN m.a (f :: r)=m.a:=by rw [← e];rfl
    rw [h2]
   rw [hs]
   rw [e,List.length_cons] at hla
   rw [hla] at c12
   have H:=hide h
   clear h hla hs hd h40
   go_enter Tryz.func31,Tryz.ntmps31
   go_wp2_with fail
   refine bodyPost_end (results_none rfl _ _ _) rfl ?_
   exact ⟨rfl,_,⟨_,_,_,_,_,uh H,rfl⟩,Fz.refl _ _ _⟩
end
end Go.Proofs.YtkcghhkkepndnaaGreatDoor
namespace Go.Proofs.YtkcghhkkepndnaaGreatDoor
open Go.RowKit
section
variable {base:Nat} {W:World} {Sa Sb Ww:Nat} {m:Nw} {K:Nat→Prop} {na nb c:Nat}
theorem sEvent (h:MS base Sa Sb Ww m W K) (ok:NwOk na nb c m) (hnb:nb≤990000) (hcc:c≤100000000) (e:Int) (he:e≤9223372036854775807) :
  Calls Tryz.prog 31 #[.pointer (some ⟨Ww,0,none⟩),.int .i64 e] W (Lft base Sa Sb Ww K W (evN m e)):=by
 by_cases h0:e<0
 ·exact sEvLow h e h0
 ·obtain ⟨n,rfl⟩:∃ n:Nat,e=(n:Int):=⟨e.toNat,by omega⟩
  have:n % 8=0∨n % 8=1∨n % 8=2∨n % 8=3∨n % 8=4∨n % 8=5∨n % 8=6∨n % 8=7:=by omega
  rcases this with hn | hn | hn | hn | hn | hn | hn | hn
  ·exact sEv0 h ok n hn
  ·exact sEv1 h ok hnb hcc n hn
  ·exact sEv2 h n hn
  ·exact sEv3 h ok n hn
  ·exact sEv4 h ok n he hn
  ·exact sEv5 h ok hcc n hn
  ·exact sEv6 h n hn
  ·exact sEv7 h ok n hn
theorem sE0 (h:MS base Sa Sb Ww m W K) (ok:NwOk na nb c m):Calls Tryz.prog 31 #[.pointer (some ⟨Ww,0,none⟩),.int .i64 0] W (Lft base Sa Sb Ww K W (sendNextN m)):=by
 have:=sEv0 h ok 0 rfl
 rw [evN_am (r:=0) rfl,if_pos rfl] at this
 exact this
theorem sE1 (h:MS base Sa Sb Ww m W K) (ok:NwOk na nb c m) (hnb:nb≤990000) (hcc:c≤100000000):Calls Tryz.prog 31 #[.pointer (some ⟨Ww,0,none⟩),.int .i64 1] W (Lft base Sa Sb Ww K W (cmB m)):=by
 have:=sEv1 h ok hnb hcc 1 rfl
 rw [evN_am (r:=1) rfl,if_neg (by decide),if_pos rfl] at this
 exact this
theorem sE5 (h:MS base Sa Sb Ww m W K) (ok:NwOk na nb c m) (hcc:c≤100000000):Calls Tryz.prog 31 #[.pointer (some ⟨Ww,0,none⟩),.int .i64 5] W (Lft base Sa Sb Ww K W (cmA m)):=by
 have:=sEv5 h ok hcc 5 rfl
 rw [evN_am (r:=5) rfl,if_neg (by decide),if_neg (by decide),if_neg (by decide),if_neg (by decide),if_neg (by decide),if_pos rfl] at this
 exact this
theorem sE7 (h:MS base Sa Sb Ww m W K) (ok:NwOk na nb c m):Calls Tryz.prog 31 #[.pointer (some ⟨Ww,0,none⟩),.int .i64 7] W (Lft base Sa Sb Ww K W (sendAgainN m)):=by
 have:=sEv7 h ok 7 rfl
 rw [evN_am (r:=7) rfl,if_neg (by decide),if_neg (by decide),if_neg (by decide),if_neg (by decide),if_neg (by decide),if_neg (by decide),if_neg (by decide)] at this
 exact this
end
end Go.Proofs.YtkcghhkkepndnaaGreatDoor
namespace Go.Proofs.YtkcghhkkepndnaaGreatDoor
open Go.RowKit
theorem MS.lens {base:Nat} {W:World} {Sa Sb Ww:Nat} {m:Nw} {K:Nat→Prop} (h:MS base Sa Sb Ww m W K):W.cell? ⟨Ww,0,none⟩=some (.pointer (some ⟨Sa,0,none⟩))∧W.cell? ⟨Ww,1,none⟩=some (.pointer (some ⟨Sb,0,none⟩))∧(∃ a c,W.cell? ⟨Sa,12,none⟩=some (.slice a m.a.ln.length c))∧∃ a c,W.cell? ⟨Sb,12,none⟩=some (.slice a m.b.ln.length c):=by
 obtain ⟨qa,la,qb,lb,gv,h,rfl⟩:=h
 obtain ⟨x,y,e⟩:=h.a.hl.form
 obtain ⟨x2,y2,e2⟩:=h.b.hl.form
 refine ⟨h.cells.1,h.cells.2.1,⟨x,y,?_⟩,⟨x2,y2,?_⟩⟩
 ·rw [← e];exact h.a.cl.1
 ·rw [← e2];exact h.b.cl.1
set_option linter.unusedSimpArgs false in
set_option maxHeartbeats 4000000 in
set_option maxRecDepth 100000 in
theorem sSettle {base:Nat} {W:World} {Sa Sb Ww:Nat} {m:Nw} {K:Nat→Prop} {na nb c:Nat} (h:MS base Sa Sb Ww m W K) (ok:NwOk na nb c m) (hnb:nb≤90000) (hcc:c≤10000000) :
  Calls Tryz.prog 32 #[.pointer (some ⟨Ww,0,none⟩)] W (Lft base Sa Sb Ww K W (timesN setN1 100 m)):=by
 have H:=hide h
 clear h
 go_enter Tryz.func32,Tryz.ntmps32
 go_upto_region 1 with fail
 go_loopw [2] (fun p wr=>∃ i:Nat,i≤100∧p=.int .i64 i∧∃ K',MS base Sa Sb Ww (timesN setN1 i m) wr K'∧Fz (E3 Sa Sb Ww) K K' W wr) (fun p _=>100 - (intOf p).toNat)
 case atStart=>exact ⟨0,Nat.zero_le _,rfl,K,uh H,Fz.refl _ _ _⟩
 case round =>
  obtain ⟨i,hi,rfl,K1,hM1,hF1⟩:=hrel
  by_cases hlt:i<100
  ·have d1:(i:Int)<100:=by omega
   have oki:=sets_ok i ok
   have C0:=hide (sE0 hM1 oki)
   have okn:=next_ok oki
   have HF1:=hide hF1
   clear hM1 hF1 H
   go_wp2_with fail
   refine (uh C0).mono ?_
   rintro e w2 ⟨rfl,K2,hM2,hF2⟩
   obtain ⟨x0,x1,⟨a3,c3,x2⟩,_⟩:=hM2.lens
   have H2:=hide (And.intro hM2 ((uh HF1).trans hF2))
   have hl40:=okn.a.l
   have HST:Hid (timesN setN1 (i+1) m=sendAgainN (timesN cmA (timesN cmB (sendNextN (timesN setN1 i m)).a.ln.length (sendNextN (timesN setN1 i m))).b.ln.length (timesN cmB (sendNextN (timesN setN1 i m)).a.ln.length (sendNextN (timesN setN1 i m))))):=hide rfl
   obtain ⟨u,hu⟩:∃ u,sendNextN (timesN setN1 i m)=u:=⟨_,rfl⟩
   rw [hu] at HST H2 okn x2 hl40
   obtain ⟨L,hL⟩:∃ L,u.a.ln.length=L:=⟨_,rfl⟩
   rw [hL] at HST x2 hl40
   clear hM2 hF2 C0 hu HF1
   go_upto_region 5 with fail
   go_loopw [3] (fun p wr=>∃ j:Nat,j≤L∧p=.int .i64 ((L - j:Nat):Int)∧∃ K',MS base Sa Sb Ww (timesN cmB j u) wr K'∧Fz (E3 Sa Sb Ww) K K' W wr) (fun p _=>(intOf p).toNat)
   case atStart=>exact ⟨0,Nat.zero_le _,rfl,_,(uh H2).1,(uh H2).2⟩
   case round =>
    obtain ⟨j,hj,rfl,K3,hM3,hF3⟩:=hrel
    have okj:=timesB_ok j okn
    by_cases hjl:j<L
    ·have d2:(0:Int)<((L - j:Nat):Int):=by omega
     have C1:=hide (sE1 hM3 okj (by omega) (by omega))
     have HF3:=hide hF3
     clear hM3 hF3 x0 x1 x2 H2
     go_wp2_with fail
     refine (uh C1).mono ?_
     rintro e w4 ⟨rfl,K4,hM4,hF4⟩
     have H4:=hide (And.intro hM4 ((uh HF3).trans hF4))
     clear hM4 hF4 C1
     go_wp2_with fail
     refine ⟨⟨j+1,by omega,congrArg (Value.int .i64) (by omega),K4,(uh H4).1,(uh H4).2⟩,by simp [intOf];omega⟩
    ·have ej:j=L:=by omega
     subst ej
     have d2:¬ ((0:Int)<((j - j:Nat):Int)):=by omega
     obtain ⟨z0,z1,_,⟨a5,c5,z2⟩⟩:=hM3.lens
     have H5:=hide (And.intro hM3 hF3)
     obtain ⟨v,hv⟩:∃ v,timesN cmB j u=v:=⟨_,rfl⟩
     rw [hv] at HST H5 okj z2
     have hl5:=okj.b.l
     obtain ⟨M,hM⟩:∃ M,v.b.ln.length=M:=⟨_,rfl⟩
     rw [hM] at HST z2 hl5
     clear hM3 hF3 x0 x1 x2 H2 hv
     go_upto_region 9 with fail
     go_loopw [4] (fun p wr=>∃ k:Nat,k≤M∧p=.int .i64 ((M - k:Nat):Int)∧∃ K',MS base Sa Sb Ww (timesN cmA k v) wr K'∧Fz (E3 Sa Sb Ww) K K' W wr) (fun p _=>(intOf p).toNat)
     case atStart=>exact ⟨0,Nat.zero_le _,rfl,_,(uh H5).1,(uh H5).2⟩
     case round =>
      obtain ⟨k,hk,rfl,K6,hM6,hF6⟩:=hrel
      have okk:=timesA_ok k okj
      by_cases hkm:k<M
      ·have d3:(0:Int)<((M - k:Nat):Int):=by omega
       have C5:=hide (sE5 hM6 okk (by omega))
       have HF6:=hide hF6
       clear hM6 hF6 z0 z1 z2 H5
       go_wp2_with fail
       refine (uh C5).mono ?_
       rintro e w7 ⟨rfl,K7,hM7,hF7⟩
       have H7:=hide (And.intro hM7 ((uh HF6).trans hF7))
       clear hM7 hF7 C5
       go_wp2_with fail
       refine ⟨⟨k+1,by omega,congrArg (Value.int .i64) (by omega),K7,(uh H7).1,(uh H7).2⟩,by simp [intOf];omega⟩
      ·have ek:k=M:=by omega
       subst ek
       have d3:¬ ((0:Int)<((k - k:Nat):Int)):=by omega
       have C7:=hide (sE7 hM6 okk)
       have HF6:=hide hF6
       clear hM6 hF6 z0 z1 z2 H5
       go_wp2_with fail
       refine (uh C7).mono ?_
       rintro e w8 ⟨rfl,K8,hM8,hF8⟩
       have H8:=hide (And.intro hM8 ((uh HF6).trans hF8))
       clear hM8 hF8 C7
       go_wp2_with fail
       refine ⟨⟨i+1,by omega,by go_num,K8,?_,(uh H8).2⟩,by simp [intOf];omega⟩
       rw [uh HST]
       exact (uh H8).1
  ·have ei:i=100:=by omega
   subst ei
   have d1:¬ (((100:Nat):Int)<100):=by omega
   have H9:=hide (And.intro hM1 hF1)
   clear hM1 hF1 H
   go_wp2_with fail
   refine bodyPost_end (results_none rfl _ _ _) rfl ?_
   exact ⟨rfl,K1,(uh H9).1,(uh H9).2⟩
end Go.Proofs.YtkcghhkkepndnaaGreatDoor
namespace Go.Proofs.YtkcghhkkepndnaaGreatDoor
open Go.RowKit
theorem own_none (g:Nat):¬ Kv (.slice none 0 0) g:=fun e=>by cases e
theorem MS.start {base:Nat} {W:World} {Sa Sb Ww:Nat} {wi:Int} {Q:List ByteArray} {v:Value} (ha:W.heap[Sa]?=some (.cells (smC (lpNew wi) v dm0 (.slice none 0 0)).toArray 70)) (hb:W.heap[Sb]?=some (.cells (smC (lpNew wi) (.slice none 0 0) dm0 (.slice none 0 0)).toArray 70)) (hw:W.heap[Ww]?=some (.cells (wwC Sa Sb (.slice none 0 0) 0 0) 72)) (hq:HoldsS W v Q) (qo:∀ g,Kv v g→base≤g∧g<W.heap.size) (ab:Sa≠Sb) (bA:base≤Sa) (bB:base≤Sb) (bW:base≤Ww) (bs:base≤W.heap.size) :
  MS base Sa Sb Ww ⟨nl0 wi Q,nl0 wi [],0,0⟩ W (K3 (.slice none 0 0) (.slice none 0 0) (.slice none 0 0)) :=
 ⟨v,.slice none 0 0,.slice none 0 0,.slice none 0 0,.slice none 0 0,
  ⟨⟨ha,hq,qo,Or.inl ⟨rfl,rfl⟩,Nat.zero_le _,bs⟩,⟨hb,holdsS_nil _ _ _,fun g hg=>absurd hg (own_none g),Or.inl ⟨rfl,rfl⟩,Nat.zero_le _,bs⟩,hw,World.ownsRow_nil _ _ _ _,ab,fun g hg=>absurd hg (own_none g),fun g _ e=>absurd e (own_none g),fun g hg=>absurd hg (own_none g),bA,bB,bW⟩,rfl⟩
end Go.Proofs.YtkcghhkkepndnaaGreatDoor
