/- The model: a frame of the second end's line comes to the first one, which hears what is found in it; what lay in memory stands but for the world; no condition but those named. -/
import Derived.Test.YtkcghhkkepndnaaGreatDoorS35
import Derived.Test.YtkcghhkkepndnaaGreatDoorShW
namespace Go.Proofs.YtkcghhkkepndnaaGreatDoor
open Go.RowKit
set_option maxHeartbeats 16000000 in
set_option maxRecDepth 100000 in
theorem sCome_A {base:Nat} {W:World} {Sa Sb Ww:Nat} {m:Nw} {K:Nat→Prop} (h:MS base Sa Sb Ww m W K) {na nb c:Nat} (ok:NwOk na nb c m) (hcc:c≤100000000) :
  Calls Tryz.prog 51 #[.pointer (some ⟨Ww,0,none⟩),.pointer (some ⟨Sb,0,none⟩),.pointer (some ⟨Sa,0,none⟩),.bool false] W fun e W'=>e=.returned (.tuple #[])∧∃ K',MS base Sa Sb Ww (cmA m) W' K'∧Fz (E3 Sa Sb Ww) K K' W W':=by
 obtain ⟨qa,la,qb,lb,gv,h,rfl⟩:=h
 have c12:=h.b.cl.1
 obtain ⟨lad,lac,hla⟩:=h.b.hl.form
 cases e:m.b.ln with
 | nil =>
  have hs:cmA m=m:=by unfold cmA;rw [e]
  rw [e] at hla
  rw [hs]
  have c12':W.cell? ⟨Sb,12,none⟩=some (.slice lad 0 lac):=by rw [c12,hla];rfl
  have H:=hide h
  clear h c12 hla
  go_enter Tryz.func51,Tryz.ntmps51
  go_wp2_with fail
  refine bodyPost_ret (results_none rfl _ _ _) rfl ?_
  exact ⟨rfl,_,⟨_,_,_,_,_,uh H,rfl⟩,Fz.refl _ _ _⟩
 | cons f r =>
  have hst:cmA m=⟨(tookN f m.a m.bad m.un).s,lnN m.b r,(tookN f m.a m.bad m.un).bad,(tookN f m.a m.bad m.un).un⟩:=cmA_at e
  have hfok:SfOk f:=ok.b.f f (by rw [e];exact List.mem_cons_self ..)
  have hll:m.b.ln.length=r.length+1:=by rw [e];rfl
  have hr40:r.length≤40:=by have:=ok.b.l;omega
  have CDROP:=hide (sDrop h.b e)
  have H:=hide h
  rw [hll] at hla
  rw [hla] at c12
  have HST:=hide hst
  clear h hst hla
  go_enter Tryz.func51,Tryz.ntmps51
  go_wp2_with fail
  refine (uh CDROP).mono ?_
  rintro e9 w1 ⟨rfl,lb1,hs1,hf1⟩
  obtain ⟨hM1,hF1⟩:=(uh H).setB hs1 rfl hf1 (Or.inl rfl)
  have hb2:Below w1.heap.size w1 (w1.alloc (.cells #[.string f.bytes,.string f.text] 93)):=(Below.refl _ _).alloc (Nat.le_refl _) _
  have hP2:=heap_alloc_new w1 (.cells #[.string f.bytes,.string f.text] 93)
  have HM2:=hide (And.intro (hM1.step hb2) (And.intro (hF1.trans (Fz.of_below hb2)) (And.intro hP2 (fun g hg=>(hM1.kk g hg).2))))
  clear hs1 hf1 hM1 hF1 hb2 hP2 CDROP c12 H
  go_upto_region 2 with fail
  generalize w1.heap.size=P0 at HM2 ⊢
  generalize w1.alloc (.cells #[.string f.bytes,.string f.text] 93)=w2 at HM2 ⊢
  have hok2:=hfok.c
  have CDE:=hide fun (q:World)=>specDefrAll m.a.df.wd m.a.df.x m.a.df.inn m.a.df.esc m.a.df.long m.a.df.tx f.bytes q (by have:=ok.a.d.tx;unfold maxLen;omega) (by unfold maxLen;omega)
  obtain ⟨A,hA⟩:∃ A,ansOf m.a.df.wd m.a.df.x m.a.df.inn m.a.df.esc m.a.df.long m.a.df.tx f.bytes=A:=⟨_,rfl⟩
  rw [hA] at CDE
  have hA2:ansD m.a.df f.bytes=A:=hA
  go_cut [9] (fun v wx=>Cd w2 A v wx)
  case first =>
   have rg0:w2.drew.rangeAt Sa 6 (dmC m.a.df):=(uh HM2).1.a.dm
   have cb0:w2.drew.cell? ⟨P0,0,none⟩=some (.string f.bytes):=by rw [cr (w:=w2.drew) (uh HM2).2.2.1];rfl
   have hbd:Below w2.heap.size w2 w2.drew:=(Below.refl _ _).drew
   have HBD:=hide hbd
   have HSS:Hid (∀ q:World,Below w2.heap.size w2 q→q.rangeAt Sa 6 (dmC m.a.df)∧q.cell? ⟨P0,0,none⟩=some (.string f.bytes)):=hide fun q hq=>⟨((uh HM2).1.step hq).a.dm,by rw [cr ((hq.block P0 (Array.getElem?_eq_some_iff.1 (uh HM2).2.2.1).1).trans (uh HM2).2.2.1)];rfl⟩
   refine wp_region_held_drew (S:=fun z=>z.rangeAt Sa 6 (dmC m.a.df)∧z.cell? ⟨P0,0,none⟩=some (.string f.bytes)) (by kernel_rfl) ⟨rg0,cb0⟩ (fun hHeld=>?_)
   have hS0:w2.drew.rangeAt Sa 6 (dmC m.a.df)∧w2.drew.cell? ⟨P0,0,none⟩=some (.string f.bytes):=⟨rg0,cb0⟩
   clear hHeld hbd rg0 cb0
   refine t2 0 ?_
   refine t2 1 ?_
   refine t2 2 ?_
   refine t4 3 (.agg (dmC m.a.df).toArray) rfl (yieldsIf_load_mid (by rfl) 59 (.tmp 25) rfl Sa 6 rfl (dmC m.a.df) _ (fun _ h=>h.1) Tryz.underlying59 rfl (by exact infoD6)) ?_
   try simp only [Act.put,sA,sZ,sS,gA,gZ,gS]
   refine t2 4 ?_
   refine t2 5 ?_
   generalize w2.drew=wd at HBD hS0 ⊢
   refine wpAnyH_ready (rs:=[6,7]) (by kernel_rfl) (by simp) (AllReadyH.cons rfl (fun K hK=>?_) (AllReadyH.cons rfl (fun K hK=>?_) (AllReadyH.nil)))
   ·go_simp
    refine (uh CDE wd).mono ?_
    rintro e9 q ⟨vf,rfl,⟨hv1,hv2⟩,hbq⟩
    obtain ⟨va,vc,rfl⟩:=hv1.form
    unfold ansV
    have hSq:=uh HSS q ((uh HBD).trans (hbq.mono (uh HBD).size))
    have HQ:=hide (And.intro hv1 (And.intro hv2 hbq))
    clear hv1 hv2 hbq CDE
    refine ro hK hSq fun _=>?_
    clear hK K
    refine r1 7 rfl (fun K hK=>?_)
    have hr8:=heap_alloc_new q (.cells #[.bool false,.int .i64 0,.bool false,.bool false,.bool false,.string ⟨#[]⟩,.slice none 0 0,.int .i64 0] 121)
    have hb8:Below q.heap.size q (q.alloc (.cells #[.bool false,.int .i64 0,.bool false,.bool false,.bool false,.string ⟨#[]⟩,.slice none 0 0,.int .i64 0] 121)):=(Below.refl _ _).alloc (Nat.le_refl _) _
    have hSq8:=uh HSS _ (((uh HBD).trans ((uh HQ).2.2.mono (uh HBD).size)).trans (hb8.mono (Nat.le_trans (uh HBD).size (uh HQ).2.2.size)))
    go_simp
    refine ro hK hSq8 fun _=>?_
    clear hK K
    refine r1 8 rfl (fun K hK=>?_)
    rw [if_pos (by rfl)]
    have hall:(#[.bool A.wide,.int .i64 A.x,.bool A.inn,.bool A.esc,.bool A.long,.string A.text,.slice va A.F.length vc,.int .i64 A.code]:Array Value).all (·.oneCell')=true:=by kernel_rfl
    refine wp_store_row 121 (.tmp 9) (.tmp 29) rfl q.heap.size #[.bool A.wide,.int .i64 A.x,.bool A.inn,.bool A.esc,.bool A.long,.string A.text,.slice va A.F.length vc,.int .i64 A.code] rfl rfl 121 _ hr8 infoD8 rfl hall ?_
    rw [World.setRow_alloc_new]
    have hb9:Below q.heap.size q (q.alloc (.cells #[.bool A.wide,.int .i64 A.x,.bool A.inn,.bool A.esc,.bool A.long,.string A.text,.slice va A.F.length vc,.int .i64 A.code] 121)):=(Below.refl _ _).alloc (Nat.le_refl _) _
    have hbw:=((uh HBD).trans ((uh HQ).2.2.mono (uh HBD).size)).trans (hb9.mono (Nat.le_trans (uh HBD).size (uh HQ).2.2.size))
    have hS9:=uh HSS _ hbw
    have HCD:Hid (Cd w2 A (.pointer (some ⟨q.heap.size,0,none⟩)) (q.alloc (.cells #[.bool A.wide,.int .i64 A.x,.bool A.inn,.bool A.esc,.bool A.long,.string A.text,.slice va A.F.length vc,.int .i64 A.code] 121))):=hide ⟨q.heap.size,_,rfl,heap_alloc_new _ _,(uh HQ).1.below hb9,fun g hg=>Nat.le_trans (uh HBD).size ((uh HQ).2.1 g hg),Nat.le_trans (uh HBD).size (uh HQ).2.2.size,hbw⟩
    refine ro hK hS9 fun _=>?_
    clear hK K hr8 hb8 hSq8 hSq hb9 hbw hS9 hall
    refine dn ?_ _
    go_wp2_with fail
    go_meet
    exact uh HCD
   ·have hr8:=heap_alloc_new wd (.cells #[.bool false,.int .i64 0,.bool false,.bool false,.bool false,.string ⟨#[]⟩,.slice none 0 0,.int .i64 0] 121)
    have hb8:Below wd.heap.size wd (wd.alloc (.cells #[.bool false,.int .i64 0,.bool false,.bool false,.bool false,.string ⟨#[]⟩,.slice none 0 0,.int .i64 0] 121)):=(Below.refl _ _).alloc (Nat.le_refl _) _
    have hz8:(wd.alloc (.cells #[.bool false,.int .i64 0,.bool false,.bool false,.bool false,.string ⟨#[]⟩,.slice none 0 0,.int .i64 0] 121)).heap.size=wd.heap.size+1:=by simp
    have hSq8:=uh HSS _ ((uh HBD).trans (hb8.mono (uh HBD).size))
    go_simp
    refine ro hK hSq8 fun _=>?_
    clear hK K
    refine r1 6 rfl (fun K hK=>?_)
    go_simp
    refine (uh CDE (wd.alloc (.cells #[.bool false,.int .i64 0,.bool false,.bool false,.bool false,.string ⟨#[]⟩,.slice none 0 0,.int .i64 0] 121))).mono ?_
    rintro e9 q ⟨vf,rfl,⟨hv1,hv2⟩,hbq⟩
    obtain ⟨va,vc,rfl⟩:=hv1.form
    unfold ansV
    have hbq2:Below w2.heap.size w2 q:=(uh HBD).trans ((hb8.trans (hbq.mono hb8.size)).mono (uh HBD).size)
    have hSq:=uh HSS q hbq2
    have hrq:=(hbq.block wd.heap.size (by rw [hz8];omega)).trans hr8
    have HQ:=hide (And.intro hv1 (And.intro hv2 (And.intro hbq hbq2)))
    clear hv1 hv2 hbq CDE hSq8 hbq2
    refine ro hK hSq fun _=>?_
    clear hK K
    refine r1 8 rfl (fun K hK=>?_)
    rw [if_pos (by rfl)]
    have hall:(#[.bool A.wide,.int .i64 A.x,.bool A.inn,.bool A.esc,.bool A.long,.string A.text,.slice va A.F.length vc,.int .i64 A.code]:Array Value).all (·.oneCell')=true:=by kernel_rfl
    refine wp_store_row 121 (.tmp 9) (.tmp 29) rfl wd.heap.size #[.bool A.wide,.int .i64 A.x,.bool A.inn,.bool A.esc,.bool A.long,.string A.text,.slice va A.F.length vc,.int .i64 A.code] rfl rfl 121 _ hrq infoD8 rfl hall ?_
    have hbw:=below_setRow (uh HQ).2.2.2 (uh HBD).size #[.bool A.wide,.int .i64 A.x,.bool A.inn,.bool A.esc,.bool A.long,.string A.text,.slice va A.F.length vc,.int .i64 A.code]
    have hS9:=uh HSS _ hbw
    have HCD:Hid (Cd w2 A (.pointer (some ⟨wd.heap.size,0,none⟩)) (q.setRow wd.heap.size #[.bool A.wide,.int .i64 A.x,.bool A.inn,.bool A.esc,.bool A.long,.string A.text,.slice va A.F.length vc,.int .i64 A.code])):=hide ⟨wd.heap.size,_,rfl,setRow_heap _ _ _ _ _ _ hrq,(uh HQ).1.same fun g hg=>setRow_other _ _ _ _ (by have:=(uh HQ).2.1 g hg;omega),fun g hg=>by have:=(uh HQ).2.1 g hg;have:=(uh HBD).size;omega,(uh HBD).size,hbw⟩
    refine ro hK hS9 fun _=>?_
    clear hK K hr8 hb8 hSq hbw hS9 hall hrq hz8
    refine dn ?_ _
    go_wp2_with fail
    go_meet
    exact uh HCD
  case rest =>
   obtain ⟨P,vf,rfl,hP,hvF,hvo,hPge,hbx⟩:=hcut
   rename World=>w3
   have hM3:=(uh HM2).1.step hbx
   have hP0:=(hbx.block P0 (Array.getElem?_eq_some_iff.1 (uh HM2).2.2.1).1).trans (uh HM2).2.2.1
   have hF3:=(uh HM2).2.1.trans (Fz.of_below hbx)
   have hown0:∀ g,K3 la lb1 gv g→g≠P0:=fun g hg=>by have:=(uh HM2).2.2.2 g hg;omega
   have HM2b:=hide trivial
   have hg0w:=hide trivial
   obtain ⟨va,vc,rfl⟩:=hvF.form
   have rgE:w3.rangeAt P 0 (dmC (dmOf A)):=by
    have h1:w3.heap[P]?=some (.cells ([] ++ dmC (dmOf A) ++ [Value.slice va A.F.length vc,Value.int .i64 A.code]).toArray 121):=hP
    exact range_blk h1
   have thB:=hM3.a.there 6 6 (by omega)
   have hD4:=hM3.setA (hM3.a.setD (dmOf A)) (Fz.cells Sa (Kv la) w3 6 (dmC (dmOf A))) (Or.inl rfl)
   have hone:(dmC (dmOf A)).toArray.all (·.oneCell')=true:=by kernel_rfl
   have hF4:=hF3.trans hD4.2
   have hst4:∀ (g:Nat) (cur:Array Value),w3.heap[g]?=some (.cells cur 113)→(w3.setCells Sa 6 (dmC (dmOf A))).heap[g]?=some (.cells cur 113):=fun g cur hg=>hM3.stand hD4.2 g _ _ (by decide) (by decide) (by decide) (by decide) hg
   have hP04:=(hD4.2.same P0 (Array.getElem?_eq_some_iff.1 hP0).1 (fun e=>by
    rcases e with e | e | e
    ·exact typ_ne hP0 hM3.a.row (by decide) e
    ·exact typ_ne hP0 hM3.b.row (by decide) e
    ·exact typ_ne hP0 hM3.w (by decide) e) (fun e=>hown0 P0 e rfl)).trans hP0
   have H4:=hide (And.intro hD4.1 (And.intro hF4 (And.intro (hM3.stand hD4.2 P _ _ (by decide) (by decide) (by decide) (by decide) hP) (And.intro hP04 (holdsF_st hvF hst4)))))
   clear CDE hD4 hvF hvo hPge hbx HM2 hst4 hP0 hP04 hF3 hF4 hM3 hP
   go_upto_region 4 with (first
    | (refine wpList_load_mid rfl 59 (.tmp 31) rfl P 0 rfl (dmC (dmOf A)) _ rgE Tryz.underlying59 rfl (by exact infoD6) ?_)
    | (refine wpList_store_mid rfl 59 (.tmp 34) (.tmp 32) rfl Sa 6 (dmC (dmOf A)).toArray rfl rfl (by exact thB) (by exact infoD6) hone ?_))
   generalize w3.setCells Sa 6 (dmC (dmOf A))=w4 at H4 ⊢
   clear rgE thB hone
   have hFl:A.F.length≤206:=by rw [← hA];exact ansD_F hfok.c
   have hFt:∀ f ∈ A.F,f.text.length≤304:=by rw [← hA];exact ansD_txt (d:=m.a.df) ok.a.d (t:=f.bytes)
   have htk:TkOk na c ⟨dfN m.a f.bytes,m.bad,m.un,0⟩:=⟨df_ok ok.a hfok.c,ok.bd,ok.un⟩
   have hst:=uh HST
   unfold tookN at hst
   rw [hA2] at hst
   replace HST:=hide hst
   clear hst
   obtain ⟨x0,hx0⟩:∃ x0:Tk,(⟨dfN m.a f.bytes,m.bad,m.un,0⟩:Tk)=x0:=⟨_,rfl⟩
   have hg0:x0.good=0:=by rw [← hx0]
   have hM4:MS base Sa Sb Ww ⟨x0.s,lnN m.b r,x0.bad,x0.un⟩ w4 (K3 la lb1 gv):=⟨_,_,_,_,_,by
    have h:=(uh H4).1
    rw [← hx0]
    unfold dfN
    rw [hA2]
    exact h,rfl⟩
   rw [hx0] at htk
   have hx0':=hide hx0
   rw [hx0] at HST
   obtain ⟨k4,hk4⟩:∃ k4:Nat→Prop,K3 la lb1 gv=k4:=⟨_,rfl⟩
   have KEEP:Hid (∀ y K',Fz (E3 Sa Sb Ww) k4 K' w4 y→y.heap[P]?=some (.cells #[.bool A.wide,.int .i64 A.x,.bool A.inn,.bool A.esc,.bool A.long,.string A.text,.slice va A.F.length vc,.int .i64 A.code] 121)∧y.heap[P0]?=some (.cells #[.string f.bytes,.string f.text] 93)∧HoldsF y (.slice va A.F.length vc) A.F∧Fz (E3 Sa Sb Ww) (K3 la lb gv) K' W y):=hide fun y K' hy=>by
    rw [← hk4] at hy
    obtain ⟨h1,h2,h3,h4,h5⟩:=uh H4
    refine ⟨h1.stand hy P _ _ (by decide) (by decide) (by decide) (by decide) h3,(hy.same P0 (Array.getElem?_eq_some_iff.1 h4).1 (fun e=>?_) (fun e=>hown0 P0 e rfl)).trans h4,holdsF_st h5 fun g cur hg=>h1.stand hy g _ _ (by decide) (by decide) (by decide) (by decide) hg,h2.trans hy⟩
    rcases e with e | e | e
    ·exact typ_ne h4 h1.a.row (by decide) e
    ·exact typ_ne h4 h1.b.row (by decide) e
    ·exact typ_ne h4 h1.w (by decide) e
   have HM4:=hide hM4
   rw [hk4] at HM4
   have HTK:=hide htk
   have HFT:=hide hFt
   clear hA hA2 hM4 htk hFt hx0 H4 hk4 HM2b hown0 hg0w
   generalize A.F=F at *
   generalize hq:F.length=q at *
   generalize A.wide=a0 at *
   generalize A.x=a1 at *
   generalize A.inn=a2 at *
   generalize A.esc=a3 at *
   generalize A.long=a4 at *
   generalize A.text=a5 at *
   generalize A.code=a7 at *
   clear hx0'
   go_upto_region 6 with fail
   go_loopw [10,11] (fun gd p wr=>∃ j:Nat,j≤q∧p=.int .i64 j∧gd=.int .i64 (((F.take j).foldl (take1 f.text) x0).good:Int)∧∃ K',MS base Sa Sb Ww ⟨((F.take j).foldl (take1 f.text) x0).s,lnN m.b r,((F.take j).foldl (take1 f.text) x0).bad,((F.take j).foldl (take1 f.text) x0).un⟩ wr K'∧Fz (E3 Sa Sb Ww) k4 K' w4 wr) (fun _ p _=>q - (intOf p).toNat)
   case atStart=>exact ⟨0,Nat.zero_le _,rfl,by show _=Value.int .i64 (x0.good:Int);rw [hg0];rfl,k4,uh HM4,Fz.refl _ _ _⟩
   case round =>
    obtain ⟨j,hj,rfl,rfl,K9,hM9,hf9⟩:=hrel
    by_cases hlt:j<q
    ·have d1:(j:Int)<(q:Int):=by omega
     have hjF:j<F.length:=by omega
     have HST2:Hid ((F.take (j+1)).foldl (take1 f.text) x0=take1 f.text ((F.take j).foldl (take1 f.text) x0) F[j]):=hide (by
      rw [← List.take_append_getElem hjF,List.foldl_append]
      rfl)
     have hdt:F[j].text.length≤304:=uh HFT _ (List.getElem_mem hjF)
     have htj:TkOk (na+206) (c+206) ((F.take j).foldl (take1 f.text) x0):=(fold_ok f.text (F.take j) _ _ x0 (uh HTK)).mono (by rw [List.length_take];omega) (by rw [List.length_take];omega)
     have hgj:=fold_good f.text (F.take j) x0
     rw [List.length_take] at hgj
     obtain ⟨k1,k2,k3,k5⟩:=uh KEEP wr K9 hf9
     obtain ⟨g,eva,cur,q1,q3⟩:∃ g,va=some ⟨g,0,none⟩∧∃ cur,wr.heap[g]?=some (.cells cur 113)∧∀ j,j<F.length*2→cur[j]?=(fcells F)[j]?:=by
      rcases k3 with ⟨ad,cp,e,e2⟩ | ⟨g,cp,cur,e,q1,_,q3⟩
      ·rw [e2] at hq;simp at hq;omega
      ·injection e with e _ _
       exact ⟨g,e,cur,q1,fun j hj=>q3 j (by omega)⟩
     subst eva
     obtain ⟨y0,y1⟩:=fd_at q1 q3 hjF
     have hdk:(txt F[j].text).size≤304:=by rw [txt_size];exact hdt
     obtain ⟨d,hd⟩:∃ d,F[j]=d:=⟨_,rfl⟩
     rw [hd] at HST2 y0 y1 hdk
     have hdj:=hd
     obtain ⟨x,hx⟩:∃ x,(F.take j).foldl (take1 f.text) x0=x:=⟨_,rfl⟩
     rw [hx] at HST2 hM9 htj hgj ⊢
     have hbx:=htj.b
     have hux:=htj.u
     have hgx:x.good≤300:=by omega
     obtain ⟨kz,hkz⟩:∃ kz:Int,(d.kind:Int)=kz:=⟨_,rfl⟩
     rw [hkz] at y0
     obtain ⟨qa,la',qb,lb',gv',hM9',rfl⟩:=hM9
     obtain ⟨_,_,_,cb,cu⟩:=hM9'.cells
     have cF:wr.cell? ⟨P,6,none⟩=some (.slice (some ⟨g,0,none⟩) q vc):=by rw [cr k1];rfl
     have cT:wr.cell? ⟨P0,1,none⟩=some (.string f.text):=by rw [cr k2];rfl
     have fb:=hM9'.frW 3
     have fu:=hM9'.frW 4
     have hlp:=htj.s
     have HM5:=hide (And.intro hM9' (And.intro hf9 hlp))
     have HK5:=hide k5
     clear hf9 q1 q3 k1 k2 k3 k5 hd hx hgj htj hlp hdt hM9'
     have hwb:=wrap_i x.bad hbx.1 (by omega)
     have hwu:=wrap_i x.un hux.1 (by omega)
     have HW:=hide (And.intro hwb hwu)
     have HKZ:=hide hkz
     clear hkz
     by_cases hk1:d.kind=1
     ·have e1:(kz == 1)=true:=beq_iff_eq.2 (by have:=uh HKZ;omega)
      have e2:(kz != 1)=false:=by rw [bne,e1];rfl
      go_upto_region 11 with fail
      have HUB:=hide (And.intro hbx hux)
      clear hbx hux cb cu fb fu
      have e3x:=hide trivial
      go_cut [71] (fun v wx=>v=.bool (decide (0<x.good∨txt d.text≠f.text))∧Below wr.heap.size wr wx)
      case first =>
       have hbd:∀ n,Below wr.heap.size wr (wr.drewN n):=fun n=>⟨rfl,rfl,rfl,Nat.le_refl _,fun _ _=>rfl⟩
       by_cases hg1:0<x.good
       ·have dg:(1:Int)<(x.good:Int)+1:=by omega
        have dg':decide ((1:Int)<(x.good:Int)+1)=true:=decide_eq_true dg
        have HR:=hide (fun n=>And.intro (show (Value.bool true)=.bool (decide (0<x.good∨txt d.text≠f.text)) by rw [decide_eq_true (Or.inl hg1)]) (hbd n))
        clear hbd hk1
        go_quiet (fail)
        go_wp2_with fail
        go_meet
        exact uh HR _
       ·have dg:¬ ((1:Int)<(x.good:Int)+1):=by omega
        have dg':decide ((1:Int)<(x.good:Int)+1)=false:=decide_eq_false dg
        by_cases het:txt d.text=f.text
        ·have HR:=hide (fun n=>And.intro (show (Value.bool false)=.bool (decide (0<x.good∨txt d.text≠f.text)) by rw [decide_eq_false (fun e=>e.elim hg1 (fun e=>e het))]) (hbd n))
         rw [het] at y1
         clear hbd hk1 hg1 het
         go_quiet (fail)
         go_wp2_with fail
         go_meet
         exact uh HR _
        ·have e3:((txt d.text).toList == f.text.toList)=false:=beq_eq_false_iff_ne.2 fun e=>het (by
          rw [ByteArray.toList_eq,ByteArray.toList_eq] at e
          exact ByteArray.ext (Array.ext' e))
         have HR:=hide (fun n=>And.intro (show (Value.bool true)=.bool (decide (0<x.good∨txt d.text≠f.text)) by rw [decide_eq_true (Or.inr het)]) (hbd n))
         clear hbd hk1 hg1 het
         go_quiet (fail)
         go_wp2_with fail
         go_meet
         exact uh HR _
      case rest =>
       obtain ⟨rfl,hbx⟩:=hcut
       rename World=>w5
       have hM5:=(uh HM5).1.step hbx
       have hf5:=(uh HM5).2.1.trans (Fz.of_below hbx)
       have kk5:=uh KEEP _ _ hf5
       obtain ⟨u2,hu2⟩:∃ u2:Int,(if 0<x.good∨txt d.text≠f.text then x.un+1 else x.un)=u2:=⟨_,rfl⟩
       have HT1:Hid (take1 f.text x d=⟨hearN x.s (txt d.text),x.bad,u2,x.good+1⟩):=hide (by
        unfold take1
        rw [if_pos hk1,hu2])
       go_upto_if 71 with fail
       go_cut [] (fun wx=>∃ K',MS base Sa Sb Ww ⟨x.s,lnN m.b r,x.bad,u2⟩ wx K'∧Fz (E3 Sa Sb Ww) k4 K' w4 wx)
       case first =>
        by_cases hun:0<x.good∨txt d.text≠f.text
        ·rw [if_pos hun] at hu2
         rw [decide_eq_true hun]
         subst hu2
         obtain ⟨_,_,_,cb,cu⟩:=hM5.cells
         have fu:=hM5.frW 4
         have hwu:=(uh HW).2
         have HR:Hid (∃ K',MS base Sa Sb Ww ⟨x.s,lnN m.b r,x.bad,x.un+1⟩ (w5.setCell ⟨Ww,4,none⟩ (.int .i64 (x.un+1))) K'∧Fz (E3 Sa Sb Ww) k4 K' w4 (w5.setCell ⟨Ww,4,none⟩ (.int .i64 (x.un+1)))):=hide ⟨_,⟨_,_,_,_,_,(hM5.setUn (x.un+1)).1,rfl⟩,hf5.trans (hM5.setUn (x.un+1)).2⟩
         clear hM5 hf5 kk5 hun hk1
         go_wp2_with fail
         go_meet
         exact uh HR
        ·rw [if_neg hun] at hu2
         rw [decide_eq_false hun]
         subst hu2
         have HR:Hid (∃ K',MS base Sa Sb Ww ⟨x.s,lnN m.b r,x.bad,x.un⟩ w5 K'∧Fz (E3 Sa Sb Ww) k4 K' w4 w5):=hide ⟨_,⟨_,_,_,_,_,hM5,rfl⟩,hf5⟩
         clear hM5 hf5 kk5 hun hk1
         go_wp2_with fail
         go_meet
         exact uh HR
       case rest =>
        obtain ⟨K6,hM6,hf6⟩:=hcut
        rename World=>w6
        clear hM5 hf5 kk5 hbx e3x
        obtain ⟨k1,k2,k3,k5⟩:=uh KEEP _ _ hf6
        obtain ⟨cur6,r1',r3'⟩:∃ cur,w6.heap[g]?=some (.cells cur 113)∧∀ j,j<F.length*2→cur[j]?=(fcells F)[j]?:=by
         rcases k3 with ⟨ad,cp,e,e2⟩ | ⟨g',cp,cur,e,q1,_,q3⟩
         ·rw [e2] at hq;simp at hq;omega
         ·injection e with e _ _
          injection e with e
          injection e with e
          rw [← e] at q1
          exact ⟨cur,q1,fun j hj=>q3 j (by omega)⟩
        obtain ⟨_,y1⟩:=fd_at r1' r3' hjF
        rw [hdj] at y1
        have cF:w6.cell? ⟨P,6,none⟩=some (.slice (some ⟨g,0,none⟩) q vc):=by rw [cr k1];rfl
        have H6:=hide (And.intro hM6 (And.intro hf6 k5))
        have CU:=hide fun v=>specUnpAll (txt d.text) v (by unfold maxLen;omega)
        have hhr:Hid (∀ s,(if (Pp.unpack (txt d.text).data.toList).proto=33 then followN s (hearLF s.p s.Q (nbRead (txt (Pp.unpack (txt d.text).data.toList).text))) else s)=hearN s (txt d.text)):=hide fun s=>rfl
        obtain ⟨PP,hPP⟩:∃ PP,Pp.unpack (txt d.text).data.toList=PP:=⟨_,rfl⟩
        have hpl:PP.text.length≤304:=by
         have h1:=unp_len (txt d.text).data.toList
         rw [Array.length_toList] at h1
         have h2:(txt d.text).data.size=(txt d.text).size:=rfl
         rw [← hPP]
         omega
        have hpc:PP.proto=33→PP.code=0:=by rw [← hPP];exact unp_code _
        rw [hPP] at CU hhr
        clear hPP hk1 k1 k2 k3 k5 hM6 hf6 r1' r3'
        obtain ⟨pr,pt,pc⟩:=PP
        unfold outV at CU
        dsimp only at CU hhr hpl hpc
        generalize txt d.text=dt at *
        go_wp2_with fail
        refine (uh CU _).mono ?_
        rintro e w7 ⟨rfl,hb7⟩
        have HB7:=hide hb7
        clear hb7 CU cF y1
        go_upto_region 14 with fail
        have hb8:Below w7.heap.size w7 (w7.alloc (.cells #[.int .i64 pr,.string (txt pt),.int .i64 pc] 124)):=(Below.refl _ _).alloc (Nat.le_refl _) _
        have r8:=heap_alloc_new w7 (.cells #[.int .i64 pr,.string (txt pt),.int .i64 pc] 124)
        have HB8:=hide (And.intro ((uh HB7).trans (hb8.mono (uh HB7).size)) (uh HB7).size)
        clear hb8 HB7
        generalize w7.heap.size=N8 at r8 HB8 ⊢
        generalize w7.alloc (.cells #[.int .i64 pr,.string (txt pt),.int .i64 pc] 124)=w8 at r8 HB8 ⊢
        have c1:w8.cell? ⟨N8,1,none⟩=some (.string (txt pt)):=by rw [cr r8];rfl
        have CR:=hide fun v=>sNbRead (txt pt) v (by rw [txt_size];unfold maxLen;omega)
        have hkk:=nbRead_kind (txt pt)
        obtain ⟨n9,hn9⟩:∃ n9,nbRead (txt pt)=n9:=⟨_,rfl⟩
        rw [hn9] at CR hhr hkk
        clear hn9
        go_wp2_with fail
        refine (uh CR _).mono ?_
        rintro e w9 ⟨rfl,hb9⟩
        have H9:=hide (And.intro ((uh HB8).1.trans (hb9.mono (uh HB8).1.size)) (And.intro ((hb9.block _ (Array.getElem?_eq_some_iff.1 r8).1).trans r8) (And.intro (uh HB8).2 hb9.size)))
        have hN8:=(Array.getElem?_eq_some_iff.1 r8).1
        clear hb9 HB8 r8 c1 CR
        obtain ⟨n1,n2,n3,n4⟩:=n9
        unfold nbV
        dsimp only
        go_upto_region 15 with fail
        have hb10:Below w9.heap.size w9 (w9.alloc (.cells #[.int .i64 n1,.int .i64 n2,.int .i64 n3,.string n4] 96)):=(Below.refl _ _).alloc (Nat.le_refl _) _
        have r10:=heap_alloc_new w9 (.cells #[.int .i64 n1,.int .i64 n2,.int .i64 n3,.string n4] 96)
        have r8:=(hb10.block N8 (Array.getElem?_eq_some_iff.1 (uh H9).2.1).1).trans (uh H9).2.1
        have HB10:=hide ((uh H9).1.trans (hb10.mono (uh H9).1.size))
        have hN8b:=(uh H9).2.2.1
        have hN9b:=(uh H9).1.size
        clear hb10 H9
        generalize w9.heap.size=N9 at *
        generalize w9.alloc (.cells #[.int .i64 n1,.int .i64 n2,.int .i64 n3,.string n4] 96)=w10 at *
        have c0:w10.cell? ⟨N8,0,none⟩=some (.int .i64 pr):=by rw [cr r8];rfl
        have c2:w10.cell? ⟨N8,2,none⟩=some (.int .i64 pc):=by rw [cr r8];rfl
        obtain ⟨b0,b1,b2,b3⟩:=row4h r10
        have H10:Hid (MS base Sa Sb Ww ⟨x.s,lnN m.b r,x.bad,u2⟩ w10 K6∧Fz (E3 Sa Sb Ww) k4 K6 w4 w10):=hide ⟨(uh H6).1.step (uh HB10),(uh H6).2.1.trans (Fz.of_below (uh HB10))⟩
        have HR10:=hide r10
        clear r8 r10 HB10 hN8b hN9b hN8
        have hQ3:=fun a b xs ys W=>grdNb .eql a b xs ys W
        by_cases h33:pr=33
        ·have hpc0:=hpc h33
         subst h33 hpc0
         have d33:((33:Int) != 33)=false:=rfl
         have d00:((0:Int) != 0)=false:=rfl
         rcases hkk with hz | hk0
         ·injection hz with z1 z2 z3 z4
          subst z1 z2 z3 z4
          have HRR:Hid (hearN x.s dt=x.s):=hide (by
           rw [← uh hhr x.s,if_pos rfl]
           exact hear_zero x.s)
          clear hhr hpc
          have hQ1:=eqlNb 0 0 0 ⟨#[]⟩
          go_wp2_with fail
          refine ⟨⟨j+1,by omega,by go_num,?_,K6,?_,?_⟩,by simp [intOf];omega⟩
          ·rw [uh HST2,uh HT1]
           simp
          ·rw [uh HST2,uh HT1,uh HRR]
           exact (uh H10).1
          ·exact (uh H10).2
         ·have hQ1:=eqlNb0 n1 n2 n3 n4 hk0
          go_upto_region 16 with fail
          obtain ⟨fN,hfN⟩:∃ fN:Nb,(⟨n1,n2,n3,n4⟩:Nb)=fN:=⟨_,rfl⟩
          have hH:=uh hhr x.s
          rw [if_pos rfl,hfN] at hH
          obtain ⟨qa7,la7,qb7,lb7,gv7,hM10,hK10⟩:=(uh H10).1
          have hF10:=(uh H10).2
          rw [hK10] at hF10
          have hxo:NlOk (na+206) x.s:=(uh HM5).2.2
          obtain ⟨qx,qc,hqv⟩:=hM10.a.hq.form
          have hfine:=fine_hear x.s.p x.s.Q fN
          have hq20:x.s.Q.length≤1048576:=by have:=(lpRt hxo.p).l20;omega
          have CH:Hid (∀ z1:World,Below w10.heap.size w10 z1→Calls Tryz.prog 78 #[.agg (lpC x.s.p (.slice qx x.s.Q.length qc)),nbV fN] z1 fun e q=>AnsW z1 (hearLF x.s.p x.s.Q fN) e q):=hide fun z1 hb=>sHearL x.s.p qx qc x.s.Q fN z1 hq20 (by
           have h:=(hM10.step hb).a.hq
           rw [hqv] at h
           exact h)
          obtain ⟨o,ho⟩:∃ o,hearLF x.s.p x.s.Q fN=o:=⟨_,rfl⟩
          rw [ho] at CH hH hfine
          have HSS:Hid (∀ z:World,Below w10.heap.size w10 z→Sh2 Sa N9 x.s.p (.slice qx x.s.Q.length qc) fN z):=hide fun z hz=>⟨by
           have h:=(hM10.step hz).a.lp
           rw [hqv] at h
           exact h,by
           have h:z.heap[N9]?=some (.cells ([] ++ [Value.int .i64 fN.kind,.int .i64 fN.ns,.int .i64 fN.nr,.string fN.text] ++ []).toArray 96):=by
            rw [← hfN]
            exact (hz.block N9 (Array.getElem?_eq_some_iff.1 (uh HR10)).1).trans (uh HR10)
           exact range_blk h⟩
          have HXX:=hide (And.intro hH (And.intro hM10 (And.intro hF10 (And.intro hxo hfine))))
          clear hH hM10 hF10 hxo hfine hqv hK10 ho hfN hq20 hhr hpc hQ1 hQ3 hk0 b0 b1 b2 b3 c0 c2
          go_cut [14] (fun v wx=>Ch w10 o v wx)
          case first =>
           have hbd:Below w10.heap.size w10 w10.drew:=(Below.refl _ _).drew
           have HBD:=hide hbd
           have hS0:=uh HSS _ hbd
           refine wp_region_held_drew (S:=Sh2 Sa N9 x.s.p (.slice qx x.s.Q.length qc) fN) (by kernel_rfl) hS0 (fun hHeld=>?_)
           clear hHeld hbd
           refine t2 0 ?_
           refine t2 1 ?_
           refine t2 2 ?_
           refine t4 3 (.agg (lpC x.s.p (.slice qx x.s.Q.length qc))) rfl (yieldsIf_load_mid (by rfl) 54 (.tmp 105) rfl Sa 0 rfl (lpC x.s.p (.slice qx x.s.Q.length qc)).toList _ (fun _ h=>h.1) Tryz.underlying54 rfl (by exact infoL6)) ?_
           try simp only [Act.put,sA,sZ,sS,gA,gZ,gS]
           refine t4 4 (nbV fN) rfl (yieldsIf_load_mid (by rfl) 96 (.tmp 13) rfl N9 0 rfl [.int .i64 fN.kind,.int .i64 fN.ns,.int .i64 fN.nr,.string fN.text] _ (fun _ h=>h.2) Tryz.underlying96 rfl (by exact infoN4)) ?_
           try simp only [Act.put,sA,sZ,sS,gA,gZ,gS]
           generalize w10.drew=wd at HBD hS0 ⊢
           refine wpAnyH_ready (rs:=[5,6]) (by kernel_rfl) (by simp) (AllReadyH.cons rfl (fun K hK=>?_) (AllReadyH.cons rfl (fun K hK=>?_) (AllReadyH.nil)))
           ·go_simp
            refine (uh CH wd (uh HBD)).mono ?_
            rintro e9 q9 ⟨v,vf,vg,rfl,hq1,hs1,hg1,l1,l2,l3,hbq⟩
            obtain ⟨va,vc,rfl⟩:=hq1.form
            obtain ⟨vfa,vfc,rfl⟩:=hs1.form
            obtain ⟨vga,vgc,rfl⟩:=hg1.form
            have hbq2:Below w10.heap.size w10 q9:=(uh HBD).trans (hbq.mono (uh HBD).size)
            have hSq:=uh HSS q9 hbq2
            have HQ:=hide (And.intro hq1 (And.intro hs1 (And.intro hg1 (And.intro l1 (And.intro hbq2 (Nat.le_trans (uh HBD).size hbq.size))))))
            clear hq1 hs1 hg1 l1 l2 l3 hbq hbq2 CH
            refine ro hK hSq fun _=>?_
            clear hK K
            refine r1 6 rfl (fun K hK=>?_)
            have hr8:=heap_alloc_new q9 (.cells #[.int .i64 0,.int .i64 0,.int .i64 0,.int .i64 0,.slice none 0 0,.bool false,.slice none 0 0,.slice none 0 0,.int .i64 0] 79)
            have hb8:Below q9.heap.size q9 (q9.alloc (.cells #[.int .i64 0,.int .i64 0,.int .i64 0,.int .i64 0,.slice none 0 0,.bool false,.slice none 0 0,.slice none 0 0,.int .i64 0] 79)):=(Below.refl _ _).alloc (Nat.le_refl _) _
            have hSq8:=uh HSS _ ((uh HQ).2.2.2.2.1.trans (hb8.mono (uh HQ).2.2.2.2.2))
            go_simp
            refine ro hK hSq8 fun _=>?_
            clear hK K
            refine r1 7 rfl (fun K hK=>?_)
            rw [if_pos (by rfl)]
            have hall:(loC o.p (.slice va o.Q.length vc) (.slice vfa o.sn.length vfc) (.slice vga o.gt.length vgc) o.cd).all (·.oneCell')=true:=by kernel_rfl
            refine wp_store_row 79 (.tmp 14) (.tmp 108) rfl q9.heap.size (loC o.p (.slice va o.Q.length vc) (.slice vfa o.sn.length vfc) (.slice vga o.gt.length vgc) o.cd) rfl rfl 79 _ hr8 infoL9 rfl hall ?_
            rw [World.setRow_alloc_new]
            have hb9:Below q9.heap.size q9 (q9.alloc (.cells (loC o.p (.slice va o.Q.length vc) (.slice vfa o.sn.length vfc) (.slice vga o.gt.length vgc) o.cd) 79)):=(Below.refl _ _).alloc (Nat.le_refl _) _
            have hbw:=(uh HQ).2.2.2.2.1.trans (hb9.mono (uh HQ).2.2.2.2.2)
            have hS9:=uh HSS _ hbw
            have HCD:Hid (Ch w10 o (.pointer (some ⟨q9.heap.size,0,none⟩)) (q9.alloc (.cells (loC o.p (.slice va o.Q.length vc) (.slice vfa o.sn.length vfc) (.slice vga o.gt.length vgc) o.cd) 79))):=hide ⟨q9.heap.size,_,_,_,rfl,heap_alloc_new _ _,(uh HQ).1.below hb9,(uh HQ).2.1.other (fun g _ _ e=>hb9.block g (Array.getElem?_eq_some_iff.1 e).1),(uh HQ).2.2.1.below hb9,fun g hg=>Nat.le_trans (uh HBD).size ((uh HQ).2.2.2.1 g hg),(uh HQ).2.2.2.2.2,hbw⟩
            refine ro hK hS9 fun _=>?_
            clear hK K hr8 hb8 hSq8 hSq hb9 hbw hS9 hall
            refine dn ?_ _
            go_wp2_with fail
            go_meet
            exact uh HCD
           ·have hr8:=heap_alloc_new wd (.cells #[.int .i64 0,.int .i64 0,.int .i64 0,.int .i64 0,.slice none 0 0,.bool false,.slice none 0 0,.slice none 0 0,.int .i64 0] 79)
            have hb8:Below wd.heap.size wd (wd.alloc (.cells #[.int .i64 0,.int .i64 0,.int .i64 0,.int .i64 0,.slice none 0 0,.bool false,.slice none 0 0,.slice none 0 0,.int .i64 0] 79)):=(Below.refl _ _).alloc (Nat.le_refl _) _
            have hz8:(wd.alloc (.cells #[.int .i64 0,.int .i64 0,.int .i64 0,.int .i64 0,.slice none 0 0,.bool false,.slice none 0 0,.slice none 0 0,.int .i64 0] 79)).heap.size=wd.heap.size+1:=by simp
            have hbw8:=(uh HBD).trans (hb8.mono (uh HBD).size)
            have hSq8:=uh HSS _ hbw8
            go_simp
            refine ro hK hSq8 fun _=>?_
            clear hK K
            refine r1 5 rfl (fun K hK=>?_)
            go_simp
            refine (uh CH _ hbw8).mono ?_
            rintro e9 q9 ⟨v,vf,vg,rfl,hq1,hs1,hg1,l1,l2,l3,hbq⟩
            obtain ⟨va,vc,rfl⟩:=hq1.form
            obtain ⟨vfa,vfc,rfl⟩:=hs1.form
            obtain ⟨vga,vgc,rfl⟩:=hg1.form
            have hbq2:Below w10.heap.size w10 q9:=(uh HBD).trans ((hb8.trans (hbq.mono hb8.size)).mono (uh HBD).size)
            have hSq:=uh HSS q9 hbq2
            have hrq:=(hbq.block wd.heap.size (by rw [hz8];omega)).trans hr8
            have HQ:=hide (And.intro hq1 (And.intro hs1 (And.intro hg1 (And.intro l1 (And.intro l2 (And.intro l3 hbq2))))))
            clear hq1 hs1 hg1 l1 l2 l3 hbq hbq2 CH hSq8
            refine ro hK hSq fun _=>?_
            clear hK K
            refine r1 7 rfl (fun K hK=>?_)
            rw [if_pos (by rfl)]
            have hall:(loC o.p (.slice va o.Q.length vc) (.slice vfa o.sn.length vfc) (.slice vga o.gt.length vgc) o.cd).all (·.oneCell')=true:=by kernel_rfl
            refine wp_store_row 79 (.tmp 14) (.tmp 108) rfl wd.heap.size (loC o.p (.slice va o.Q.length vc) (.slice vfa o.sn.length vfc) (.slice vga o.gt.length vgc) o.cd) rfl rfl 79 _ hrq infoL9 rfl hall ?_
            have hbw:=below_setRow (uh HQ).2.2.2.2.2.2 (uh HBD).size (loC o.p (.slice va o.Q.length vc) (.slice vfa o.sn.length vfc) (.slice vga o.gt.length vgc) o.cd)
            have hS9:=uh HSS _ hbw
            have HCD:Hid (Ch w10 o (.pointer (some ⟨wd.heap.size,0,none⟩)) (q9.setRow wd.heap.size (loC o.p (.slice va o.Q.length vc) (.slice vfa o.sn.length vfc) (.slice vga o.gt.length vgc) o.cd))):=hide ⟨wd.heap.size,_,_,_,rfl,setRow_heap _ _ _ _ _ _ hrq,(uh HQ).1.other (fun g _ hg _=>setRow_other _ _ _ _ (by have:=(uh HQ).2.2.2.1 g hg;omega)),(uh HQ).2.1.other (fun g _ hg _=>setRow_other _ _ _ _ (by have:=(uh HQ).2.2.2.2.1 g hg;omega)),(uh HQ).2.2.1.other (fun g _ hg _=>setRow_other _ _ _ _ (by have:=(uh HQ).2.2.2.2.2.1 g hg;omega)),fun g hg=>by have:=(uh HQ).2.2.2.1 g hg;have:=(uh HBD).size;omega,(uh HBD).size,hbw⟩
            refine ro hK hS9 fun _=>?_
            clear hK K hr8 hb8 hSq hbw hS9 hall hrq hz8 hbw8
            refine dn ?_ _
            go_wp2_with fail
            go_meet
            exact uh HCD
          case rest =>
           obtain ⟨PL,v1,v2,v3,rfl,hPL,hq1,hs1,hg1,l1,lP,hbx⟩:=hcut
           rename World=>w11
           obtain ⟨va,vc,rfl⟩:=hq1.form
           obtain ⟨vfa,vfc,rfl⟩:=hs1.form
           obtain ⟨vga,vgc,rfl⟩:=hg1.form
           have c8:w11.cell? ⟨PL,8,none⟩=some (.int .i64 o.cd):=by rw [cr hPL];rfl
           have hM11:=(uh HXX).2.1.step hbx
           have hF11:=(uh HXX).2.2.1.trans (Fz.of_below hbx)
           by_cases hcd:o.cd=0
           ·have hh:hearN x.s dt=⟨o.p,o.Q,(x.s.ln ++ o.sn.map frameOfF).take 40,x.s.df,x.s.gt ++ o.gt⟩:=by
             rw [← (uh HXX).1]
             unfold followN
             rw [if_pos hcd]
            have HRR:=hide hh
            have hS12:=hM11.a.setP o.p (.slice va o.Q.length vc) o.Q hq1.1 (fun g hg=>⟨Nat.le_trans (uh HXX).2.1.a.bs (l1 g hg),hq1.lt g hg⟩)
            have hM12:=(uh HXX).2.1.setA hS12 ((Fz.of_below hbx).trans (Fz.cells Sa (Kv la7) w11 0 (lpC o.p (.slice va o.Q.length vc)).toList)) (Or.inr l1)
            have hF12:=(uh HXX).2.2.1.trans hM12.2
            have ot12:∀ k,k≠Sa→(w11.setCells Sa 0 (lpC o.p (.slice va o.Q.length vc)).toList).heap[k]?=w11.heap[k]?:=fun k hk=>set_other3 hk _ _ _
            have hPL12:=(ot12 PL (typ_ne hPL hM11.a.row (by decide))).trans hPL
            have hs12:=hs1.other (fun g cur _ hg=>ot12 g (typ_ne hg hM11.a.row (by decide)))
            have hg12:=hg1.other (fun g cur _ hg=>ot12 g (typ_ne hg hM11.a.row (by decide)))
            have rgL:w11.rangeAt PL 0 (lpC o.p (.slice va o.Q.length vc)).toList:=by
             have h:w11.heap[PL]?=some (.cells ([] ++ (lpC o.p (.slice va o.Q.length vc)).toList ++ [Value.slice vfa o.sn.length vfc,Value.slice vga o.gt.length vgc,Value.int .i64 o.cd]).toArray 79):=hPL
             exact range_blk h
            have thB:=hM11.a.there 0 6 (by omega)
            have hone:(lpC o.p (.slice va o.Q.length vc)).all (·.oneCell')=true:=by kernel_rfl
            have H12:=hide (And.intro hM12.1 (And.intro hF12 (And.intro hPL12 (And.intro hs12 hg12))))
            clear hh hM12 hF12 hPL12 hs12 hg12 ot12 hS12 hM11 hF11 hPL hq1 hs1 hg1 l1 lP hbx
            go_upto_region 19 with (first
             | (refine wpList_load_mid rfl 54 (.tmp 113) rfl PL 0 rfl (lpC o.p (.slice va o.Q.length vc)).toList _ (by exact rgL) Tryz.underlying54 rfl (by exact infoL6) ?_)
             | (refine wpList_store_mid rfl 54 (.tmp 116) (.tmp 114) rfl Sa 0 (lpC o.p (.slice va o.Q.length vc)) rfl rfl (by exact thB) (by exact infoL6) hone ?_))
            generalize w11.setCells Sa 0 (lpC o.p (.slice va o.Q.length vc)).toList=w12 at H12 ⊢
            have c6:w12.cell? ⟨PL,6,none⟩=some (.slice vfa o.sn.length vfc):=by rw [cr (uh H12).2.2.1];rfl
            have CSEND:=hide (sSend (uh H12).1.a (uh H12).2.2.2.1 (by have:=(uh HXX).2.2.2.2.s;omega))
            clear rgL thB hone c8
            go_wp2_with fail
            refine (uh CSEND).mono ?_
            rintro e w13 ⟨rfl,vl13,hS13,hf13⟩
            have hM13:=(uh H12).1.setA (hS13.gt (x.s.gt ++ o.gt)) hf13 (Or.inl rfl)
            have hF13:=(uh H12).2.1.trans hM13.2
            obtain ⟨hM13,_⟩:=hM13
            have HEND:=hide (And.intro hM13 hF13)
            clear hS13 hf13 hM13 hF13 CSEND H12 c6
            go_wp2_with fail
            refine ⟨⟨j+1,by omega,by go_num,?_,_,?_,(uh HEND).2⟩,by simp [intOf];omega⟩
            ·rw [uh HST2,uh HT1]
             simp
            ·rw [uh HST2,uh HT1,uh HRR]
             exact ⟨_,_,_,_,_,(uh HEND).1,rfl⟩
           ·have hh:hearN x.s dt=x.s:=by
             rw [← (uh HXX).1]
             unfold followN
             rw [if_neg hcd]
            have ecd:(o.cd == 0)=false:=beq_eq_false_iff_ne.2 hcd
            have HRR:=hide hh
            have HMM:=hide (And.intro hM11 hF11)
            clear hh hcd hM11 hF11 hPL hq1 hs1 hg1 l1 lP hbx
            go_wp2_with fail
            refine ⟨⟨j+1,by omega,by go_num,?_,K3 la7 lb7 gv7,?_,?_⟩,by simp [intOf];omega⟩
            ·rw [uh HST2,uh HT1]
             simp
            ·rw [uh HST2,uh HT1,uh HRR]
             exact ⟨_,_,_,_,_,(uh HMM).1,rfl⟩
            ·exact (uh HMM).2
        ·have HRR:Hid (hearN x.s dt=x.s):=hide (by rw [← uh hhr x.s,if_neg h33])
         have e33:(pr == 33)=false:=beq_eq_false_iff_ne.2 h33
         have d33:(pr != 33)=true:=by rw [bne,e33];rfl
         clear hhr hpc h33 hkk
         by_cases hpz:pc=0
         ·subst hpz
          have d00:((0:Int) != 0)=false:=rfl
          go_wp2_with fail
          refine ⟨⟨j+1,by omega,by go_num,?_,K6,?_,?_⟩,by simp [intOf];omega⟩
          ·rw [uh HST2,uh HT1]
           simp
          ·rw [uh HST2,uh HT1,uh HRR]
           exact (uh H10).1
          ·exact (uh H10).2
         ·have e00:(pc == 0)=false:=beq_eq_false_iff_ne.2 hpz
          have d00:(pc != 0)=true:=by rw [bne,e00];rfl
          clear hpz
          go_wp2_with fail
          refine ⟨⟨j+1,by omega,by go_num,?_,K6,?_,?_⟩,by simp [intOf];omega⟩
          ·rw [uh HST2,uh HT1]
           simp
          ·rw [uh HST2,uh HT1,uh HRR]
           exact (uh H10).1
          ·exact (uh H10).2
     ·have e1:(kz == 1)=false:=beq_eq_false_iff_ne.2 (by have:=uh HKZ;omega)
      have e2:(kz != 1)=true:=by rw [bne,e1];rfl
      have HT1:=hide (take1_no (tx:=f.text) (x:=x) hk1)
      clear hk1
      go_wp2_with fail
      refine ⟨⟨j+1,by omega,by go_num,?_,K3 la' lb' gv',?_,?_⟩,by simp [intOf];omega⟩
      ·rw [uh HST2,uh HT1]
      ·rw [uh HST2,uh HT1]
       exact ⟨_,_,_,_,_,((uh HM5).1.setBad (x.bad+1)).1,rfl⟩
      ·exact (uh HM5).2.1.trans ((uh HM5).1.setBad (x.bad+1)).2
    ·have e:j=q:=by omega
     subst e
     have d1:¬ ((j:Int)<(j:Int)):=by omega
     rw [show F.take j=F by rw [← hq];exact List.take_length] at hM9
     obtain ⟨k1,k2,k3,k5⟩:=uh KEEP wr K9 hf9
     have cF:wr.cell? ⟨P,6,none⟩=some (.slice va j vc):=by rw [cr k1];rfl
     have HFI:Hid (∃ K',MS base Sa Sb Ww (cmA m) wr K'∧Fz (E3 Sa Sb Ww) (K3 la lb gv) K' W wr):=hide ⟨K9,by rw [uh HST];exact hM9,k5⟩
     clear hM9 hf9 k1 k2 k3 k5 KEEP HST HM4 HTK HFT
     go_wp2_with fail
     refine bodyPost_end (results_none rfl _ _ _) rfl ?_
     exact ⟨rfl,uh HFI⟩
end Go.Proofs.YtkcghhkkepndnaaGreatDoor
