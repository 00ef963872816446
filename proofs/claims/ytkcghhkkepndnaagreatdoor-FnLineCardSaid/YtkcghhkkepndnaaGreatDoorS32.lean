/- The program: an end of a numbered line follows an answer: it becomes what is answered, what was got is put behind what it has got, what is sent goes into its line; what lay in memory stands but for the end, its line's row and the row of what it has got. -/
import Derived.Test.YtkcghhkkepndnaaGreatDoorS30
import Derived.Test.YtkcghhkkepndnaaGreatDoorS23
import Derived.Test.YtkcghhkkepndnaaGreatDoorShW
namespace Go.Proofs.YtkcghhkkepndnaaGreatDoor
open Go.RowKit
def Lt (base:Nat) (W:World):Prop:=∃ w0:World,w0.heap.size=base∧Lib.Utf8Tabs 0 1 w0∧Below base w0 W
theorem Lt.tabs {base:Nat} {W:World} (h:Lt base W):Lib.Utf8Tabs 0 1 W:=by
 obtain ⟨w0,rfl,h1,hb⟩:=h
 exact Utf8Tabs_below h1 hb
theorem Lt.step {base:Nat} {W W':World} (h:Lt base W) (hb:Below base W W'):Lt base W':=by
 obtain ⟨w0,e,ht,h0⟩:=h
 exact ⟨w0,e,ht,h0.trans hb⟩
theorem Lt.le {base:Nat} {W:World} (h:Lt base W):base≤W.heap.size:=by
 obtain ⟨w0,rfl,_,hb⟩:=h
 exact hb.size
theorem Lt.fz {base B:Nat} {W W':World} {X Z:List Value} {s:Nl} {vq vl vg:Value} {K':Nat→Prop} (h:Lt base W) (hs:Sn base W B X Z s vq vl vg) (hB:base≤B) (f:Fz (fun k=>k=B) (K2 vl vg) K' W W'):Lt base W' :=
 h.step (f.low (fun k e=>by omega) (fun k hk=>(hs.kk k hk).1) hs.bs)
theorem rangeL {W:World} {E:Nat} {cs:Array Value} {T:TypeId} (h:W.heap[E]?=some (.cells cs T)):W.rangeAt E 0 cs.toList:=by
 intro j u hu
 rw [cell_of_row _ _ _ _ _ _ h,Nat.zero_add,← Array.getElem?_toList]
 exact hu
theorem step_append_ts {W:World} {o:Oper} {a:Act} {K:Act→World→Prop} {Q:Exit→Act→World→Prop} (s x:Operand) (ho:o.op=.call { callee:=.builtin .append,args:=#[s,x],argTypes:=#[23,23] })
  {base b2:Nat} {v sv:Value} {G F:List ByteArray} (hs:a.eval s=v) (hx:a.eval x=sv) (hv:W.ownsRow base 9 1 v G.length (scells G)) (hsv:W.ownsRow b2 9 1 sv F.length (scells F)) (hG:G.length≤1048576) (hF:F.length≤1048576) (hbase:base≤W.heap.size)
  (h:∀ v' w',w'.ownsRow base 9 1 v' (G ++ F).length (scells (G ++ F))→W.grownBy w' v.ownBlock→(∀ m,v'.ownBlock=some m→v.ownBlock=some m∨W.heap.size≤m)→K (a.put o.dst v') w'):o.wp Tryz.prog a W K Q:=by
 obtain ⟨v',w',hr,h2,h3,h4⟩:=run_append_sb (W:=W) o.type hv hsv hG hF hbase
 unfold Oper.wp execOp
 simp only [ho,resolve,invoke,builtin,Sem.run_bind,Sem.run_pure,Result.andThen_ok,List.map_toArray,List.map_cons,List.map_nil,hs,hx,hr]
 exact h v' w' h2 h3 h4
structure Ao (b:Nat) (W:World) (o:LO) (v vf vgo:Value):Prop where
 oq:W.ownsRow b 9 1 v o.Q.length (scells o.Q)
 os:W.ownsRow b 96 4 vf o.sn.length (nbcells o.sn)
 og:W.ownsRow b 9 1 vgo o.gt.length (scells o.gt)
theorem Ao.below {b:Nat} {W W':World} {o:LO} {v vf vgo:Value} (h:Ao b W o v vf vgo) (hb:Below W.heap.size W W'):Ao b W' o v vf vgo :=
 ⟨own_blk h.oq fun g _ _ hg=>hb.block g (Array.getElem?_eq_some_iff.1 hg).1,own_blk h.os fun g _ _ hg=>hb.block g (Array.getElem?_eq_some_iff.1 hg).1,own_blk h.og fun g _ _ hg=>hb.block g (Array.getElem?_eq_some_iff.1 hg).1⟩
structure Fk (b:Nat) (E:Nat) (W:World) (o:LO) (v vf vgo:Value):Prop where
 ao:Ao b W o v vf vgo
 er:W.heap[E]?=some (.cells (loC o.p v vf vgo o.cd) 79)
theorem Fk.keep {b E B:Nat} {W W':World} {o:LO} {v vf vgo vl vg:Value} {K':Nat→Prop} {c:Array Value} (h:Fk b E W o v vf vgo) (hB:W.heap[B]?=some (.cells c 63)) (hK:∀ g,K2 vl vg g→g<b∧g≠E) (f:Fz (fun k=>k=B) (K2 vl vg) K' W W'):Fk b E W' o v vf vgo:=by
 have k:∀ {e:TypeId} {size n:Nat} {u:Value} {xs:List Value},e≠63→W.ownsRow b e size u n xs→W'.ownsRow b e size u n xs:=fun he hu =>
  own_blk hu fun g cur hv hg=>f.same g (Array.getElem?_eq_some_iff.1 hg).1 (typ_ne hg hB he) (fun e1=>by have:=(hK g e1).1;have:=(own_typ hu g hv).1;omega)
 exact ⟨⟨k (by decide) h.ao.oq,k (by decide) h.ao.os,k (by decide) h.ao.og⟩,(f.same E (Array.getElem?_eq_some_iff.1 h.er).1 (typ_ne h.er hB (by decide)) (fun e1=>(hK E e1).2 rfl)).trans h.er⟩
structure Fo (base:Nat) (W0:World) (B E b:Nat) (X Z:List Value) (vq vl vg:Value) (o:LO) (v vf vgo:Value) (s1:Nl) (y:World):Prop where
 sl:∃ vq' vl' vg',Sn base y B X Z s1 vq' vl' vg'∧Fz (fun k=>k=B) (K2 vl vg) (K2 vl' vg') W0 y∧(vq'=vq∨vq'=v)
 fk:Fk b E y o v vf vgo
theorem nb_at {W:World} {g i:Nat} {L:List Nb} {cur:Array Value} (h:W.heap[g]?=some (.cells cur 96)) (hc:∀ j,j<L.length*4→cur[j]?=(nbcells L)[j]?) (hi:i<L.length):W.cell? ⟨g,i*4,none⟩=some (.int .i64 L[i].kind)∧W.cell? ⟨g,i*4+1,none⟩=some (.int .i64 L[i].ns)∧W.cell? ⟨g,i*4+2,none⟩=some (.int .i64 L[i].nr)∧W.cell? ⟨g,i*4+3,none⟩=some (.string L[i].text):=by
 have key:∀ (L:List Nb) (i:Nat) (hi:i<L.length),(nbcells L)[i*4]?=some (.int .i64 L[i].kind)∧(nbcells L)[i*4+1]?=some (.int .i64 L[i].ns)∧(nbcells L)[i*4+2]?=some (.int .i64 L[i].nr)∧(nbcells L)[i*4+3]?=some (.string L[i].text):=by
  intro L
  induction L with
  | nil=>intro i hi;simp at hi
  | cons p L ih =>
   intro i hi
   have e:nbcells (p :: L)=.int .i64 p.kind :: .int .i64 p.ns :: .int .i64 p.nr :: .string p.text :: nbcells L:=rfl
   cases i with
   | zero=>exact ⟨rfl,rfl,rfl,rfl⟩
   | succ i =>
    have:=ih i (by simpa using hi)
    rw [e,show (i+1)*4=i*4+1+1+1+1 by omega]
    exact this
 obtain ⟨k0,k1,k2,k3⟩:=key L i hi
 exact ⟨by rw [cr h,hc _ (by omega)];exact k0,by rw [cr h,hc _ (by omega)];exact k1,by rw [cr h,hc _ (by omega)];exact k2,by rw [cr h,hc _ (by omega)];exact k3⟩
theorem putF40 (L:List Sf) (S:List Nb) (i:Nat) (hi:i<S.length):(if ((L ++ (S.take i).map frameOfF).take 40).length<40 then (L ++ (S.take i).map frameOfF).take 40 ++ [frameOfF S[i]] else (L ++ (S.take i).map frameOfF).take 40)=(L ++ (S.take (i+1)).map frameOfF).take 40:=by
 rw [← List.take_append_getElem hi,List.map_append,← List.append_assoc]
 generalize L ++ (S.take i).map frameOfF=M
 show _=(M ++ [frameOfF S[i]]).take 40
 by_cases h:M.length<40
 ·rw [List.take_of_length_le (by omega),if_pos h,List.take_of_length_le (by simp;omega)]
 ·rw [if_neg (by rw [List.length_take];omega),List.take_append_of_le_length (by omega)]
set_option maxHeartbeats 16000000 in
set_option maxRecDepth 100000 in
theorem iFollowN {base:Nat} {W:World} {B:Nat} {X Z:List Value} {s:Nl} {vq vl vg:Value} (h:Sn base W B X Z s vq vl vg) (hL:Lt base W) (hB:base≤B) {o:LO} {v vf vgo:Value} {b:Nat} (hbb:base≤b) (hA:Ao b W o v vf vgo) (_ap:∀ g,v.ownBlock=some g→vgo.ownBlock≠some g)
  (hf:∀ g,K2 vl vg g→g<b) (hF:Fine o) (hE:o.cd≠0→o.sn=[]∧o.gt=[]) (hG:s.gt.length≤1000000) :
  Calls Tryz.prog 38 #[.pointer (some ⟨B,X.length,none⟩),.agg (loC o.p v vf vgo o.cd)] W fun e W'=>e=.returned (.tuple #[])∧∃ vq' vl' vg',Sn base W' B X Z (followN s o) vq' vl' vg'∧Fz (fun k=>k=B) (K2 vl vg) (K2 vl' vg') W W'∧(vq'=vq∨vq'=v):=by
 obtain ⟨s1,hs1⟩:∃ s1:Nl,(if o.cd=0 then ⟨o.p,o.Q,s.ln,s.df,s.gt⟩ else s)=s1:=⟨_,rfl⟩
 have hl1:s1.ln=s.ln:=by rw [← hs1];split<;>rfl
 have hg1:s1.gt=s.gt:=by rw [← hs1];split<;>rfl
 have hfin:followN s o=lnN ⟨s1.p,s1.Q,s1.ln,s1.df,s.gt ++ o.gt⟩ ((s.ln ++ (o.sn.take o.sn.length).map frameOfF).take 40):=by
  rw [List.take_length]
  unfold followN
  split
  ·rename_i h0
   rw [← hs1,if_pos h0]
   rfl
  ·rename_i h0
   rw [← hs1,if_neg h0,(hE h0).1,(hE h0).2,List.map_nil,List.append_nil,List.append_nil,List.take_of_length_le h.le]
   rfl
 have h00:lnN ⟨s1.p,s1.Q,s1.ln,s1.df,s.gt ++ o.gt⟩ ((s.ln ++ (o.sn.take 0).map frameOfF).take 40)=⟨s1.p,s1.Q,s1.ln,s1.df,s.gt ++ o.gt⟩:=by
  rw [List.take_zero,List.map_nil,List.append_nil,List.take_of_length_le h.le,← hl1]
  rfl
 have hb:Below W.heap.size W (W.alloc (.cells (loC o.p v vf vgo o.cd) 79)):=(Below.refl _ _).alloc (Nat.le_refl _) _
 have hE0:=heap_alloc_new W (.cells (loC o.p v vf vgo o.cd) 79)
 have h0:=h.below hb
 have hA0:=hA.below hb
 have hL0:=hL.step (hb.mono h.bs)
 have hK2:∀ g,K2 vl vg g→g<b∧g≠W.heap.size:=fun g hg=>⟨hf g hg,by have:=(h.kk g hg).2.1;omega⟩
 have HK0:=hide fun (y:World) (K':Nat→Prop) (f:Fz (fun k=>k=B) (K2 vl vg) K' (W.alloc (.cells (loC o.p v vf vgo o.cd) 79)) y)=>(Fk.mk hA0 hE0).keep h0.row hK2 f
 have HLT:=hide fun (y:World) (K':Nat→Prop) (f:Fz (fun k=>k=B) (K2 vl vg) K' (W.alloc (.cells (loC o.p v vf vgo o.cd) 79)) y)=>hL0.fz h0 hB f
 have hsn:o.sn.length≤7:=hF.s
 have hgn:o.gt.length≤1:=hF.g
 have o1:v.oneCell'=true:=by
  obtain ⟨a,c,e⟩:=own_form hA.oq
  rw [e];rfl
 have o2:vf.oneCell'=true:=by
  obtain ⟨a,c,e⟩:=own_form hA.os
  rw [e];rfl
 have o3:vgo.oneCell'=true:=by
  obtain ⟨a,c,e⟩:=own_form hA.og
  rw [e];rfl
 have hap2:∀ g,v.ownBlock=some g→vg.ownBlock≠some g:=fun g e1 e2=>by
  have h1:=(own_typ hA.oq g e1).1
  have h2:=hf g (Or.inr e2)
  omega
 obtain ⟨fa,fc,rfl⟩:=own_form hA.os
 obtain ⟨ga,gc,rfl⟩:=own_form h.hg
 have HS:=hide (And.intro h0 (And.intro hE0 hA0))
 have HFIN:=hide hfin
 have H00:=hide h00
 have HS1:=hide (And.intro hs1 (And.intro hl1 hg1))
 have HB:=hide hb
 have hXl:X.length=X.length:=rfl
 clear h h0 hb hA hE0 hA0 hL hL0 hfin h00
 generalize hWW:W.alloc (.cells (loC o.p v (.slice fa o.sn.length fc) vgo o.cd) 79)=W0 at HS HB HK0 HLT
 generalize hEE:W.heap.size=E at HS HB hK2 HK0
 generalize hk:X.length=k at hXl ⊢
 go_enter Tryz.func38,Tryz.ntmps38
 refine wp_seq_k fun K hK=>?_
 apply wp_region_lit
 refine Great.wpList_allocTo rfl (some 3) rfl (.pointer (some ⟨W.heap.size,0,none⟩)) (.cells (loC o.p v (.slice fa o.sn.length fc) vgo o.cd) 79) (by simp [go_sem]) ?_
 refine hK _ _ ?_
 clear hK K
 simp only [Act.put,sA,sZ,sS]
 go_upto_region 1 with fail
 rw [hWW,hEE]
 have hS:W0.drew.rangeAt E 0 (loC o.p v (.slice fa o.sn.length fc) vgo o.cd).toList:=rangeL (uh HS).2.1
 refine wp_region_held_drew (S:=fun z=>z.rangeAt E 0 (loC o.p v (.slice fa o.sn.length fc) vgo o.cd).toList) (by kernel_rfl) hS (fun hHeld=>?_)
 refine t2 0 ?_
 refine t2 1 ?_
 refine t2 2 ?_
 refine t4 3 (.agg (loC o.p v (.slice fa o.sn.length fc) vgo o.cd)) rfl (yieldsIf_load_mid (by rfl) 79 (.tmp 3) rfl E 0 rfl (loC o.p v (.slice fa o.sn.length fc) vgo o.cd).toList _ (fun _ h=>h) Tryz.underlying79 rfl (by exact infoL9)) ?_
 try simp only [Act.put,sA,sZ,sS,gA,gZ,gS]
 refine r1 4 rfl (fun K hK=>?_)
 have row0:W0.drew.heap[B]?=some (.cells (X ++ (lpC s.p vq).toList ++ ([vl] ++ dmC s.df ++ [Value.slice ga s.gt.length gc] ++ Z)).toArray 63):=by
  have:=(uh HS).1.row
  show W0.heap[B]?=_
  rw [this];unfold slC;simp
 have CB:=iBecomeL (W:=W0.drew) row0 rfl o.p v (.slice fa o.sn.length fc) vgo o1 o.cd
 rw [hk] at CB
 go_simp
 refine CB.mono ?_
 rintro e y ⟨rfl,W1,hb1,hy⟩
 have H1:Hid (∃ vq1,Sn base y B X Z s1 vq1 vl (.slice ga s.gt.length gc)∧Fz (fun k=>k=B) (K2 vl (.slice ga s.gt.length gc)) (K2 vl (.slice ga s.gt.length gc)) W0 y∧(vq1=vq∨vq1=v)):=hide (by
  have hd:Below W0.heap.size W0 W1:=(Below.refl W0.heap.size W0).drew.trans hb1
  have h1:=(uh HS).1.below hd
  have hA1:=(uh HS).2.2.below hd
  by_cases c0:o.cd=0
  ·rw [if_pos c0,← hk] at hy
   have h2:=h1.setP o.p v o.Q (own_low hA1.oq hbb) hap2
   rw [← hs1,if_pos c0,hy]
   exact ⟨_,h2,(Fz.of_below hd).trans (Fz.cells _ _ _ _ _),Or.inr rfl⟩
  ·rw [if_neg c0] at hy
   rw [← hs1,if_neg c0,hy]
   exact ⟨_,h1,Fz.of_below hd,Or.inl rfl⟩)
 have FO:Hid (Fo base W0 B E b X Z vq vl (.slice ga s.gt.length gc) o v (.slice fa o.sn.length fc) vgo s1 y):=hide (by
  obtain ⟨vq1,h1,h2,h5⟩:=uh H1
  exact ⟨⟨vq1,vl,(.slice ga s.gt.length gc),h1,h2,h5⟩,uh HK0 y _ h2⟩)
 have HX:Hid (∃ vq1,Sn base y B X Z s1 vq1 vl (.slice ga s.gt.length gc)∧Fz (fun k=>k=B) (K2 vl (.slice ga s.gt.length gc)) (K2 vl (.slice ga s.gt.length gc)) W0 y∧(vq1=vq∨vq1=v)∧Fk b E y o v (.slice fa o.sn.length fc) vgo):=hide (by
  obtain ⟨vq1,h1,h2,h5⟩:=uh H1
  exact ⟨vq1,h1,h2,h5,uh HK0 y _ h2⟩)
 clear hb1 hy H1 CB row0
 refine ro hK (rangeL (uh FO).fk.er) fun _=>?_
 clear hK K hHeld hS FO
 refine dn ?_ _
 have HXd:Hid (∃ vq1,Sn base y.drew B X Z s1 vq1 vl (.slice ga s.gt.length gc)∧Fz (fun k=>k=B) (K2 vl (.slice ga s.gt.length gc)) (K2 vl (.slice ga s.gt.length gc)) W0 y.drew∧(vq1=vq∨vq1=v)∧Fk b E y.drew o v (.slice fa o.sn.length fc) vgo):=hide (by
  obtain ⟨vq1,h1,h2,h3,h4⟩:=uh HX
  have hd:Below y.heap.size y y.drew:=(Below.refl _ _).drew
  exact ⟨vq1,h1.below hd,h2.trans (Fz.of_below hd),h3,h4.ao.below hd,(hd.block E (Array.getElem?_eq_some_iff.1 h4.er).1).trans h4.er⟩)
 clear HX
 go_upto_region 2 with fail
 clear hs1 hl1 hg1
 obtain ⟨vq1,hX1⟩:=uh HXd
 have ce:y.drew.cell? ⟨E,7,none⟩=some vgo:=by rw [cr hX1.2.2.2.er];rfl
 have cg:y.drew.cell? ⟨B,k+13,none⟩=some (.slice ga s.gt.length gc):=by rw [← hk];exact hX1.1.cg.1
 have HX1:=hide hX1
 clear hX1 HXd
 refine wp_region_held_drew (S:=fun z=>z.cell? ⟨E,7,none⟩=some vgo) (by kernel_rfl) ce (fun hHeld=>?_)
 generalize y.drew=yd at HX1 cg ce hHeld ⊢
 refine t2 0 ?_
 refine t2 1 ?_
 refine t2 2 ?_
 refine t2 3 ?_
 refine t2 5 ?_
 refine t2 6 ?_
 refine r1 4 rfl (fun K hK=>?_)
 go_simp
 refine ro hK ce fun _=>?_
 clear hK K cg
 refine r1 7 rfl (fun K hK=>?_)
 have hG2:s.gt.length≤1048576:=by omega
 have hsg:s1.gt=s.gt:=(uh HS1).2.2
 have hog:=(uh HX1).1.hg
 rw [hsg] at hog
 refine step_append_ts _ _ rfl rfl rfl hog (uh HX1).2.2.2.ao.og hG2 (by omega) (uh HX1).1.bs ?_
 clear hsg hog
 intro v7 y7 g1 g2 g3
 obtain ⟨a7,c7,e7⟩:=own_form g1
 obtain ⟨n7,e9⟩:∃ n7,(s.gt ++ o.gt).length=n7:=⟨_,rfl⟩
 rw [e9] at e7
 have nE:some E≠(Value.slice ga s.gt.length gc).ownBlock:=fun e=>(hK2 E (Or.inr e.symm)).2 rfl
 have ce7:y7.cell? ⟨E,7,none⟩=some vgo:=by
  have:=g2.block E (Array.getElem?_eq_some_iff.1 (uh HX1).2.2.2.er).1 nE
  rw [cr (this.trans (uh HX1).2.2.2.er)];rfl
 have nB:some B≠(Value.slice ga s.gt.length gc).ownBlock:=fun e=>((uh HX1).1.kk B (Or.inr e.symm)).2.2 rfl
 have r7:=(g2.block B (uh HX1).1.lt nB).trans (uh HX1).1.row
 have x7:∃ u,y7.cell? ⟨B,k+13,none⟩=some u:=by
  have h1:=(uh HX1).1.cg.1
  rw [hk] at h1
  exact ⟨_,by rw [cr r7,← cr (uh HX1).1.row];exact h1⟩
 have f7:y7.frozen? ⟨B,k+13,none⟩=false:=frz r7 _
 obtain ⟨u7,x7⟩:=x7
 have H7:Hid (Sn base (y7.setCell ⟨B,k+13,none⟩ v7) B X Z ⟨s1.p,s1.Q,s1.ln,s1.df,s.gt ++ o.gt⟩ vq1 vl v7∧Fz (fun k=>k=B) (K2 vl (.slice ga s.gt.length gc)) (K2 vl v7) W0 (y7.setCell ⟨B,k+13,none⟩ v7)∧(vq1=vq∨vq1=v)∧Fk b E (y7.setCell ⟨B,k+13,none⟩ v7) o v (.slice fa o.sn.length fc) vgo):=hide (by
  obtain ⟨h1,h2⟩:=(uh HX1).1.setG g1 g2 g3
  rw [hk] at h1 h2
  have h3:=(uh HX1).2.1.trans h2
  exact ⟨h1,h3,(uh HX1).2.2.1,uh HK0 _ _ h3⟩)
 clear e9 g1 g2 g3 nE nB r7 HX1
 subst e7
 refine ro hK ce7 fun _=>?_
 clear hK K hHeld ce
 refine t2 8 ?_
 refine t2 9 ?_
 refine r1 10 rfl (fun K hK=>?_)
 go_simp
 have ce8:(y7.setCell ⟨B,k+13,none⟩ (.slice a7 n7 c7)).cell? ⟨E,7,none⟩=some vgo:=by rw [cr (uh H7).2.2.2.er];rfl
 refine ro hK ce8 fun _=>?_
 clear hK K ce7 x7 f7 ce8
 refine dn ?_ _
 generalize y7.setCell ⟨B,k+13,none⟩ (.slice a7 n7 c7)=y8 at H7 ⊢
 have FO:Hid (Fo base W0 B E b X Z vq vl (.slice ga s.gt.length gc) o v (.slice fa o.sn.length fc) vgo (lnN ⟨s1.p,s1.Q,s1.ln,s1.df,s.gt ++ o.gt⟩ ((s.ln ++ (o.sn.take 0).map frameOfF).take 40)) y8):=hide (by
  rw [uh H00]
  obtain ⟨h1,h2,h3,h4⟩:=uh H7
  exact ⟨⟨vq1,vl,_,h1,h2,h3⟩,h4⟩)
 clear H7
 have c1:y8.cell? ⟨E,6,none⟩=some (.slice fa o.sn.length fc):=by rw [cr (uh FO).fk.er];rfl
 generalize hn:o.sn.length=n at *
 go_wp2_with fail
 clear c1
 generalize hs2:(⟨s1.p,s1.Q,s1.ln,s1.df,s.gt ++ o.gt⟩:Nl)=s2 at *
 go_loopw [24] (fun p wr=>∃ i:Nat,i≤n∧p=.int .i64 i∧Fo base W0 B E b X Z vq vl (.slice ga s.gt.length gc) o v (.slice fa n fc) vgo (lnN s2 ((s.ln ++ (o.sn.take i).map frameOfF).take 40)) wr) (fun p _=>n - (intOf p).toNat)
 case atStart=>exact ⟨0,Nat.zero_le _,rfl,uh FO⟩
 case round =>
  obtain ⟨i,hi,rfl,hF⟩:=hrel
  clear FO
  by_cases hlt:i<n
  ·have d1:(i:Int)<(n:Int):=by omega
   obtain ⟨vq',vl',vg',hsl,hf,hor⟩:=hF.sl
   obtain ⟨g,efa,cur,q1,q3⟩:∃ g,fa=some ⟨g,0,none⟩∧∃ cur,wr.heap[g]?=some (.cells cur 96)∧∀ j,j<n*4→cur[j]?=(nbcells o.sn)[j]?:=by
    rcases hF.fk.ao.os.2 with ⟨e,e2⟩ | ⟨g,cp,cur,e,_,q1,_,_,q4,q5⟩
    ·omega
    ·injection e with e _ _
     refine ⟨g,e,cur,q1,fun j hj=>?_⟩
     rw [← q5,List.getElem?_take,if_pos (by rw [hn];exact hj),Array.getElem?_toList]
   subst efa
   have hi2:i<o.sn.length:=by omega
   obtain ⟨x0,x1,x2,x3⟩:=nb_at q1 (by rw [hn];exact q3) hi2
   have hlt9:=uh HLT wr _ hf
   have hFr:Hid (∀ z:World,Below wr.heap.size wr z→Calls Tryz.prog 57 #[nbV o.sn[i]] z fun e w'=>e=.returned (.agg #[.string (frameOfF o.sn[i]).text,.string (frameOfF o.sn[i]).bytes])∧Below z.heap.size z w'):=hide fun z hz=>iFrameOf o.sn[i] z (hlt9.step (hz.mono hsl.bs)).tabs
   have hput:Hid (∀ z:World,Below wr.heap.size wr z→Calls Tryz.prog 56 #[.pointer (some ⟨B,k+6,none⟩),.agg #[.string (frameOfF o.sn[i]).text,.string (frameOfF o.sn[i]).bytes]] z fun e W'=>e=.returned (.tuple #[])∧Fo base W0 B E b X Z vq vl (.slice ga s.gt.length gc) o v (.slice (some ⟨g,0,none⟩) n fc) vgo (lnN s2 ((s.ln ++ (o.sn.take (i+1)).map frameOfF).take 40)) W'):=hide fun z hz=>by
    have hw:=(hsl.below hz).wr
    have hl9:=hsl.wrLen
    rw [hk] at hl9
    rw [← hl9]
    refine (iPutW hw (frameOfF o.sn[i])).mono ?_
    rintro e W' ⟨rfl,v2,hw2,hf2⟩
    have e40:=putF40 s.ln o.sn i hi2
    have hfr:=hf.trans ((Fz.of_below hz).trans (Fz.line vg' hf2))
    have h3:=(hsl.below hz).setLine hf2 hw2
    rw [show (lnN s2 ((s.ln ++ (o.sn.take i).map frameOfF).take 40)).ln=(s.ln ++ (o.sn.take i).map frameOfF).take 40 from rfl,e40] at h3
    exact ⟨rfl,⟨vq',v2,vg',h3,hfr,hor⟩,uh HK0 W' _ hfr⟩
   clear hsl hf hF q1 q3 hor hlt9
   generalize frameOfF o.sn[i]=fF at *
   generalize o.sn[i]=p at *
   obtain ⟨pk,pn,pr,pt⟩:=p
   dsimp only [nbV] at x0 x1 x2 x3 hput hFr
   go_upto_region 6 with fail
   have hbz:Below wr.heap.size wr (wr.alloc (.cells #[.int .i64 pk,.int .i64 pn,.int .i64 pr,.string pt] 96)):=(Below.refl _ _).alloc (Nat.le_refl _) _
   have hN:=heap_alloc_new wr (.cells #[.int .i64 pk,.int .i64 pn,.int .i64 pr,.string pt] 96)
   have HZ:=hide (And.intro hbz hN)
   clear hbz hN
   generalize wr.alloc (.cells #[.int .i64 pk,.int .i64 pn,.int .i64 pr,.string pt] 96)=z at HZ ⊢
   have hNz:=(uh HZ).1.size
   generalize wr.heap.size=N at HZ hput hFr hNz ⊢
   refine wp_region_held_drew (S:=fun _=>True) (by kernel_rfl) trivial (fun hHeld=>?_)
   have y0:z.drew.cell? ⟨N,0,none⟩=some (.int .i64 pk):=by rw [cr (w:=z.drew) (uh HZ).2];rfl
   have y1:z.drew.cell? ⟨N,1,none⟩=some (.int .i64 pn):=by rw [cr (w:=z.drew) (uh HZ).2];rfl
   have y2:z.drew.cell? ⟨N,2,none⟩=some (.int .i64 pr):=by rw [cr (w:=z.drew) (uh HZ).2];rfl
   have y3:z.drew.cell? ⟨N,3,none⟩=some (.string pt):=by rw [cr (w:=z.drew) (uh HZ).2];rfl
   have hbd:Below N wr z.drew:=(uh HZ).1.trans ((Below.refl _ _).drew.mono hNz)
   have HBD:=hide hbd
   clear hbd
   refine t2 0 ?_
   refine t2 1 ?_
   refine t2 2 ?_
   refine r1 3 rfl (fun K hK=>?_)
   go_simp
   refine ro hK trivial fun _=>?_
   clear hK K y0 y1 y2 y3
   refine r1 4 rfl (fun K hK=>?_)
   go_simp
   refine (uh hFr z.drew (uh HBD)).mono ?_
   rintro e z1 ⟨rfl,hb1⟩
   have HB1:=hide ((uh HBD).trans (hb1.mono hNz))
   clear hb1
   refine ro hK trivial fun _=>?_
   clear hK K
   refine r1 5 rfl (fun K hK=>?_)
   go_simp
   refine (uh hput z1 (uh HB1)).mono ?_
   rintro e z2 ⟨rfl,hF2⟩
   have HF2:=hide hF2
   clear hF2
   refine ro hK trivial fun _=>?_
   clear hK K
   refine dn ?_ _
   go_wp2_with fail
   go_roundw
   case rel=>exact ⟨i+1,by omega,by go_num,uh HF2⟩
   case measure=>simp [intOf];omega
  ·have e:i=n:=by omega
   subst e
   have d1:¬ ((i:Int)<(i:Int)):=by omega
   have HF:=hide hF
   clear hF
   go_wp2_with fail
   refine bodyPost_end (results_none rfl _ _ _) rfl ?_
   obtain ⟨vq',vl',vg',hsl,hf,hor⟩:=(uh HF).sl
   refine ⟨rfl,vq',vl',vg',?_,?_,hor⟩
   ·first
     | exact hsl
     | (rw [uh HFIN];exact hsl)
     | (rw [uh HFIN,hs2];exact hsl)
   ·rw [← hEE] at HB
    exact (Fz.of_below (uh HB)).trans hf
end Go.Proofs.YtkcghhkkepndnaaGreatDoor
