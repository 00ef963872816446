/- WkN WkO -/
import Derived.Test.YtjdgiimfpkideaaGreatDoorS25
import Derived.Test.YtjdgiimfpkideaaGreatDoorS24
import Derived.Test.YtjdgiimfpkideaaGreatDoorS19
set_option maxHeartbeats 8000000
set_option maxRecDepth 100000
namespace Go.Proofs.YtjdgiimfpkideaaGreatDoor
open Go.RowKit Go.Proofs.Tryz
theorem ig{w w':World}{b:Nat}{e e':TypeId}{k k':Nat}{v v':Value}{n n':Nat}{xs ys:List Value}(h:w.ownsRow b e k v n xs)(h':w'.ownsRow w e' k' v' n' ys):Ap v v':=fun g hg e=>by
 have h1:=(h.lt g hg).2;have h2:=(h'.lt g e).1;omega
theorem qK(e:En)(x1 x2:Option Addr)(y1 y2:Nat)(F1 F2:List Op.Opt)(now:Int)(w:World)(rg1:Op.right F1=true)(r2:Op.right F2=true)(h1:HoldsO w (x1,F1.length,y1) F1)(h2:HoldsO w (x2,F2.length,y2) F2):Calls prog 85 #[.agg (aA e (x1,F1.length,y1) (x2,F2.length,y2)),now] w fun r w'=>∃B v1 v2,r=.returned (.pointer (some (B,0)))/\Lay 129 w w' B (bY now) ⟨e,F1,F2,[],[]⟩ v1 v2 () () w':=by
 have C1:=aa fun W (hb:Below w w W)=>qA _ F1 W rg1 (h1.below hb rfl)
 have C2:=aa fun W (hb:Below w w W)=>qA _ F2 W r2 (h2.below hb rfl)
 clear h1 h2;obtain⟨A,eA⟩ := ex w.heap.size;have hA:=zF w (.cells (aA e (x1,F1.length,y1) (x2,F2.length,y2)) 32);have hbA:Below w w (w.alloc (.cells (aA e (x1,F1.length,y1) (x2,F2.length,y2)) 32)):=(zC _ _).alloc (zD _) _;rw[eA]at hA;have H0:=aa (zA hA hbA);clear hA hbA;obtain⟨n1,e1⟩:∃n,F1.length=n:=⟨_,rfl⟩;obtain⟨n2,e2⟩:∃n,F2.length=n:=⟨_,rfl⟩;rw[e1]at C1 H0|-;rw[e2]at C2 H0|-;go_enter func85,ntmps85
 go_upto_region 1 with fail
 refine bb (fun z=>z.heap[A]?=some (.cells (aA e (x1,n1,y1) (x2,n2,y2)) 32)/\Below w w z) ?_ ?_
 .exact uh H0
 clear H0;rintro z⟨za,zl⟩;have hAw:w.heap.size<=z.heap.size:=zl.size;have hAl:A<z.heap.size:=(ge.1 za).1;have c17:z.cell? (A,17)=some (.slice x1 n1 y1):=cv za
 have c18:z.cell? (A,18)=some (.slice x2 n2 y2):=cv za
 have HZ:=aa (zA za (zl.trans ((zC z z).drew.mono zl.size)));clear za zl;go_cut [5] (fun _ wx=>∃a1 p1 a2 p2,wx.heap[A]?=some (.cells (aA e (.slice a1 n1 p1) (.slice a2 n2 p2)) 32)/\wx.ownsRow w.heap.size 105 2 (.slice a1 n1 p1) n1 (aj F1)/\wx.ownsRow w.heap.size 105 2 (.slice a2 n2 p2) n2 (aj F2)/\Ap (.slice a1 n1 p1) (.slice a2 n2 p2)/\Below w.heap.size w wx)
 case first =>
  refine wp_region_held_drew (S:=fun _=>True) (by kernel_rfl) trivial (fun hHeld=>?_);refine tt 0 3 ?_;refine r4 1 4 (fun K hK=>?_) (fun K hK=>?_)
  .have cx:=c17;go_simp;refine ro hK trivial fun _=>?_
   clear hK K;clear cx;refine r4 2 4 (fun K hK=>?_) (fun K hK=>?_)
   .go_simp;refine(uh C1 _ HZ.out.2).mono ?_;rintro r w5⟨a1,p1,rfl,ho1,hb5⟩;have q5:=(hb5.block A hAl).trans HZ.out.1;have d18:w5.cell? (A,18)=some (.slice x2 n2 y2):=cv q5
    have H5:=aa (zA q5 (zA ho1 (HZ.out.2.trans (hb5.mono HZ.out.2.size))));have hs5:w.heap.size<=z.heap.size:=hAw;clear q5 ho1 hb5;go_wp2_with fail
    refine ro hK trivial fun _=>?_
    clear hK K;refine r3 4 fun K hK=>?_
    have cx:=d18;go_simp;refine ro hK trivial fun _=>?_
    clear hK K;clear cx;refine t2 6 ?_;refine r3 5 fun K hK=>?_
    go_simp;refine(uh C2 _ H5.out.2.2).mono ?_;rintro r w6⟨a2,p2,rfl,ho2,hb6⟩;have q6:=(hb6.block A (ge.1 H5.out.1).1).trans H5.out.1;have g17:w6.cell? (A,17)=some (.slice x1 n1 y1):=cv q6
    have f17:w6.frozen? (A,17)=false:=aX q6 17;have r7:=zH w6 A 17 _ _ (a1,n1,p1) q6;have g18:(w6.setCell (A,17) (a1,n1,p1)).cell? (A,18)=some (.slice x2 n2 y2):=cv r7
    have f18:(w6.setCell (A,17) (a1,n1,p1)).frozen? (A,18)=false:=aX r7 18;have r8:=zH (w6.setCell (A,17) (a1,n1,p1)) A 18 _ _ (a2,n2,p2) r7;have k1:=aP H5.out.2.1 hb6;have hap:=ig H5.out.2.1 ho2;have hlo:=H5.out.2.2.trans (hb6.mono H5.out.2.2.size);have n1A:∀g,(Value.slice a1 n1 p1).ownBlock=some g->g≠A:=fun g hg e=>by have h1:z.heap.size<=g:=(k1.lt g hg).1;omega
    have n2A:∀g,(Value.slice a2 n2 p2).ownBlock=some g->g≠A:=fun g hg e=>by have h1:=(ho2.lt g hg).1;have h2:=(ge.1 H5.out.1).1;omega
    have hk:∀g,g≠A->((w6.setCell (A,17) (a1,n1,p1)).setCell (A,18) (a2,n2,p2)).heap[g]?=w6.heap[g]?:=fun g hg=>(heap_setCell_other _ _ _ _ hg).trans (heap_setCell_other _ _ _ _ hg)
    have H6:=aa (zA (show((w6.setCell (A,17) (a1,n1,p1)).setCell (A,18) (a2,n2,p2)).heap[A]?=some (.cells (aA e (a1,n1,p1) (a2,n2,p2)) 32)from r8) (zA (aE (bZ k1 fun g hg=>hk g (n1A g hg)) hAw) (zA (aE (bZ ho2 fun g hg=>hk g (n2A g hg)) H5.out.2.2.size) (zA hap ((hlo.setCell (p:=(A,17)) (Nat.le_of_eq eA) (a1,n1,p1)).setCell (p:=(A,18)) (Nat.le_of_eq eA) (a2,n2,p2))))));clear q6 r7 r8 ho2 hb6 k1 hap hlo n1A n2A hk;go_wp2_with fail
    refine ro hK trivial fun _=>?_
    clear hK K;refine r3 7 fun K hK=>?_
    go_simp;refine ro hK trivial fun _=>?_
    clear hK K;refine t2 8 ?_;refine r3 9 fun K hK=>?_
    go_simp;refine hK.out _ _ trivial (fun _=>?_);clear hK K;try simp only[Act.put,List.getElem_toArray,List.getElem_cons_zero,List.getElem_cons_succ]
    refine dn ?_ _;go_wp2_with fail
    go_meet;exact⟨a1,p1,a2,p2,uh H6⟩
   .have cx:=c18;go_simp;refine ro hK trivial fun _=>?_
    clear hK K;clear cx;refine r3 2 fun K hK=>?_
    go_simp;refine(uh C1 _ HZ.out.2).mono ?_;rintro r w5⟨a1,p1,rfl,ho1,hb5⟩;have q5:=(hb5.block A hAl).trans HZ.out.1;have d18:w5.cell? (A,18)=some (.slice x2 n2 y2):=cv q5
    have H5:=aa (zA q5 (zA ho1 (HZ.out.2.trans (hb5.mono HZ.out.2.size))));have hs5:w.heap.size<=z.heap.size:=hAw;clear q5 ho1 hb5;go_wp2_with fail
    refine ro hK trivial fun _=>?_
    clear hK K;refine t2 6 ?_;refine r3 5 fun K hK=>?_
    go_simp;refine(uh C2 _ H5.out.2.2).mono ?_;rintro r w6⟨a2,p2,rfl,ho2,hb6⟩;have q6:=(hb6.block A (ge.1 H5.out.1).1).trans H5.out.1;have g17:w6.cell? (A,17)=some (.slice x1 n1 y1):=cv q6
    have f17:w6.frozen? (A,17)=false:=aX q6 17;have r7:=zH w6 A 17 _ _ (a1,n1,p1) q6;have g18:(w6.setCell (A,17) (a1,n1,p1)).cell? (A,18)=some (.slice x2 n2 y2):=cv r7
    have f18:(w6.setCell (A,17) (a1,n1,p1)).frozen? (A,18)=false:=aX r7 18;have r8:=zH (w6.setCell (A,17) (a1,n1,p1)) A 18 _ _ (a2,n2,p2) r7;have k1:=aP H5.out.2.1 hb6;have hap:=ig H5.out.2.1 ho2;have hlo:=H5.out.2.2.trans (hb6.mono H5.out.2.2.size);have n1A:∀g,(Value.slice a1 n1 p1).ownBlock=some g->g≠A:=fun g hg e=>by have h1:z.heap.size<=g:=(k1.lt g hg).1;omega
    have n2A:∀g,(Value.slice a2 n2 p2).ownBlock=some g->g≠A:=fun g hg e=>by have h1:=(ho2.lt g hg).1;have h2:=(ge.1 H5.out.1).1;omega
    have hk:∀g,g≠A->((w6.setCell (A,17) (a1,n1,p1)).setCell (A,18) (a2,n2,p2)).heap[g]?=w6.heap[g]?:=fun g hg=>(heap_setCell_other _ _ _ _ hg).trans (heap_setCell_other _ _ _ _ hg)
    have H6:=aa (zA (show((w6.setCell (A,17) (a1,n1,p1)).setCell (A,18) (a2,n2,p2)).heap[A]?=some (.cells (aA e (a1,n1,p1) (a2,n2,p2)) 32)from r8) (zA (aE (bZ k1 fun g hg=>hk g (n1A g hg)) hAw) (zA (aE (bZ ho2 fun g hg=>hk g (n2A g hg)) H5.out.2.2.size) (zA hap ((hlo.setCell (p:=(A,17)) (Nat.le_of_eq eA) (a1,n1,p1)).setCell (p:=(A,18)) (Nat.le_of_eq eA) (a2,n2,p2))))));clear q6 r7 r8 ho2 hb6 k1 hap hlo n1A n2A hk;go_wp2_with fail
    refine ro hK trivial fun _=>?_
    clear hK K;refine r3 7 fun K hK=>?_
    go_simp;refine ro hK trivial fun _=>?_
    clear hK K;refine t2 8 ?_;refine r3 9 fun K hK=>?_
    go_simp;refine hK.out _ _ trivial (fun _=>?_);clear hK K;try simp only[Act.put,List.getElem_toArray,List.getElem_cons_zero,List.getElem_cons_succ]
    refine dn ?_ _;go_wp2_with fail
    go_meet;exact⟨a1,p1,a2,p2,uh H6⟩
  .have cx:=c18;go_simp;refine ro hK trivial fun _=>?_
   clear hK K;clear cx;refine r3 1 fun K hK=>?_
   have cx:=c17;go_simp;refine ro hK trivial fun _=>?_
   clear hK K;clear cx;refine r3 2 fun K hK=>?_
   go_simp;refine(uh C1 _ HZ.out.2).mono ?_;rintro r w5⟨a1,p1,rfl,ho1,hb5⟩;have q5:=(hb5.block A hAl).trans HZ.out.1;have d18:w5.cell? (A,18)=some (.slice x2 n2 y2):=cv q5
   have H5:=aa (zA q5 (zA ho1 (HZ.out.2.trans (hb5.mono HZ.out.2.size))));have hs5:w.heap.size<=z.heap.size:=hAw;clear q5 ho1 hb5;go_wp2_with fail
   refine ro hK trivial fun _=>?_
   clear hK K;refine t2 6 ?_;refine r3 5 fun K hK=>?_
   go_simp;refine(uh C2 _ H5.out.2.2).mono ?_;rintro r w6⟨a2,p2,rfl,ho2,hb6⟩;have q6:=(hb6.block A (ge.1 H5.out.1).1).trans H5.out.1;have g17:w6.cell? (A,17)=some (.slice x1 n1 y1):=cv q6
   have f17:w6.frozen? (A,17)=false:=aX q6 17;have r7:=zH w6 A 17 _ _ (a1,n1,p1) q6;have g18:(w6.setCell (A,17) (a1,n1,p1)).cell? (A,18)=some (.slice x2 n2 y2):=cv r7
   have f18:(w6.setCell (A,17) (a1,n1,p1)).frozen? (A,18)=false:=aX r7 18;have r8:=zH (w6.setCell (A,17) (a1,n1,p1)) A 18 _ _ (a2,n2,p2) r7;have k1:=aP H5.out.2.1 hb6;have hap:=ig H5.out.2.1 ho2;have hlo:=H5.out.2.2.trans (hb6.mono H5.out.2.2.size);have n1A:∀g,(Value.slice a1 n1 p1).ownBlock=some g->g≠A:=fun g hg e=>by have h1:z.heap.size<=g:=(k1.lt g hg).1;omega
   have n2A:∀g,(Value.slice a2 n2 p2).ownBlock=some g->g≠A:=fun g hg e=>by have h1:=(ho2.lt g hg).1;have h2:=(ge.1 H5.out.1).1;omega
   have hk:∀g,g≠A->((w6.setCell (A,17) (a1,n1,p1)).setCell (A,18) (a2,n2,p2)).heap[g]?=w6.heap[g]?:=fun g hg=>(heap_setCell_other _ _ _ _ hg).trans (heap_setCell_other _ _ _ _ hg)
   have H6:=aa (zA (show((w6.setCell (A,17) (a1,n1,p1)).setCell (A,18) (a2,n2,p2)).heap[A]?=some (.cells (aA e (a1,n1,p1) (a2,n2,p2)) 32)from r8) (zA (aE (bZ k1 fun g hg=>hk g (n1A g hg)) hAw) (zA (aE (bZ ho2 fun g hg=>hk g (n2A g hg)) H5.out.2.2.size) (zA hap ((hlo.setCell (p:=(A,17)) (Nat.le_of_eq eA) (a1,n1,p1)).setCell (p:=(A,18)) (Nat.le_of_eq eA) (a2,n2,p2))))));clear q6 r7 r8 ho2 hb6 k1 hap hlo n1A n2A hk;go_wp2_with fail
   refine ro hK trivial fun _=>?_
   clear hK K;refine r3 7 fun K hK=>?_
   go_simp;refine ro hK trivial fun _=>?_
   clear hK K;refine t2 8 ?_;refine r3 9 fun K hK=>?_
   go_simp;refine hK.out _ _ trivial (fun _=>?_);clear hK K;try simp only[Act.put,List.getElem_toArray,List.getElem_cons_zero,List.getElem_cons_succ]
   refine dn ?_ _;go_wp2_with fail
   go_meet;exact⟨a1,p1,a2,p2,uh H6⟩
 case rest =>
  obtain⟨a1,p1,a2,p2,hq⟩:=hcut;have HQ:=aa hq;clear hq;go_upto_region 2 with fail
  refine bb (fun q=>q.heap[A]?=some (.cells (aA e (a1,n1,p1) (a2,n2,p2)) 32)/\q.ownsRow w 105 2 (a1,n1,p1) n1 (aj F1)/\q.ownsRow w 105 2 (a2,n2,p2) n2 (aj F2)/\Ap (a1,n1,p1) (.slice a2 n2 p2)/\Below w w q) ?_ ?_
  .exact uh HQ
  clear HQ HZ c17 c18;rintro q hq;have HQ:=aa hq;clear hq
  go_wp2_with (first
   | (refine wpList_load_row rfl 32 (.tmp 2) rfl A rfl 32 (aA e (a1,n1,p1) (a2,n2,p2)) (0,0) _ HQ.out.1 underlying32 rfl aL ?_)
   | (refine wpList_buildTo rfl 129 _ rfl (some 15) rfl (jF e (a1,n1,p1) (a2,n2,p2) now).toArray (by as_aux_lemma=>kernel_rfl) ?_)
   | (refine Great.wpList_allocTo rfl (some 16) rfl (q,0) (.cells (jF e (a1,n1,p1) (a2,n2,p2) now).toArray 129) (by as_aux_lemma=>kernel_rfl) ?_))
  go_ret
  obtain⟨_,o1,o2,ap,lo⟩:=uh HQ;exact⟨_,_,_,rfl,Lay.start ttI e1 e2 now o1 o2 ap lo⟩
theorem eG(e:En)(x1 x2:Option Addr)(y1 y2:Nat)(F1 F2:List Op.Opt)(w:World)(l1:F1.length<=maxLen)(l2:F2.length<=maxLen)(h1:HoldsO w (x1,F1.length,y1) F1)(h2:HoldsO w (x2,F2.length,y2) F2):Calls prog 82 #[.agg (aA e (x1,F1.length,y1) (x2,F2.length,y2))] w fun r w'=>r=.returned (.bool (dJ e F1 F2))/\Below w w w' :=
 ir e x1 x2 y1 y2 F1 F2 w l1 l2 h1 h2 He
theorem ez{e:En}{F1 F2:List Op.Opt}(h:dJ e F1 F2=true):Op.right F1=true/\Op.right F2=true:=by
 simp only[dJ,zK]at h;exact⟨iP h.2.2.2.2.2.2.1,iP h.2.2.2.2.2.2.2.1⟩
theorem qL(e:En)(x1 x2:Option Addr)(y1 y2:Nat)(F1 F2:List Op.Opt)(now:Int)(w:World)(l1:F1.length<=1048576)(l2:F2.length<=1048576)(h1:HoldsO w (x1,F1.length,y1) F1)(h2:HoldsO w (x2,F2.length,y2) F2)(hEv:EvT w)(hNx:NxT w)(hSp:SpT w):Calls prog 91 #[.agg (aA e (x1,F1.length,y1) (x2,F2.length,y2)),now] w fun r w'=>EvA w (dq e F1 F2 now) r w':=by
 have CR:=aa fun W (hb:Below w w W)=>eG e x1 x2 y1 y2 F1 F2 W (by unfold maxLen;omega) (by unfold maxLen;omega) (h1.below hb rfl) (h2.below hb rfl)
 have CW:=aa fun W (hb:Below w w W) (r:Op.right F1=true/\Op.right F2=true)=>qK e x1 x2 y1 y2 F1 F2 now W r.1 r.2 (h1.below hb rfl) (h2.below hb rfl)
 have CT:=aa fun W=>qB now W
 clear h1 h2;have HF:=aa (Aw (e:=e) (F1:=F1) (F2:=F2) (now:=now));have HG:=aa (ez (e:=e) (F1:=F1) (F2:=F2));obtain⟨_,hA,hX,hb⟩:=br w (.cells (aA e (x1,F1.length,y1) (x2,F2.length,y2)) 32) (.cells k_ 74);obtain⟨A,eA⟩ := ex w.heap.size;have hXw:w.heap.size<=A+1:=by omega
 rw[eA]at hA hX;have H0:=aa (zA hA (zA hX hb));clear hA hX hb;unfold dq;generalize dJ e F1 F2=ok1 at*;generalize bh 0 1000000000 now=ok2 at*;obtain⟨n1,e1⟩:∃n,F1.length=n:=⟨_,rfl⟩;obtain⟨n2,e2⟩:∃n,F2.length=n:=⟨_,rfl⟩;rw[e1]at CR CW H0|-;rw[e2]at CR CW H0|-;go_enter func91,ntmps91
 go_upto_region 1 with fail
 refine bb (fun z=>z.heap[A]?=some (.cells (aA e (x1,n1,y1) (x2,n2,y2)) 32)/\z.heap[A+1]?=some (.cells k_ 74)/\Below w w z) ?_ ?_
 .exact uh H0
 clear H0;rintro z hz;have HZ:=aa hz;clear hz
 go_wp2_with (first
  | (refine wpList_load_row rfl 32 (.tmp 2) rfl A rfl 32 (aA e (x1,n1,y1) (x2,n2,y2)) (0,0) _ HZ.out.1 underlying32 rfl aL ?_))
 refine(uh CR _ HZ.out.2.2).mono ?_;rintro r z1⟨rfl,hb1⟩;have hA1:=(hb1.block A (ge.1 HZ.out.1).1).trans HZ.out.1;have hX1:=(hb1.block (A+1) (ge.1 HZ.out.2.1).1).trans HZ.out.2.1;have H1:=aa (zA hA1 (zA hX1 (HZ.out.2.2.trans (hb1.mono HZ.out.2.2.size))));have c13:z1.cell? (A,13)=some (.int .i64 e.tr):=cv hA1
 have c14:z1.cell? (A,14)=some (.int .i64 e.du):=cv hA1
 clear hA1 hX1 hb1 CR HZ;have CTX:Hid (∀W,Calls prog 83 #[now] W fun e w'=>e=.returned (.bool ok2)/\w'=W):=CT;cases ok1
 .go_wp2_with (first
   | (refine wpList_buildTo rfl 74 _ rfl (some 14) rfl (aC ag () () () () 1) (by as_aux_lemma=>kernel_rfl) ?_)
   | (refine wpList_store_rowTo rfl 74 (.tmp 4) (.tmp 14) rfl rfl (A+1) (aC ag () () () () 1) rfl rfl 74 k_ H1.out.2.1 aw rfl (aG _ _ _ _ _ _ _ _ _ _ _ _ _ _) ?_))
  refine bodyPost_ret (v:=.agg (aC ag () () () () 1)) (by simp[results,results91,asAddr,de (setRow_heap z1 (A+1) _ (aC ag () () () () 1) _ _ H1.out.2.1)]) rfl ?_;exact bE (am H1.out.2.2 hXw _) 1
 .cases ok2
  .go_wp2_with (first
    | (go_at_call 83;refine cq (uh CT _) ?_)
    | (refine wpList_buildTo rfl 74 _ rfl (some 14) rfl (aC ag () () () () 1) (by as_aux_lemma=>kernel_rfl) ?_)
    | (refine wpList_store_rowTo rfl 74 (.tmp 4) (.tmp 14) rfl rfl (A+1) (aC ag () () () () 1) rfl rfl 74 k_ H1.out.2.1 aw rfl (aG _ _ _ _ _ _ _ _ _ _ _ _ _ _) ?_))
   refine bodyPost_ret (v:=.agg (aC ag () () () () 1)) (by simp[results,results91,asAddr,de (setRow_heap z1 (A+1) _ (aC ag () () () () 1) _ _ H1.out.2.1)]) rfl ?_;exact bE (am H1.out.2.2 hXw _) 1
  .replace HF:=aa (uh HF rfl);replace CW:=aa fun W hb=>uh CW W hb (uh HG rfl)
   have hdu:=HF.out.2.2;by_cases hd:e.du<0\/now<e.du
   .by_cases hd0:e.du=-1
    .have hd9:e.du<0:=by omega
     go_wp2_with (first
      | (go_at_call 83;refine cq (uh CT _) ?_)
      | (refine wpList_buildTo rfl 74 _ rfl (some 24) rfl (aC ag () () () () 8) (by as_aux_lemma=>kernel_rfl) ?_)
      | (refine wpList_store_rowTo rfl 74 (.tmp 4) (.tmp 24) rfl rfl (A+1) (aC ag () () () () 8) rfl rfl 74 k_ H1.out.2.1 aw rfl (aG _ _ _ _ _ _ _ _ _ _ _ _ _ _) ?_))
     refine bodyPost_ret (v:=.agg (aC ag () () () () 8)) (by simp[results,results91,asAddr,de (setRow_heap z1 (A+1) _ (aC ag () () () () 8) _ _ H1.out.2.1)]) rfl ?_;exact bE (am H1.out.2.2 hXw _) 8
    .have hd1:now<e.du:=hd.resolve_left (by omega);have hd9:¬(e.du<0):=by omega
     have hd2:(e.du == -1)=false:=zL hd0
     go_wp2_with (first
      | (go_at_call 83;refine cq (uh CT _) ?_)
      | (refine wpList_buildTo rfl 74 _ rfl (some 24) rfl (aC ag () () () () 8) (by as_aux_lemma=>kernel_rfl) ?_)
      | (refine wpList_store_rowTo rfl 74 (.tmp 4) (.tmp 24) rfl rfl (A+1) (aC ag () () () () 8) rfl rfl 74 k_ H1.out.2.1 aw rfl (aG _ _ _ _ _ _ _ _ _ _ _ _ _ _) ?_))
     refine bodyPost_ret (v:=.agg (aC ag () () () () 8)) (by simp[results,results91,asAddr,de (setRow_heap z1 (A+1) _ (aC ag () () () () 8) _ _ H1.out.2.1)]) rfl ?_;exact bE (am H1.out.2.2 hXw _) 8
   .have hd0:¬(e.du<0):=fun h=>hd (Or.inl h)
    have hd1:¬(now<e.du):=fun h=>hd (Or.inr h)
    have hd2:(e.du == -1)=false:=zL (by omega)
    go_wp2_with (first
     | (go_at_call 83;refine cq (uh CT _) ?_)
     | (refine wpList_load_row rfl 32 (.tmp 2) rfl A rfl 32 (aA e (x1,n1,y1) (x2,n2,y2)) (0,0) _ H1.out.1 underlying32 rfl aL ?_))
    refine(uh CW _ H1.out.2.2).mono ?_;rintro r z2⟨B,v1,v2,rfl,hL⟩;have hl:=hL.low;have hA2:=(hl.block A (ge.1 H1.out.1).1).trans H1.out.1;have d13:z2.cell? (A,13)=some (.int .i64 e.tr):=cv hA2
    have HL:=aa hL;clear hL hl hA2 c13 c14;by_cases ht:0<e.tr
    .have hE0:=fL z1 z2 B (bY now) ⟨e,F1,F2,[],[]⟩ v1 v2 z2 HL.out rfl rfl HF.out.1 4 ⟨#[84,79,43]⟩ rfl (hEv.below H1.out.2.2) (hNx.below H1.out.2.2) (hSp.below H1.out.2.2) (dh (i:=4) (by decide) rfl HF.out.2.1.1 HF.out.2.1.2).1 (dh (i:=4) (by decide) rfl HF.out.2.1.1 HF.out.2.1.2).2;have CE:=aa hE0;clear hE0;go_wp2_with fail
     refine CE.out.mono ?_;rintro r z3 hE;obtain⟨cs,rfl,hsz,hall,hX2,hEv⟩:=hE.out H1.out.2.2 H1.out.2.1 hXw;have HE2:=aa (zA hX2 hEv);clear hE hX2 hEv
     go_wp2_with (first
      | (refine wpList_store_rowTo rfl 74 (.tmp 4) (.tmp 32) rfl rfl (A+1) cs rfl rfl 74 k_ HE2.out.1 (by rw[hsz];exact aw) (by rw[hsz];rfl) hall ?_))
     refine bodyPost_ret (v:=.agg cs) (by simp[results,results91,asAddr,de (setRow_heap z3 (A+1) _ cs _ _ HE2.out.1) hsz]) rfl ?_;exact HE2.out.2
    .have hE0:=fL z1 z2 B (bY now) ⟨e,F1,F2,[],[]⟩ v1 v2 z2 HL.out rfl rfl HF.out.1 5 ⟨#[84,79,45]⟩ rfl (hEv.below H1.out.2.2) (hNx.below H1.out.2.2) (hSp.below H1.out.2.2) (dh (i:=5) (by decide) rfl HF.out.2.1.1 HF.out.2.1.2).1 (dh (i:=5) (by decide) rfl HF.out.2.1.1 HF.out.2.1.2).2;have CE:=aa hE0;clear hE0;go_wp2_with fail
     refine CE.out.mono ?_;rintro r z3 hE;obtain⟨cs,rfl,hsz,hall,hX2,hEv⟩:=hE.out H1.out.2.2 H1.out.2.1 hXw;have HE2:=aa (zA hX2 hEv);clear hE hX2 hEv
     go_wp2_with (first
      | (refine wpList_store_rowTo rfl 74 (.tmp 4) (.tmp 34) rfl rfl (A+1) cs rfl rfl 74 k_ HE2.out.1 (by rw[hsz];exact aw) (by rw[hsz];rfl) hall ?_))
     refine bodyPost_ret (v:=.agg cs) (by simp[results,results91,asAddr,de (setRow_heap z3 (A+1) _ cs _ _ HE2.out.1) hsz]) rfl ?_;exact HE2.out.2
end Go.Proofs.YtjdgiimfpkideaaGreatDoor
