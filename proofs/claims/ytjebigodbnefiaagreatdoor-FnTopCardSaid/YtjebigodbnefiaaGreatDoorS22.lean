/- WkT -/
import Derived.Test.YtjebigodbnefiaaGreatDoorS21
import Derived.Test.YtjebigodbnefiaaGreatDoorS13
set_option maxHeartbeats 16000000
set_option maxRecDepth 100000
namespace Go.Proofs.YtjebigodbnefiaaGreatDoor
open Go.RowKit Go.Proofs.Tryz
def qf (c:Cx) (a:ByteArray):Prop:=a=mO∨a=mP∨a=mQ∨a=bP∨a=bQ∨a=bL∨a=pT∨a=sB∨a=p6∨a=p7∨a=dz∨(a=pY∧c.ac=2)∨(a=pZ∧c.ac≠2)
def yO (a:ByteArray):Prop:=a=bP∨a=bQ∨a=bL∨a=dz
theorem sD {c:Cx} {a:ByteArray} (h:qf c a):yO a∨a=mO∨a=mP∨a=mQ∨a=pT∨a=sB∨a=p6∨a=p7∨(a=pY∧c.ac=2)∨(a=pZ∧c.ac≠2):=by
 rcases h with h | h | h | h | h | h | h | h | h | h | h | h | h
 ·exact .inr (.inl h)
 ·exact .inr (.inr (.inl h))
 ·exact .inr (.inr (.inr (.inl h)))
 ·exact .inl (.inl h)
 ·exact .inl (.inr (.inl h))
 ·exact .inl (.inr (.inr (.inl h)))
 ·exact .inr (.inr (.inr (.inr (.inl h))))
 ·exact .inr (.inr (.inr (.inr (.inr (.inl h)))))
 ·exact .inr (.inr (.inr (.inr (.inr (.inr (.inl h))))))
 ·exact .inr (.inr (.inr (.inr (.inr (.inr (.inr (.inl h)))))))
 ·exact .inl (.inr (.inr (.inr h)))
 ·exact .inr (.inr (.inr (.inr (.inr (.inr (.inr (.inr (.inl h))))))))
 ·exact .inr (.inr (.inr (.inr (.inr (.inr (.inr (.inr (.inr h))))))))
theorem tel {c:Cx} {a:ByteArray} (h:yO a):(∀ w,Calls prog 156 #[.string a] w fun e w'=>e=.returned (.iface 218 (.agg #[.string a]))∧w'=w)∧dH a=false ∧
  ∀ {w0 w1:World} {B:Nat} {s:St} {v1 v2 vs vt:Value} {q:World} {n:Nat},Lay 182 w0 w1 B c s v1 v2 vs vt q→Fit n c s→∃ sj:St,sj.tl=s.tl∧bv c a s={ sj with tl:=sj.tl ++ [a] } ∧
   Calls prog 275 #[.agg #[.string a],.pointer (some ⟨B,0,none⟩)] q fun r q'=>r=.returned (.tuple #[])∧Lay 182 w0 w1 B c sj v1 v2 vs vt q':=by
 rcases h with rfl | rfl | rfl | rfl
 ·exact ⟨wL,by kernel_rfl,fun {_ _ _ s _ _ _ _ _ _} h hf=>⟨s,rfl,rfl,wO h⟩⟩
 ·exact ⟨wM,by kernel_rfl,fun {_ _ _ s _ _ _ _ _ _} h hf=>⟨s,rfl,rfl,wP h⟩⟩
 ·exact ⟨wN,by kernel_rfl,fun {_ _ _ s _ _ _ _ _ _} h hf=>⟨{ s with e:=gD s.e },rfl,rfl,wQ h⟩⟩
 ·exact ⟨yD,by kernel_rfl,fun {_ _ _ s _ _ _ _ _ _} h hf=>⟨{ s with e:=sF (aQ s.F1) (aQ s.F2) s.e },rfl,rfl,yJ h hf⟩⟩
theorem mR (w0 w1:World) (B:Nat) (c:Cx) (s:St) (v1 v2:Value) (q:World) (h:Lay 182 w0 w1 B c s v1 v2 (.slice none 0 0) (.slice none 0 0) q) (hs:s.sn=[]) (ht:s.tl=[]) (hf:Fit 0 c s) (k:Nat) (t:ByteArray) (hk:bq[k]?=some t)
  (hE:EvT w0) (hN:NxT w0) (hS:SpT w0) (hA:∀ a ∈ (bO s.e.st t).2.1,qf c a) (hl:(bO s.e.st t).2.1.length≤30) :
  Calls prog 134 #[.pointer (some ⟨B,0,none⟩),.int .i64 k] q fun r q'=>EvA w0 (bj c s t) r q':=by
 have hk16:k<16:=(List.getElem?_eq_some_iff.1 hk).1;have hts:t.size≤maxLen:=by
  have hz:(bq.all fun t=>decide (t.size≤10))=true:=by kernel_rfl
  have:=of_decide_eq_true (List.all_eq_true.1 hz t (List.mem_of_getElem? hk))
  unfold maxLen;omega
 have CF:=aa fun W (hb:Below w0.heap.size w0 W)=>xK s.e.st t W hts (hE.below hb) (hN.below hb) (hS.below hb)
 have HT:=aa fun W (hb:Below w0.heap.size w0 W)=>hE.below hb k t hk
 unfold bj;generalize bO s.e.st t=R at *;obtain ⟨st',A,cd⟩:=R;dsimp only at hA hl ⊢;obtain ⟨X,hXq⟩:∃ X,q.heap.size=X:=⟨_,rfl⟩;have hX:=zF q (.cells bk 121);have hbX:Below q.heap.size q (q.alloc (.cells bk 121)):=(zC _ _).alloc (zD _) _;have h0:=h.step hbX;have hBX:B<X:=hXq ▸ h.lt;rw [hXq] at hX;have H0:=aa (zA h0 hX);have HP:=aa (zA hf (zA hA (zA hs ht)));clear h h0 hX hbX hf hA hs ht hE hN hS;have d0:(0:Int)≤(k:Int):=by omega
 have d16:(k:Int)<16:=by omega
 go_enter func134,ntmps134
 go_upto_region 1 with fail
 refine aI (fun z=>Lay 182 w0 w1 B c s v1 v2 (.slice none 0 0) (.slice none 0 0) z∧z.heap[X]?=some (.cells bk 121)) ?_ ?_
 ·exact uh H0
 clear H0;rintro z ⟨hz,hX⟩;have c12:=hz.cell (i:=12) rfl;have cG:=uh HT z hz.low;have HZ:=aa (zA (hz.step (zC _ _).drew) hX);clear hz hX;go_cut [5] (fun y wx=>∃ Y ad cp,y=.pointer (some ⟨Y,0,none⟩)∧B<Y∧X<Y∧Lay 182 w0 wx B c s v1 v2 (.slice none 0 0) (.slice none 0 0) wx∧wx.heap[X]?=some (.cells bk 121)∧wx.heap[Y]?=some (.cells #[.int .i64 st',.slice ad A.length cp,.int .i64 cd] 209)∧wx.ownsRow 0 9 1 (.slice ad A.length cp) A.length (a_ A))
 case first =>
  refine wp_region_held_drew (S:=fun z=>z.cell? ⟨B,12,none⟩=some (.int .i64 s.e.st)∧z.cell? ⟨5,k,none⟩=some (.string t)) (by kernel_rfl) ?_ (fun hHeld=>?_)
  ·exact ⟨c12,cG⟩
  clear c12 cG;refine tq 0 1 2 3 ?_;refine tq 4 5 6 7 ?_;refine r4 8 9 (fun K hK=>?_) (fun K hK=>?_)
  ·go_simp;refine (uh CF _ (uh HZ).1.low).mono ?_;rintro r q1 ⟨ad,cp,rfl,ho,hb1⟩;dsimp only at ho;have hL1:=(uh HZ).1.step hb1;have hX1:=(hb1.block X (ge.1 (uh HZ).2).1).trans (uh HZ).2;have HL0:=aa (zA hL1 (zA hX1 (aE ho (Nat.zero_le _))));clear hL1 hX1 ho hb1;go_wp2_with fail
   refine ro hK ?_ fun _=>?_
   ·exact ⟨(uh HL0).1.cell (i:=12) rfl,uh HT _ (uh HL0).1.low⟩
   clear hK K;refine r3 9 fun K hK=>?_
   rw [if_pos (by rfl)];refine bJ (v:=.pointer (some ⟨q1.heap.size,0,none⟩)) (w':=(q1.alloc (.cells #[.int .i64 0,.slice none 0 0,.int .i64 0] 209))) (by as_aux_lemma=>kernel_rfl) ?_;have hb2:Below q1.heap.size q1 (q1.alloc (.cells #[.int .i64 0,.slice none 0 0,.int .i64 0] 209)):=(zC _ _).alloc (zD _) _;have hBY:B<q1.heap.size:=(uh HL0).1.lt;have hXY:X<q1.heap.size:=(ge.1 (uh HL0).2.1).1;have hlow:w0.heap.size≤q1.heap.size:=(uh HL0).1.low.size;have HY:=aa (zF q1 (.cells #[.int .i64 0,.slice none 0 0,.int .i64 0] 209));have HL:=aa (zA ((uh HL0).1.step hb2) (zA ((hb2.block X hXY).trans (uh HL0).2.1) (aP (uh HL0).2.2 hb2)));clear hb2;refine ro hK ?_ fun _=>?_
   ·exact ⟨(uh HL).1.cell (i:=12) rfl,uh HT _ (uh HL).1.low⟩
   clear hK K;refine r3 10 fun K hK=>?_
   rw [if_pos (by rfl)];refine wp_store_row 209 (.tmp 5) (.tmp 20) rfl q1.heap.size #[.int .i64 st',.slice ad A.length cp,.int .i64 cd] rfl rfl 209 #[.int .i64 0,.slice none 0 0,.int .i64 0] (uh HY) kS rfl (by kernel_rfl) ?_;have hY2:=setRow_heap _ q1.heap.size _ #[.int .i64 st',.slice ad A.length cp,.int .i64 cd] _ _ (uh HY);have hL3:=(uh HL).1;have nB:B≠q1.heap.size:=Nat.ne_of_lt hBY;have hL4:=Lay.free hL3 q1.heap.size #[.int .i64 st',.slice ad A.length cp,.int .i64 cd] (uh HY) nB (by decide) hlow (uh HP).2.2.1 (uh HP).2.2.2;have hX4:=(aV (q1.alloc (.cells #[.int .i64 0,.slice none 0 0,.int .i64 0] 209)) q1.heap.size X #[.int .i64 st',.slice ad A.length cp,.int .i64 cd] (Nat.ne_of_lt hXY)).trans (uh HL).2.1;have hO4:=az (cs:=#[.int .i64 st',.slice ad A.length cp,.int .i64 cd]) (uh HL).2.2 (uh HY) (by decide);refine hK.out _ _ ?_ (fun _=>?_)
   ·exact ⟨hL4.cell (i:=12) rfl,uh HT _ hL4.low⟩
   clear hK K;try simp only [Act.put,List.getElem_toArray,List.getElem_cons_zero,List.getElem_cons_succ]
   refine dn ?_ _;go_wp2_with fail
   go_meet;exact ⟨q1.heap.size,ad,cp,rfl,hBY,hXY,hL4,hX4,hY2,hO4⟩
  ·rw [if_pos (by rfl)];refine bJ (v:=.pointer (some ⟨z.heap.size,0,none⟩)) (w':=z.drew.alloc (.cells #[.int .i64 0,.slice none 0 0,.int .i64 0] 209)) (by as_aux_lemma=>kernel_rfl) ?_;have hb2:Below z.drew.heap.size z.drew (z.drew.alloc (.cells #[.int .i64 0,.slice none 0 0,.int .i64 0] 209)):=(zC _ _).alloc (zD _) _;have hBY:B<z.heap.size:=(uh HZ).1.lt;have hXY:X<z.heap.size:=(ge.1 (uh HZ).2).1;have hlow:w0.heap.size≤z.heap.size:=(uh HZ).1.low.size;have HY0:=aa (zF z.drew (.cells #[.int .i64 0,.slice none 0 0,.int .i64 0] 209));have HL0:=aa (zA ((uh HZ).1.step hb2) ((hb2.block X hXY).trans (uh HZ).2));clear hb2;refine ro hK ?_ fun _=>?_
   ·exact ⟨(uh HL0).1.cell (i:=12) rfl,uh HT _ (uh HL0).1.low⟩
   clear hK K;refine r3 8 fun K hK=>?_
   go_simp;refine (uh CF _ (uh HL0).1.low).mono ?_;rintro r q1 ⟨ad,cp,rfl,ho,hb1⟩;dsimp only at ho;have HY:=aa ((hb1.block z.heap.size (ge.1 (uh HY0)).1).trans (uh HY0));have HL:=aa (zA ((uh HL0).1.step hb1) (zA ((hb1.block X (ge.1 (uh HL0).2).1).trans (uh HL0).2) (aE ho (Nat.zero_le _))));clear ho hb1;go_wp2_with fail
   refine ro hK ?_ fun _=>?_
   ·exact ⟨(uh HL).1.cell (i:=12) rfl,uh HT _ (uh HL).1.low⟩
   clear hK K;refine r3 10 fun K hK=>?_
   rw [if_pos (by rfl)];refine wp_store_row 209 (.tmp 5) (.tmp 20) rfl z.heap.size #[.int .i64 st',.slice ad A.length cp,.int .i64 cd] rfl rfl 209 #[.int .i64 0,.slice none 0 0,.int .i64 0] (uh HY) kS rfl (by kernel_rfl) ?_;have hY2:=setRow_heap _ z.heap.size _ #[.int .i64 st',.slice ad A.length cp,.int .i64 cd] _ _ (uh HY);have hL3:=(uh HL).1;have nB:B≠z.heap.size:=Nat.ne_of_lt hBY;have hL4:=Lay.free hL3 z.heap.size #[.int .i64 st',.slice ad A.length cp,.int .i64 cd] (uh HY) nB (by decide) hlow (uh HP).2.2.1 (uh HP).2.2.2;have hX4:=(aV q1 z.heap.size X #[.int .i64 st',.slice ad A.length cp,.int .i64 cd] (Nat.ne_of_lt hXY)).trans (uh HL).2.1;have hO4:=az (cs:=#[.int .i64 st',.slice ad A.length cp,.int .i64 cd]) (uh HL).2.2 (uh HY) (by decide);refine hK.out _ _ ?_ (fun _=>?_)
   ·exact ⟨hL4.cell (i:=12) rfl,uh HT _ hL4.low⟩
   clear hK K;try simp only [Act.put,List.getElem_toArray,List.getElem_cons_zero,List.getElem_cons_succ]
   refine dn ?_ _;go_wp2_with fail
   go_meet;exact ⟨z.heap.size,ad,cp,rfl,hBY,hXY,hL4,hX4,hY2,hO4⟩
 case rest =>
  obtain ⟨Y,ad,cp,rfl,hBY0,hXY,hL2,hX2,hY2,hO2⟩:=hcut;go_upto_region 2 with fail
  refine aI (fun z=>Lay 182 w0 z B c s v1 v2 (.slice none 0 0) (.slice none 0 0) z∧z.heap[X]?=some (.cells bk 121)∧z.heap[Y]?=some (.cells #[.int .i64 st',.slice ad A.length cp,.int .i64 cd] 209)∧z.ownsRow 0 9 1 (.slice ad A.length cp) A.length (a_ A)) ?_ ?_
  ·exact ⟨hL2,hX2,hY2,hO2⟩
  clear hL2 hX2 hY2 hO2 HZ CF HT c12 cG;rintro q2 ⟨hL2,hX2,hY2,hO2⟩;have k0:q2.cell? ⟨Y,0,none⟩=some (.int .i64 st'):=by rw [cr hY2];rfl
  have k1:q2.cell? ⟨Y,1,none⟩=some (.slice ad A.length cp):=by rw [cr hY2];rfl
  have k2:q2.cell? ⟨Y,2,none⟩=some (.int .i64 cd):=by rw [cr hY2];rfl
  have hBY:B≠Y:=by omega
  have HQ2:=aa (zA hL2 (zA hX2 (zA hY2 hO2)));clear hL2 hX2 hY2 hO2;by_cases hcd:cd=0
  ·subst hcd;obtain ⟨n,hn⟩:∃ n,A.length=n:=⟨_,rfl⟩;rw [hn] at k1 hl HQ2;have KY:Hid (∀ wr,Nr B q2 wr→wr.cell? ⟨Y,0,none⟩=some (.int .i64 st')∧wr.cell? ⟨Y,1,none⟩=some (.slice ad n cp)):=by
    have hyl:=(ge.1 (uh HQ2).2.2.1).1;refine aa fun wr hw=>?_
    have e:=hw.block Y hyl hBY.symm;exact ⟨(World.cell?_of_block e).trans k0,(World.cell?_of_block e).trans k1⟩
   have KT:Hid (∀ (i:Nat) (hi:i<A.length),∃ g,ad=some ⟨g,0,none⟩∧∀ wr,Nr B q2 wr→wr.cell? ⟨g,i,none⟩=some (.string A[i])):=by
    refine aa fun i hi=>?_
    have hO:=(uh HQ2).2.2.2;rw [← hn] at hO;obtain ⟨g,cp',e1,hgl,hc⟩:=ku hO i hi;injection e1 with e1 _ _;refine ⟨g,e1,fun wr hw=>(World.cell?_of_block (hw.block g hgl fun e=>?_)).trans hc⟩;subst e;exact aq hO (uh HQ2).1.row (uh HQ2).1.tt.2.2 (by rw [e1];rfl)
   go_wp2_with fail
   go_loopw [6,30] (fun x y wr=>∃ i:Nat,i≤n∧x=.bool ((A.take i).any dH)∧y=.int .i64 i∧∃ u1 u2 us ut,Lay 182 w0 q2 B c ((A.take i).foldl (fun s a=>bv c a s) s) u1 u2 us ut wr) (fun _ y _=>n - (intOf y).toNat)
   case atStart=>exact ⟨0,Nat.zero_le _,rfl,rfl,_,_,_,_,(uh HQ2).1⟩
   case round =>
    obtain ⟨i,hi,rfl,rfl,u1,u2,us,ut,hLi⟩:=hrel;by_cases hlt:i<n
    ·have d1:(i:Int)<(n:Int):=by omega
     obtain ⟨g,rfl,hg⟩:=uh KT i (by omega);have t1:=hg wr hLi.nr;have HF:=aa ((uh HP).1.fold A i);have hmem:=(uh HP).2.1 _ (List.getElem_mem (by omega:i<A.length));have HS:Hid (((A.take (i+1)).any dH=((A.take i).any dH || dH A[i]))∧(A.take (i+1)).foldl (fun s a=>bv c a s) s=bv c A[i] ((A.take i).foldl (fun s a=>bv c a s) s)):=aa ⟨jq A i _,sC c s A i _⟩;have HI:=aa hLi;clear hLi hg KT KY;generalize A[i]=a at *;generalize ((A.take i).foldl (fun s a=>bv c a s) s)=si at *;generalize (A.take i).any dH=b at *;have hm9:=sD hmem;clear hmem;rcases hm9 with hT | rfl | rfl | rfl | rfl | rfl | rfl | rfl | ⟨rfl,hac⟩ | ⟨rfl,hac⟩
     ·obtain ⟨aT,sT,iT⟩:=tel (c:=c) hT;obtain ⟨sj,hj1,hj2,iTj⟩:=iT (uh HI) (uh HF);have HJ:=aa hj2;clear hT iT hj2;have as1:=cZ;have as2:=gm;go_wp2_with (first | (go_at_call 156;refine (aT _).mono ?_;rintro r ws ⟨rfl,hws⟩;replace hws:=hws.symm;subst hws))
      refine iTj.mono ?_;rintro r wr2 ⟨rfl,hd⟩;obtain ⟨ad4,cp4,e4⟩:=af hd.ot;obtain ⟨m,hm⟩:∃ m,sj.tl.length=m:=⟨_,rfl⟩;have e5:ut=(.slice ad4 m cp4):=by rw [← hm];exact e4
      subst e5;have hlen:m≤1000:=by have:=(uh HF).tl;rw [← hj1] at this;omega
      have hb3:Below wr2.heap.size wr2 (wr2.alloc (.cells #[.string a] 218)):=(zC _ _).alloc (zD _) _;have HD:=aa (zA (hd.step hb3) (zF wr2 (.cells #[.string a] 218)));clear hd hb3 e4;go_upto_region 16 with fail
      refine aI (fun z=>Lay 182 w0 q2 B c sj u1 u2 us (.slice ad4 m cp4) z∧z.heap[wr2.heap.size]?=some (.cells #[.string a] 218)) ?_ ?_
      ·exact uh HD
      clear HD;rintro z ⟨hz,rz⟩;have kz:z.cell? ⟨wr2.heap.size,0,none⟩=some (.string a):=by rw [cr rz];rfl
      have c38:=hz.cell (i:=38) rfl;have HZ:=aa (zA (hz.step (zC _ _).drew) rz);have hTl:wr2.heap.size<z.heap.size:=World.block_lt_of_cell? _ _ kz;have hBl:=hz.lt;clear hz rz;refine wp_region_held_drew (S:=fun z=>z.cell? ⟨wr2.heap.size,0,none⟩=some (.string a)) (by kernel_rfl) ?_ (fun hHeld=>?_)
      ·exact kz
      refine tq 0 1 2 3 ?_;refine tt 5 6 ?_;refine r4 4 7 (fun K hK=>?_) (fun K hK=>?_)
      ·have c38x:=c38;go_simp;refine ro hK ?_ fun _=>?_
       ·exact kz
       clear hK K;clear c38x;refine r3 7 fun K hK=>?_
       rw [if_pos (by rfl)];refine bJ (v:=.slice (some ⟨z.heap.size,0,none⟩) 1 1) (w':=z.drew.alloc (.cells #[.string a] 9)) (by as_aux_lemma=>kernel_rfl) ?_;have hb4:Below z.heap.size z (z.drew.alloc (.cells #[.string a] 9)):=(zC _ _).drew.alloc (zD _) _;have kz4:=(hb4.cell (p:=⟨wr2.heap.size,0,none⟩) hTl).trans kz;have c38b:=(hb4.cell (p:=⟨B,38,none⟩) hBl).trans c38;refine ro hK ?_ fun _=>?_
       ·exact kz4
       clear hK K;refine r3 8 fun K hK=>?_
       rw [if_pos (by rfl)];refine cJ (w:=z.drew) _ _ rfl q2.heap.size (.slice ad4 m cp4) sj.tl m rfl (hm ▸ (uh HZ).1.ot) a rfl (by omega) (uh HZ).1.nr.size ?_;rintro v6 w6 ho6 hg6;obtain ⟨a6,c6,rfl⟩:=af ho6;have e6:=(hg6.block B (Nat.lt_of_lt_of_le (uh HZ).1.lt (by simp)) (fun e=>(aq (uh HZ).1.ot (uh HZ).1.row (uh HZ).1.tt.2.2) e.symm)).trans ((zG _ _ _ (uh HZ).1.lt).trans (uh HZ).1.row);have k6:w6.cell? ⟨B,38,none⟩=some (.slice ad4 m cp4):=by rw [cr e6];rfl
       have f6:w6.frozen? ⟨B,38,none⟩=false:=aX e6 38;have t6:w6.cell? ⟨wr2.heap.size,0,none⟩=some (.string a):=hg6.cell kz4 (fun e=>aq (uh HZ).1.ot (uh HZ).2 (by decide) e.symm);have hL6:=(uh HZ).1.say _ hg6 (.slice a6 (m+1) c6) (sj.tl ++ [a]) (by rw [List.length_append,hm];exact ho6);have hne:¬ (wr2.heap.size=B):=fun e=>by have h1:=(uh HZ).2;rw [e] at h1;have h2:=(uh HZ).1.row;have h3:=h2.symm.trans (show z.drew.heap[B]?=_ from h1);injection h3 with h3;injection h3 with _ h3 _;exact absurd h3 (by decide)
       have t7:(w6.setCell ⟨B,38,none⟩ (.slice a6 (m+1) c6)).cell? ⟨wr2.heap.size,0,none⟩=some (.string a):=(World.cell?_of_block (heap_setCell_other w6 _ _ _ hne)).trans t6;have HL6:=aa hL6;clear e6 hL6;refine ro hK ?_ fun _=>?_
       ·exact t6
       clear hK K;refine tt 9 10 ?_;refine r3 11 fun K hK=>?_
       go_simp;refine hK.out _ _ ?_ (fun _=>?_)
       ·exact t7
       clear hK K;try simp only [Act.put,List.getElem_toArray,List.getElem_cons_zero,List.getElem_cons_succ]
       refine dn ?_ _;go_wp2_with fail
       go_roundw
       case rel=>refine ⟨i+1,by omega,?_,by go_num,u1,u2,us,(.slice a6 (m+1) c6),by rw [(uh HS).2,uh HJ];exact uh HL6⟩;rw [(uh HS).1,sT];cases b<;>rfl
       case measure=>simp [intOf];omega
      ·rw [if_pos (by rfl)];refine bJ (v:=.slice (some ⟨z.heap.size,0,none⟩) 1 1) (w':=z.drew.alloc (.cells #[.string a] 9)) (by as_aux_lemma=>kernel_rfl) ?_;have hb4:Below z.heap.size z (z.drew.alloc (.cells #[.string a] 9)):=(zC _ _).drew.alloc (zD _) _;have kz4:=(hb4.cell (p:=⟨wr2.heap.size,0,none⟩) hTl).trans kz;have c38b:=(hb4.cell (p:=⟨B,38,none⟩) hBl).trans c38;refine ro hK ?_ fun _=>?_
       ·exact kz4
       clear hK K;refine r3 4 fun K hK=>?_
       have c38x:=c38b;go_simp;refine ro hK ?_ fun _=>?_
       ·exact kz4
       clear hK K;clear c38x;refine r3 8 fun K hK=>?_
       rw [if_pos (by rfl)];refine cJ (w:=z.drew) _ _ rfl q2.heap.size (.slice ad4 m cp4) sj.tl m rfl (hm ▸ (uh HZ).1.ot) a rfl (by omega) (uh HZ).1.nr.size ?_;rintro v6 w6 ho6 hg6;obtain ⟨a6,c6,rfl⟩:=af ho6;have e6:=(hg6.block B (Nat.lt_of_lt_of_le (uh HZ).1.lt (by simp)) (fun e=>(aq (uh HZ).1.ot (uh HZ).1.row (uh HZ).1.tt.2.2) e.symm)).trans ((zG _ _ _ (uh HZ).1.lt).trans (uh HZ).1.row);have k6:w6.cell? ⟨B,38,none⟩=some (.slice ad4 m cp4):=by rw [cr e6];rfl
       have f6:w6.frozen? ⟨B,38,none⟩=false:=aX e6 38;have t6:w6.cell? ⟨wr2.heap.size,0,none⟩=some (.string a):=hg6.cell kz4 (fun e=>aq (uh HZ).1.ot (uh HZ).2 (by decide) e.symm);have hL6:=(uh HZ).1.say _ hg6 (.slice a6 (m+1) c6) (sj.tl ++ [a]) (by rw [List.length_append,hm];exact ho6);have hne:¬ (wr2.heap.size=B):=fun e=>by have h1:=(uh HZ).2;rw [e] at h1;have h2:=(uh HZ).1.row;have h3:=h2.symm.trans (show z.drew.heap[B]?=_ from h1);injection h3 with h3;injection h3 with _ h3 _;exact absurd h3 (by decide)
       have t7:(w6.setCell ⟨B,38,none⟩ (.slice a6 (m+1) c6)).cell? ⟨wr2.heap.size,0,none⟩=some (.string a):=(World.cell?_of_block (heap_setCell_other w6 _ _ _ hne)).trans t6;have HL6:=aa hL6;clear e6 hL6;refine ro hK ?_ fun _=>?_
       ·exact t6
       clear hK K;refine tt 9 10 ?_;refine r3 11 fun K hK=>?_
       go_simp;refine hK.out _ _ ?_ (fun _=>?_)
       ·exact t7
       clear hK K;try simp only [Act.put,List.getElem_toArray,List.getElem_cons_zero,List.getElem_cons_succ]
       refine dn ?_ _;go_wp2_with fail
       go_roundw
       case rel=>refine ⟨i+1,by omega,?_,by go_num,u1,u2,us,(.slice a6 (m+1) c6),by rw [(uh HS).2,uh HJ];exact uh HL6⟩;rw [(uh HS).1,sT];cases b<;>rfl
       case measure=>simp [intOf];omega
     ·have as1:=qe;go_wp2_with (first | (go_at_call 156;refine (wI _).mono ?_;rintro r ws ⟨rfl,hws⟩;replace hws:=hws.symm;subst hws))
      refine (uS (uh HI) 5).mono ?_;rintro r wr2 ⟨rfl,hd⟩;have hb3:Below wr2.heap.size wr2 (wr2.alloc (.cells #[.int .i64 5] 216)):=(zC _ _).alloc (zD _) _;have HD:=aa (hd.step hb3);clear hd hb3;go_wp2_with fail
      go_roundw
      case rel=>refine ⟨i+1,by omega,?_,by go_num,u1,u2,us,ut,by rw [(uh HS).2];exact uh HD⟩;rw [(uh HS).1,eR];cases b<;>rfl
      case measure=>simp [intOf];omega
     ·have as1:=iI;have as2:=d9;go_wp2_with (first | (go_at_call 156;refine (wJ _).mono ?_;rintro r ws ⟨rfl,hws⟩;replace hws:=hws.symm;subst hws))
      refine (wH (uh HI) (uh HF) (by omega)).mono ?_;rintro r wr2 ⟨rfl,x1,xs,hd⟩;have HD:=aa hd;clear hd;go_wp2_with fail
      go_roundw
      case rel=>refine ⟨i+1,by omega,?_,by go_num,x1,u2,xs,ut,by rw [(uh HS).2];exact uh HD⟩;rw [(uh HS).1,eR];cases b<;>rfl
      case measure=>simp [intOf];omega
     ·have as1:=fX;have as2:=fA;go_wp2_with (first | (go_at_call 156;refine (wK _).mono ?_;rintro r ws ⟨rfl,hws⟩;replace hws:=hws.symm;subst hws))
      refine (wG (uh HI) (uh HF) (by omega)).mono ?_;rintro r wr2 ⟨rfl,xs,hd⟩;have HD:=aa hd;clear hd;go_wp2_with fail
      go_roundw
      case rel=>refine ⟨i+1,by omega,?_,by go_num,u1,u2,xs,ut,by rw [(uh HS).2];exact uh HD⟩;rw [(uh HS).1,eR];cases b<;>rfl
      case measure=>simp [intOf];omega
     ·have as1:=qe;go_wp2_with (first | (go_at_call 156;refine (yw _).mono ?_;rintro r ws ⟨rfl,hws⟩;replace hws:=hws.symm;subst hws))
      refine (uS (uh HI) 0).mono ?_;rintro r wr2 ⟨rfl,hd⟩;have hb3:Below wr2.heap.size wr2 (wr2.alloc (.cells #[.int .i64 0] 216)):=(zC _ _).alloc (zD _) _;have HD:=aa (hd.step hb3);clear hd hb3;go_wp2_with fail
      go_roundw
      case rel=>refine ⟨i+1,by omega,?_,by go_num,u1,u2,us,ut,by rw [(uh HS).2];exact uh HD⟩;rw [(uh HS).1,eR];cases b<;>rfl
      case measure=>simp [intOf];omega
     ·have as1:=h_;have as2:=gG;go_wp2_with (first | (go_at_call 156;refine (yA _).mono ?_;rintro r ws ⟨rfl,hws⟩;replace hws:=hws.symm;subst hws))
      refine (yE (uh HI) (uh HF) (by omega)).mono ?_;rintro r wr2 ⟨rfl,xs,hd⟩;have HD:=aa hd;clear hd;go_wp2_with fail
      go_roundw
      case rel=>refine ⟨i+1,by omega,?_,by go_num,u1,u2,xs,ut,by rw [(uh HS).2];exact uh HD⟩;rw [(uh HS).1,eR];cases b<;>rfl
      case measure=>simp [intOf];omega
     ·have as1:=fS;have as2:=fB;go_wp2_with (first | (go_at_call 156;refine (yB _).mono ?_;rintro r ws ⟨rfl,hws⟩;replace hws:=hws.symm;subst hws))
      refine (yF (uh HI) (uh HF) (by omega)).mono ?_;rintro r wr2 ⟨rfl,xs,hd⟩;have HD:=aa hd;clear hd;go_wp2_with fail
      go_roundw
      case rel=>refine ⟨i+1,by omega,?_,by go_num,u1,u2,xs,ut,by rw [(uh HS).2];exact uh HD⟩;rw [(uh HS).1,eR];cases b<;>rfl
      case measure=>simp [intOf];omega
     ·have as1:=jr;have as2:=iu;go_wp2_with (first | (go_at_call 156;refine (yC _).mono ?_;rintro r ws ⟨rfl,hws⟩;replace hws:=hws.symm;subst hws))
      refine (yG (uh HI) (uh HF) (by omega)).mono ?_;rintro r wr2 ⟨rfl,xs,hd⟩;have HD:=aa hd;clear hd;go_wp2_with fail
      go_roundw
      case rel=>refine ⟨i+1,by omega,?_,by go_num,u1,u2,xs,ut,by rw [(uh HS).2];exact uh HD⟩;rw [(uh HS).1,eR];cases b<;>rfl
      case measure=>simp [intOf];omega
     ·have HAC:=aa hac;clear hac;have as1:=eQ;have as2:=eu;go_wp2_with (first | (go_at_call 156;refine (yx _).mono ?_;rintro r ws ⟨rfl,hws⟩;replace hws:=hws.symm;subst hws))
      refine (yH (uh HI) (uh HF) (by omega) (uh HAC)).mono ?_;rintro r wr2 ⟨rfl,x2,xs,hd⟩;have HD:=aa hd;clear hd;go_wp2_with fail
      go_roundw
      case rel=>refine ⟨i+1,by omega,?_,by go_num,u1,x2,xs,ut,by rw [(uh HS).2];exact uh HD⟩;rw [(uh HS).1,eR];cases b<;>rfl
      case measure=>simp [intOf];omega
     ·have HAC:=aa hac;clear hac;have as1:=eQ;have as2:=eu;go_wp2_with (first | (go_at_call 156;refine (yz _).mono ?_;rintro r ws ⟨rfl,hws⟩;replace hws:=hws.symm;subst hws))
      refine (yI (uh HI) (uh HF) (by omega) (uh HAC)).mono ?_;rintro r wr2 ⟨rfl,x2,xs,hd⟩;have HD:=aa hd;clear hd;go_wp2_with fail
      go_roundw
      case rel=>refine ⟨i+1,by omega,?_,by go_num,u1,x2,xs,ut,by rw [(uh HS).2];exact uh HD⟩;rw [(uh HS).1,eR];cases b<;>rfl
      case measure=>simp [intOf];omega
    ·have e:i=n:=by omega
     subst e;have d1:¬ ((i:Int)<(i:Int)):=by omega
     have eT:A.take i=A:=by rw [← hn,List.take_length]
     rw [eT] at hLi;rw [eT];have c12:=hLi.cell (i:=12) rfl;have f12:=hLi.frz 12;obtain ⟨y0,_⟩:=uh KY wr hLi.nr;have hfit:Fit i c (A.foldl (fun s a=>bv c a s) s):=by have:=(uh HP).1.fold A i;rw [eT] at this;exact this
     have h3:=hLi.setRaw 12 (.int .i64 st') { (A.foldl (fun s a=>bv c a s) s).e with st:=st' } rfl;have CD:=aa (wR h3 (A.any dH) hfit.now);have HX3:Hid (∀ z,Nr B q2 z→z.heap[X]?=some (.cells bk 121)):=aa fun z hz=>(hz.block X (ge.1 (uh HQ2).2.1).1 (by omega)).trans (uh HQ2).2.1
     have hdue:=lK c A st' (A.foldl (fun s a=>bv c a s) s).e hfit.du;dsimp only at CD;rw [hdue] at CD;obtain ⟨S,hS⟩:∃ S:St,{ (A.foldl (fun s a=>bv c a s) s) with e:=fm c A st' (A.foldl (fun s a=>bv c a s) s).e }=S:=⟨_,rfl⟩;have HS:Hid (S={ (A.foldl (fun s a=>bv c a s) s) with e:=fm c A st' (A.foldl (fun s a=>bv c a s) s).e }):=aa hS.symm;rw [hS] at CD;clear hLi h3 KT hS HP hfit hdue;go_wp2_with fail
     refine (uh CD).mono ?_;rintro r wr3 ⟨rfl,h4⟩;have H4:=aa (zA h4 (uh HX3 _ h4.nr));clear h4;go_upto_region 20 with fail
     refine aI (fun z=>Lay 182 w0 q2 B c S u1 u2 us ut z∧z.heap[X]?=some (.cells bk 121)) ?_ ?_
     ·exact uh H4
     clear H4 CD c12 f12 y0 HX3;rintro z ⟨hz,hX⟩;obtain ⟨a1,p1,e1⟩:=af hz.o1;obtain ⟨a2,p2,e2⟩:=af hz.o2;obtain ⟨a3,p3,e3⟩:=af hz.os;obtain ⟨a4,p4,e4⟩:=af hz.ot;subst e1 e2 e3 e4;have c37:=hz.cell (i:=37) rfl;have c38:=hz.cell (i:=38) rfl;have hrg:=dU hz;have hall:=aG S.e a1 a2 a3 a4 S.F1.length S.F2.length S.sn.length S.tl.length p1 p2 p3 p4 0;have HZ:=aa (zA hz hX);clear hz hX;refine wp_region_held_drew (S:=fun z=>z.rangeAt B 0 (aA S.e (.slice a1 S.F1.length p1) (.slice a2 S.F2.length p2)).toList∧z.cell? ⟨B,37,none⟩=some (.slice a3 S.sn.length p3)∧z.cell? ⟨B,38,none⟩=some (.slice a4 S.tl.length p4)) (by kernel_rfl) ?_ (fun hHeld=>?_)
     ·exact ⟨hrg,c37,c38⟩
     refine tt 0 1 ?_;refine t2 2 ?_;refine t4 3 (.agg (aA S.e (.slice a1 S.F1.length p1) (.slice a2 S.F2.length p2))) rfl (yieldsIf_load_mid (by rfl) 72 (.tmp 69) rfl B 0 rfl (aA S.e (.slice a1 S.F1.length p1) (.slice a2 S.F2.length p2)).toList _ (fun z hz=>hz.1) underlying72 rfl aL) ?_;try simp only [Act.put,sA,sZ,sS,gA,gZ,gS]
     refine tq 4 5 6 7 ?_;refine tq 8 9 10 11 ?_;refine t4 12 (.agg (aC S.e (.slice a1 S.F1.length p1) (.slice a2 S.F2.length p2) (.slice a3 S.sn.length p3) (.slice a4 S.tl.length p4) 0)) rfl (Or.inl ⟨by rfl,fun _ _=>by kernel_rfl⟩) ?_;try simp only [Act.put,sA,sZ,sS,gA,gZ,gS]
     refine r3 13 fun K hK=>?_
     rw [if_pos (by rfl)];refine wp_store_row 121 (.tmp 4) (.tmp 79) rfl X (aC S.e (.slice a1 S.F1.length p1) (.slice a2 S.F2.length p2) (.slice a3 S.sn.length p3) (.slice a4 S.tl.length p4) 0) rfl rfl 121 bk (uh HZ).2 aw rfl hall ?_;have bX:Below X z (z.setRow X (aC S.e (.slice a1 S.F1.length p1) (.slice a2 S.F2.length p2) (.slice a3 S.sn.length p3) (.slice a4 S.tl.length p4) 0)):=am (zC _ _) (zD _) _;refine hK.out _ _ ?_ (fun _=>?_)
     ·refine ⟨fun j v hv=>(bX.cell (p:=⟨B,0+j,none⟩) hBX).trans (hrg j v hv),(bX.cell (p:=⟨B,37,none⟩) hBX).trans c37,(bX.cell (p:=⟨B,38,none⟩) hBX).trans c38⟩
     clear hK K;try simp only [Act.put]
     refine dn ?_ _;go_wp2
     refine bodyPost_ret (v:=.agg (aC S.e (.slice a1 S.F1.length p1) (.slice a2 S.F2.length p2) (.slice a3 S.sn.length p3) (.slice a4 S.tl.length p4) 0)) (by simp [results,results134,asAddr,ay (setRow_heap z.drew X _ (aC S.e (.slice a1 S.F1.length p1) (.slice a2 S.F2.length p2) (.slice a3 S.sn.length p3) (.slice a4 S.tl.length p4) 0) _ _ (uh HZ).2)]) rfl ?_;obtain ⟨hz0,hX⟩:=uh HZ;have hz:=hz0.step (zC _ _).drew;have hXd:z.drew.heap[X]?=some (.cells bk 121):=hX;have hs:=hz.lo.size;have hSS:=uh HS;clear HZ HS hHeld hrg c37 c38 hall hz0 bX;subst hSS;refine ⟨_,_,_,_,?_,az hz.o1 hXd (by decide),az hz.o2 hXd (by decide),aE (az hz.os hXd (by decide)) hs,aE (az hz.ot hXd (by decide)) hs,hz.ap,hz.low.trans (am (zC _ _) (Nat.le_of_lt (Nat.lt_of_le_of_lt hz.hB hBX)) _)⟩;rfl
  ·have hcn:(cd != 0)=true:=by simpa using hcd
   have hall:(aC ag (.slice none 0 0) (.slice none 0 0) (.slice none 0 0) (.slice none 0 0) cd).all (·.oneCell')=true:=aG _ _ _ _ _ _ _ _ _ _ _ _ _ _
   go_wp2_with (first
    | (refine wpList_buildTo rfl 121 _ rfl (some 26) rfl (aC ag (.slice none 0 0) (.slice none 0 0) (.slice none 0 0) (.slice none 0 0) cd) (by as_aux_lemma=>kernel_rfl) ?_)
    | (refine wpList_store_rowTo rfl 121 (.tmp 4) (.tmp 26) rfl rfl X (aC ag (.slice none 0 0) (.slice none 0 0) (.slice none 0 0) (.slice none 0 0) cd) rfl rfl 121 bk (uh HQ2).2.1 aw rfl hall ?_))
   refine bodyPost_ret (v:=.agg (aC ag (.slice none 0 0) (.slice none 0 0) (.slice none 0 0) (.slice none 0 0) cd)) (by simp [results,results134,asAddr,ay (setRow_heap q2 X _ (aC ag (.slice none 0 0) (.slice none 0 0) (.slice none 0 0) (.slice none 0 0) cd) _ _ (uh HQ2).2.1)]) rfl ?_;exact bE ((uh HQ2).1.low.trans (am (zC _ _) (by have:=(uh HQ2).1.hB;omega) _)) cd
theorem fL (w0 w1:World) (B:Nat) (c:Cx) (s:St) (v1 v2:Value) (q:World) (h:Lay 182 w0 w1 B c s v1 v2 (.slice none 0 0) (.slice none 0 0) q) (hs:s.sn=[]) (ht:s.tl=[]) (hf:Fit 0 c s) (k:Nat) (t:ByteArray) (hk:bq[k]?=some t)
  (hE:EvT w0) (hN:NxT w0) (hS:SpT w0) (hA:∀ a ∈ (bO s.e.st t).2.1,a ∈ [mO,mP,mQ,bP,bQ,bL]) (hl:(bO s.e.st t).2.1.length≤30) :
  Calls prog 134 #[.pointer (some ⟨B,0,none⟩),.int .i64 k] q fun r q'=>EvA w0 (bj c s t) r q' :=
 mR w0 w1 B c s v1 v2 q h hs ht hf k t hk hE hN hS (fun a ha=>by
  have h:=hA a ha;simp only [List.mem_cons,List.not_mem_nil,or_false] at h;rcases h with h | h | h | h | h | h
  ·exact .inl h
  ·exact .inr (.inl h)
  ·exact .inr (.inr (.inl h))
  ·exact .inr (.inr (.inr (.inl h)))
  ·exact .inr (.inr (.inr (.inr (.inl h))))
  ·exact .inr (.inr (.inr (.inr (.inr (.inl h)))))) hl
end Go.Proofs.YtjebigodbnefiaaGreatDoor
