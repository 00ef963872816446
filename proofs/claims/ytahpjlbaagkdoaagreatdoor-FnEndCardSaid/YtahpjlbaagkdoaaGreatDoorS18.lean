/- WkE WkG -/
import Derived.Test.YtahpjlbaagkdoaaGreatDoorS11
import Derived.Test.YtahpjlbaagkdoaaGreatDoorS17
set_option maxHeartbeats 8000000
set_option maxRecDepth 100000
namespace Go.Proofs.YtahpjlbaagkdoaaGreatDoor
open Go.RowKit Go.Proofs.Tryz
theorem nr_setRow {B X:Nat} {a w:World} (h:Nr B a w) (hX:a.heap.size≤X) (cs:Array Value):Nr B a (w.setRow X cs):=by
 refine ⟨h.os,h.tape,h.output,?_,fun k hk hn=>?_⟩
 ·unfold World.setRow;simpa using h.size
 ·refine Eq.trans ?_ (h.block k hk hn);unfold World.setRow;rw [Array.getElem?_modify,if_neg (by omega)]
theorem sEventN (w0 w1:World) (B:Nat) (c:Cx) (s:St) (v1 v2:Value) (q:World) (h:Lay 89 w0 w1 B c s v1 v2 (.slice none 0 0) (.slice none 0 0) q) (hs:s.sn=[]) (ht:s.tl=[]) (hf:Fit 0 c s) (t:ByteArray) (hts:t.size≤maxLen)
  (hA:∀ a ∈ (fsmF s.e.st t).2.1,ActOk 89 90 c a) (hl:(fsmF s.e.st t).2.1.length≤30) :
  Calls prog 43 #[.pointer (some ⟨B,0,none⟩),.string t] q fun r q'=>EvA w0 (evF c s t) r q'∧Nr B q q':=by
 have CF:=hide fun W=>specFsm s.e.st t W hts
 unfold evF;generalize fsmF s.e.st t=R at *;obtain ⟨st',A,cd⟩:=R;dsimp only at hA hl ⊢;obtain ⟨X,hXq⟩:∃ X,q.heap.size=X:=⟨_,rfl⟩;have hX:=heap_alloc_new q (.cells eoZ 42);have hbX:Below q.heap.size q (q.alloc (.cells eoZ 42)):=(Below.refl _ _).alloc (Nat.le_refl _) _;have h0:=h.step hbX;have c12:=h0.cell (i:=12) rfl;have hBX:B<X:=hXq ▸ h.lt;rw [hXq] at hX;have H0:=hide (And.intro h0 hX);have HP:=hide (And.intro hf (And.intro hA (And.intro hs ht)));clear h h0 hX hbX hf hA hs ht;go_enter func43,ntmps43
 go_wp2_with fail
 refine (uh CF _).mono ?_;rintro e q1 ⟨ad,cp,rfl,ho,hb1⟩;dsimp only at ho;have h1:=(uh H0).1.step hb1;have hX1:=(hb1.block X (by simp [hXq])).trans (uh H0).2;obtain ⟨Y,hY⟩:∃ Y,q1.heap.size=Y:=⟨_,rfl⟩;have hXY:X<Y:=by have:=(ge.1 hX1).1;omega
 go_upto_region 2 with fail
 refine gen_world (fun z=>Lay 89 w0 z B c s v1 v2 (.slice none 0 0) (.slice none 0 0) z∧z.heap[X]?=some (.cells eoZ 42)∧z.heap[Y]?=some (.cells #[.int .i64 st',.slice ad A.length cp,.int .i64 cd] 126)∧z.ownsRow 0 9 1 (.slice ad A.length cp) A.length (scells A)∧Nr B q z) ?_ ?_
 ·have hb2:Below q1.heap.size q1 (q1.alloc (.cells #[.int .i64 st',.slice ad A.length cp,.int .i64 cd] 126)):=(Below.refl _ _).alloc (Nat.le_refl _) _;exact ⟨(h1.step hb2).rebase (uh HP).2.2.1 (uh HP).2.2.2,(hb2.block X (ge.1 hX1).1).trans hX1,hY ▸ heap_alloc_new q1 _,own_mono (own_below ho hb2) (Nat.zero_le _),(((Nr.refl B q).of_below ((Below.refl q.heap.size q).alloc (Nat.le_refl _) _)).of_below hb1).of_below hb2⟩
 have HXq:=hide hXq;clear h1 hX1 ho hb1 H0 CF c12 hY hXq;rintro q2 ⟨hL2,hX2,hY2,hO2,hN2⟩;have HN2:=hide hN2;clear hN2;have k0:q2.cell? ⟨Y,0,none⟩=some (.int .i64 st'):=by rw [cr hY2];rfl
 have k1:q2.cell? ⟨Y,1,none⟩=some (.slice ad A.length cp):=by rw [cr hY2];rfl
 have k2:q2.cell? ⟨Y,2,none⟩=some (.int .i64 cd):=by rw [cr hY2];rfl
 have hBY:B≠Y:=by omega
 have HQ2:=hide (And.intro hL2 (And.intro hX2 (And.intro hY2 hO2)));clear hL2 hX2 hY2 hO2;by_cases hcd:cd=0
 ·subst hcd;obtain ⟨n,hn⟩:∃ n,A.length=n:=⟨_,rfl⟩;rw [hn] at k1 hl HQ2;have hd0:¬ ((0:Int)<0):=by decide
  have KY:Hid (∀ wr,Nr B q2 wr→wr.cell? ⟨Y,0,none⟩=some (.int .i64 st')∧wr.cell? ⟨Y,1,none⟩=some (.slice ad n cp)):=by
   have hyl:=(ge.1 (uh HQ2).2.2.1).1;refine hide fun wr hw=>?_
   have e:=hw.block Y hyl hBY.symm;exact ⟨(World.cell?_of_block e).trans k0,(World.cell?_of_block e).trans k1⟩
  have KT:Hid (∀ (i:Nat) (hi:i<A.length),∃ g,ad=some ⟨g,0,none⟩∧∀ wr,Nr B q2 wr→wr.cell? ⟨g,i,none⟩=some (.string A[i])):=by
   refine hide fun i hi=>?_
   have hO:=(uh HQ2).2.2.2;rw [← hn] at hO;obtain ⟨g,cp',e1,hgl,hc⟩:=ownT_at hO i hi;injection e1 with e1 _ _;refine ⟨g,e1,fun wr hw=>(World.cell?_of_block (hw.block g hgl fun e=>?_)).trans hc⟩;subst e;exact own_ty hO (uh HQ2).1.row (uh HQ2).1.tt.2.2 (by rw [e1];rfl)
  go_wp2_with fail
  go_loopw [6,7] (fun x y wr=>∃ i:Nat,i≤n∧x=.bool ((A.take i).any setT)∧y=.int .i64 i∧∃ u1 u2 us ut,Lay 89 w0 q2 B c ((A.take i).foldl (fun s a=>actF c a s) s) u1 u2 us ut wr) (fun _ y _=>n - (intOf y).toNat)
  case atStart=>exact ⟨0,Nat.zero_le _,rfl,rfl,_,_,_,_,(uh HQ2).1⟩
  case round =>
   obtain ⟨i,hi,rfl,rfl,u1,u2,us,ut,hLi⟩:=hrel;obtain ⟨y0,y1⟩:=uh KY wr hLi.nr;by_cases hlt:i<n
   ·have d1:(i:Int)<(n:Int):=by omega
    obtain ⟨g,rfl,hg⟩:=uh KT i (by omega);have t1:=hg wr hLi.nr;have HI:=hide hLi;have HG:=hide hg;have CA:=hide ((uh HP).2.1 _ (List.getElem_mem (by omega:i<A.length)) w0 q2 B ((A.take i).foldl (fun s a=>actF c a s) s) u1 u2 us ut wr i hLi ((uh HP).1.fold A i) (by omega));have HS:Hid (((A.take (i+1)).any setT=((A.take i).any setT || setT A[i]))∧(A.take (i+1)).foldl (fun s a=>actF c a s) s=actF c A[i] ((A.take i).foldl (fun s a=>actF c a s) s)):=by
     exact hide ⟨take_any A i _,take_fold c s A i _⟩
    clear hLi hg;generalize A[i]=a at *;generalize ((A.take i).foldl (fun s a=>actF c a s) s)=si at *;generalize (A.take i).any setT=b at *;go_wp2_with fail
    refine (uh CA).mono ?_;rintro r wr2 ⟨rfl,x1,x2,xs,xt,hL2⟩;obtain ⟨z0,z1⟩:=uh KY wr2 hL2.nr;have t2:=uh HG wr2 hL2.nr;have HI2:=hide hL2;clear hL2 y0 y1 t1;have hst:setT a=(decide (a.toList=[105,114,99]) || decide (a.toList=[122,114,99])):=rfl;cases b<;>by_cases ha:a.toList=[105,114,99]<;>by_cases hz:a.toList=[122,114,99]
    all_goals
     go_wp2_with fail
     go_roundw
     case rel=>refine ⟨i+1,by omega,?_,by go_num,x1,x2,xs,xt,by rw [(uh HS).2];exact uh HI2⟩;rw [(uh HS).1,hst];simp [ha,hz]
     case measure=>simp [intOf];omega
   ·have e:i=n:=by omega
    subst e;have d1:¬ ((i:Int)<(i:Int)):=by omega
    have c12:=hLi.cell (i:=12) rfl;have f12:=hLi.frz 12;have eT:A.take i=A:=by rw [← hn,List.take_length]
    rw [eT] at hLi c12;rw [eT];have h3:=hLi.setRaw 12 (.int .i64 st') { (A.foldl (fun s a=>actF c a s) s).e with st:=st' } rfl;obtain ⟨m0,_⟩:=uh KY _ h3.nr;have c14:=h3.cell (i:=14) rfl;have f14:=h3.frz 14;have c30:=h3.cell (i:=30) rfl;have H3:=hide h3;have CR:=hide fun W=>specRuns st' W
    have HX3:Hid (∀ z,Nr B q2 z→z.heap[X]?=some (.cells eoZ 42)):=hide fun z hz=>(hz.block X (ge.1 (uh HQ2).2.1).1 (by omega)).trans (uh HQ2).2.1
    have hnow:=(uh HP).1.now;obtain ⟨S,hS⟩:∃ S:St,{ (A.foldl (fun s a=>actF c a s) s) with e:=endE c A st' (A.foldl (fun s a=>actF c a s) s).e }=S:=⟨_,rfl⟩;have HS:Hid (S={ (A.foldl (fun s a=>actF c a s) s) with e:=endE c A st' (A.foldl (fun s a=>actF c a s) s).e }∧S.e=endE c A st' (A.foldl (fun s a=>actF c a s) s).e):=hide ⟨hS.symm,by rw [← hS]⟩;clear hLi h3 KT hS HP;dsimp only at c14 c30;cases hrr:runs st'
    ·rw [hrr] at CR;have HE:endE c A st' (A.foldl (fun s a=>actF c a s) s).e={ (A.foldl (fun s a=>actF c a s) s).e with st:=st',du:=-1 }:=by unfold endE;rw [hrr];rfl
     go_upto_region 15 with (first | (go_at_call 75;refine (uh CR _).mono ?_;rintro r ws ⟨rfl,hws⟩;replace hws:=hws.symm;subst hws))
     refine gen_world (fun z=>Lay 89 w0 q2 B c S u1 u2 us ut z∧z.heap[X]?=some (.cells eoZ 42)) ?_ ?_
     ·have h4:=(uh H3).setRaw 14 (.int .i64 (-1)) { (A.foldl (fun s a=>actF c a s) s).e with st:=st',du:=-1 } rfl;rw [← HE,← (uh HS).1] at h4;exact ⟨h4,uh HX3 _ h4.nr⟩
     clear H3 c12 f12 c14 f14 c30 m0;rintro z ⟨hz,hX⟩;obtain ⟨a1,p1,e1⟩:=own_form hz.o1;obtain ⟨a2,p2,e2⟩:=own_form hz.o2;obtain ⟨a3,p3,e3⟩:=own_form hz.os;obtain ⟨a4,p4,e4⟩:=own_form hz.ot;subst e1 e2 e3 e4;have c37:=hz.cell (i:=37) rfl;have c38:=hz.cell (i:=38) rfl;have hrg:=range_lay hz;have hall:=eoC_all S.e a1 a2 a3 a4 S.F1.length S.F2.length S.sn.length S.tl.length p1 p2 p3 p4 0;have HZ:=hide (And.intro hz hX);clear hz hX;refine wp_region_held_drew (S:=fun z=>z.rangeAt B 0 (enC S.e (.slice a1 S.F1.length p1) (.slice a2 S.F2.length p2)).toList∧z.cell? ⟨B,37,none⟩=some (.slice a3 S.sn.length p3)∧z.cell? ⟨B,38,none⟩=some (.slice a4 S.tl.length p4)) (by kernel_rfl) ?_ (fun hHeld=>?_)
     ·exact ⟨hrg,c37,c38⟩
     refine t2 0 ?_;refine t2 1 ?_;refine t2 2 ?_;refine t4 3 (.agg (enC S.e (.slice a1 S.F1.length p1) (.slice a2 S.F2.length p2))) rfl (yieldsIf_load_mid (by rfl) 29 (.tmp 88) rfl B 0 rfl (enC S.e (.slice a1 S.F1.length p1) (.slice a2 S.F2.length p2)).toList _ (fun z hz=>hz.1) underlying29 rfl infoE) ?_;try simp only [Act.put,sA,sZ,sS,gA,gZ,gS]
     refine t2 4 ?_;refine t2 5 ?_;refine t2 6 ?_;refine t2 7 ?_;refine t2 8 ?_;refine t2 9 ?_;refine t2 10 ?_;refine t2 11 ?_;refine t4 12 (.agg (eoC S.e (.slice a1 S.F1.length p1) (.slice a2 S.F2.length p2) (.slice a3 S.sn.length p3) (.slice a4 S.tl.length p4) 0)) rfl (Or.inl ⟨by rfl,fun _ _=>by kernel_rfl⟩) ?_;try simp only [Act.put,sA,sZ,sS,gA,gZ,gS]
     refine r1 13 rfl (fun K hK=>?_);rw [if_pos (by rfl)];refine wp_store_row 42 (.tmp 4) (.tmp 98) rfl X (eoC S.e (.slice a1 S.F1.length p1) (.slice a2 S.F2.length p2) (.slice a3 S.sn.length p3) (.slice a4 S.tl.length p4) 0) rfl rfl 42 eoZ (uh HZ).2 infoEo rfl hall ?_;have bX:Below X z (z.setRow X (eoC S.e (.slice a1 S.F1.length p1) (.slice a2 S.F2.length p2) (.slice a3 S.sn.length p3) (.slice a4 S.tl.length p4) 0)):=below_row (Below.refl _ _) (Nat.le_refl _) _;refine hK.out _ _ ?_ (fun _=>?_)
     ·refine ⟨fun j v hv=>(bX.cell (p:=⟨B,0+j,none⟩) hBX).trans (hrg j v hv),(bX.cell (p:=⟨B,37,none⟩) hBX).trans c37,(bX.cell (p:=⟨B,38,none⟩) hBX).trans c38⟩
     clear hK K;try simp only [Act.put]
     refine dn ?_ _;go_wp2
     refine bodyPost_ret (v:=.agg (eoC S.e (.slice a1 S.F1.length p1) (.slice a2 S.F2.length p2) (.slice a3 S.sn.length p3) (.slice a4 S.tl.length p4) 0)) (by simp [results,results43,asAddr,loadEo (setRow_heap z.drew X _ (eoC S.e (.slice a1 S.F1.length p1) (.slice a2 S.F2.length p2) (.slice a3 S.sn.length p3) (.slice a4 S.tl.length p4) 0) _ _ (uh HZ).2)]) rfl ?_;obtain ⟨hz0,hX⟩:=uh HZ;have hz:=hz0.step (Below.refl _ _).drew;have hXd:z.drew.heap[X]?=some (.cells eoZ 42):=hX;have hs:=hz.lo.size;have hSS:=(uh HS).1;clear HZ HS hHeld hrg c37 c38 hall hz0 bX;subst hSS;refine ⟨⟨_,_,_,_,?_,own_setRow hz.o1 hXd (by decide),own_setRow hz.o2 hXd (by decide),own_mono (own_setRow hz.os hXd (by decide)) hs,own_mono (own_setRow hz.ot hXd (by decide)) hs,hz.ap,hz.low.trans (below_row (Below.refl _ _) (Nat.le_of_lt (Nat.lt_of_le_of_lt hz.hB hBX)) _)⟩,nr_setRow ((uh HN2).trans hz.nr) (Nat.le_of_eq (uh HXq)) _⟩;exact congrArg (fun e=>Ending.returned (.agg (eoC e _ _ _ _ 0))) HE
    ·rw [hrr] at CR;by_cases hdu:(A.foldl (fun s a=>actF c a s) s).e.du<0
     ·have HE:endE c A st' (A.foldl (fun s a=>actF c a s) s).e={ (A.foldl (fun s a=>actF c a s) s).e with st:=st',du:=c.now+3 }:=by unfold endE;rw [hrr,decide_eq_true hdu];rfl
      go_upto_region 15 with (first | (go_at_call 75;refine (uh CR _).mono ?_;rintro r ws ⟨rfl,hws⟩;replace hws:=hws.symm;subst hws))
      refine gen_world (fun z=>Lay 89 w0 q2 B c S u1 u2 us ut z∧z.heap[X]?=some (.cells eoZ 42)) ?_ ?_
      ·have h4:=(uh H3).setRaw 14 (.int .i64 (c.now+3)) { (A.foldl (fun s a=>actF c a s) s).e with st:=st',du:=c.now+3 } rfl;rw [← HE,← (uh HS).1] at h4;exact ⟨h4,uh HX3 _ h4.nr⟩
      clear H3 c12 f12 c14 f14 c30 m0;rintro z ⟨hz,hX⟩;obtain ⟨a1,p1,e1⟩:=own_form hz.o1;obtain ⟨a2,p2,e2⟩:=own_form hz.o2;obtain ⟨a3,p3,e3⟩:=own_form hz.os;obtain ⟨a4,p4,e4⟩:=own_form hz.ot;subst e1 e2 e3 e4;have c37:=hz.cell (i:=37) rfl;have c38:=hz.cell (i:=38) rfl;have hrg:=range_lay hz;have hall:=eoC_all S.e a1 a2 a3 a4 S.F1.length S.F2.length S.sn.length S.tl.length p1 p2 p3 p4 0;have HZ:=hide (And.intro hz hX);clear hz hX;refine wp_region_held_drew (S:=fun z=>z.rangeAt B 0 (enC S.e (.slice a1 S.F1.length p1) (.slice a2 S.F2.length p2)).toList∧z.cell? ⟨B,37,none⟩=some (.slice a3 S.sn.length p3)∧z.cell? ⟨B,38,none⟩=some (.slice a4 S.tl.length p4)) (by kernel_rfl) ?_ (fun hHeld=>?_)
      ·exact ⟨hrg,c37,c38⟩
      refine t2 0 ?_;refine t2 1 ?_;refine t2 2 ?_;refine t4 3 (.agg (enC S.e (.slice a1 S.F1.length p1) (.slice a2 S.F2.length p2))) rfl (yieldsIf_load_mid (by rfl) 29 (.tmp 88) rfl B 0 rfl (enC S.e (.slice a1 S.F1.length p1) (.slice a2 S.F2.length p2)).toList _ (fun z hz=>hz.1) underlying29 rfl infoE) ?_;try simp only [Act.put,sA,sZ,sS,gA,gZ,gS]
      refine t2 4 ?_;refine t2 5 ?_;refine t2 6 ?_;refine t2 7 ?_;refine t2 8 ?_;refine t2 9 ?_;refine t2 10 ?_;refine t2 11 ?_;refine t4 12 (.agg (eoC S.e (.slice a1 S.F1.length p1) (.slice a2 S.F2.length p2) (.slice a3 S.sn.length p3) (.slice a4 S.tl.length p4) 0)) rfl (Or.inl ⟨by rfl,fun _ _=>by kernel_rfl⟩) ?_;try simp only [Act.put,sA,sZ,sS,gA,gZ,gS]
      refine r1 13 rfl (fun K hK=>?_);rw [if_pos (by rfl)];refine wp_store_row 42 (.tmp 4) (.tmp 98) rfl X (eoC S.e (.slice a1 S.F1.length p1) (.slice a2 S.F2.length p2) (.slice a3 S.sn.length p3) (.slice a4 S.tl.length p4) 0) rfl rfl 42 eoZ (uh HZ).2 infoEo rfl hall ?_;have bX:Below X z (z.setRow X (eoC S.e (.slice a1 S.F1.length p1) (.slice a2 S.F2.length p2) (.slice a3 S.sn.length p3) (.slice a4 S.tl.length p4) 0)):=below_row (Below.refl _ _) (Nat.le_refl _) _;refine hK.out _ _ ?_ (fun _=>?_)
      ·refine ⟨fun j v hv=>(bX.cell (p:=⟨B,0+j,none⟩) hBX).trans (hrg j v hv),(bX.cell (p:=⟨B,37,none⟩) hBX).trans c37,(bX.cell (p:=⟨B,38,none⟩) hBX).trans c38⟩
      clear hK K;try simp only [Act.put]
      refine dn ?_ _;go_wp2
      refine bodyPost_ret (v:=.agg (eoC S.e (.slice a1 S.F1.length p1) (.slice a2 S.F2.length p2) (.slice a3 S.sn.length p3) (.slice a4 S.tl.length p4) 0)) (by simp [results,results43,asAddr,loadEo (setRow_heap z.drew X _ (eoC S.e (.slice a1 S.F1.length p1) (.slice a2 S.F2.length p2) (.slice a3 S.sn.length p3) (.slice a4 S.tl.length p4) 0) _ _ (uh HZ).2)]) rfl ?_;obtain ⟨hz0,hX⟩:=uh HZ;have hz:=hz0.step (Below.refl _ _).drew;have hXd:z.drew.heap[X]?=some (.cells eoZ 42):=hX;have hs:=hz.lo.size;have hSS:=(uh HS).1;clear HZ HS hHeld hrg c37 c38 hall hz0 bX;subst hSS;refine ⟨⟨_,_,_,_,?_,own_setRow hz.o1 hXd (by decide),own_setRow hz.o2 hXd (by decide),own_mono (own_setRow hz.os hXd (by decide)) hs,own_mono (own_setRow hz.ot hXd (by decide)) hs,hz.ap,hz.low.trans (below_row (Below.refl _ _) (Nat.le_of_lt (Nat.lt_of_le_of_lt hz.hB hBX)) _)⟩,nr_setRow ((uh HN2).trans hz.nr) (Nat.le_of_eq (uh HXq)) _⟩;exact congrArg (fun e=>Ending.returned (.agg (eoC e _ _ _ _ 0))) HE
     ·cases hset:A.any setT
      ·have HE:endE c A st' (A.foldl (fun s a=>actF c a s) s).e={ (A.foldl (fun s a=>actF c a s) s).e with st:=st' }:=by unfold endE;rw [hrr,decide_eq_false hdu,hset];rfl
       go_upto_region 15 with (first | (go_at_call 75;refine (uh CR _).mono ?_;rintro r ws ⟨rfl,hws⟩;replace hws:=hws.symm;subst hws))
       refine gen_world (fun z=>Lay 89 w0 q2 B c S u1 u2 us ut z∧z.heap[X]?=some (.cells eoZ 42)) ?_ ?_
       ·have h4:=uh H3;rw [← HE,← (uh HS).1] at h4;exact ⟨h4,uh HX3 _ h4.nr⟩
       clear H3 c12 f12 c14 f14 c30 m0;rintro z ⟨hz,hX⟩;obtain ⟨a1,p1,e1⟩:=own_form hz.o1;obtain ⟨a2,p2,e2⟩:=own_form hz.o2;obtain ⟨a3,p3,e3⟩:=own_form hz.os;obtain ⟨a4,p4,e4⟩:=own_form hz.ot;subst e1 e2 e3 e4;have c37:=hz.cell (i:=37) rfl;have c38:=hz.cell (i:=38) rfl;have hrg:=range_lay hz;have hall:=eoC_all S.e a1 a2 a3 a4 S.F1.length S.F2.length S.sn.length S.tl.length p1 p2 p3 p4 0;have HZ:=hide (And.intro hz hX);clear hz hX;refine wp_region_held_drew (S:=fun z=>z.rangeAt B 0 (enC S.e (.slice a1 S.F1.length p1) (.slice a2 S.F2.length p2)).toList∧z.cell? ⟨B,37,none⟩=some (.slice a3 S.sn.length p3)∧z.cell? ⟨B,38,none⟩=some (.slice a4 S.tl.length p4)) (by kernel_rfl) ?_ (fun hHeld=>?_)
       ·exact ⟨hrg,c37,c38⟩
       refine t2 0 ?_;refine t2 1 ?_;refine t2 2 ?_;refine t4 3 (.agg (enC S.e (.slice a1 S.F1.length p1) (.slice a2 S.F2.length p2))) rfl (yieldsIf_load_mid (by rfl) 29 (.tmp 88) rfl B 0 rfl (enC S.e (.slice a1 S.F1.length p1) (.slice a2 S.F2.length p2)).toList _ (fun z hz=>hz.1) underlying29 rfl infoE) ?_;try simp only [Act.put,sA,sZ,sS,gA,gZ,gS]
       refine t2 4 ?_;refine t2 5 ?_;refine t2 6 ?_;refine t2 7 ?_;refine t2 8 ?_;refine t2 9 ?_;refine t2 10 ?_;refine t2 11 ?_;refine t4 12 (.agg (eoC S.e (.slice a1 S.F1.length p1) (.slice a2 S.F2.length p2) (.slice a3 S.sn.length p3) (.slice a4 S.tl.length p4) 0)) rfl (Or.inl ⟨by rfl,fun _ _=>by kernel_rfl⟩) ?_;try simp only [Act.put,sA,sZ,sS,gA,gZ,gS]
       refine r1 13 rfl (fun K hK=>?_);rw [if_pos (by rfl)];refine wp_store_row 42 (.tmp 4) (.tmp 98) rfl X (eoC S.e (.slice a1 S.F1.length p1) (.slice a2 S.F2.length p2) (.slice a3 S.sn.length p3) (.slice a4 S.tl.length p4) 0) rfl rfl 42 eoZ (uh HZ).2 infoEo rfl hall ?_;have bX:Below X z (z.setRow X (eoC S.e (.slice a1 S.F1.length p1) (.slice a2 S.F2.length p2) (.slice a3 S.sn.length p3) (.slice a4 S.tl.length p4) 0)):=below_row (Below.refl _ _) (Nat.le_refl _) _;refine hK.out _ _ ?_ (fun _=>?_)
       ·refine ⟨fun j v hv=>(bX.cell (p:=⟨B,0+j,none⟩) hBX).trans (hrg j v hv),(bX.cell (p:=⟨B,37,none⟩) hBX).trans c37,(bX.cell (p:=⟨B,38,none⟩) hBX).trans c38⟩
       clear hK K;try simp only [Act.put]
       refine dn ?_ _;go_wp2
       refine bodyPost_ret (v:=.agg (eoC S.e (.slice a1 S.F1.length p1) (.slice a2 S.F2.length p2) (.slice a3 S.sn.length p3) (.slice a4 S.tl.length p4) 0)) (by simp [results,results43,asAddr,loadEo (setRow_heap z.drew X _ (eoC S.e (.slice a1 S.F1.length p1) (.slice a2 S.F2.length p2) (.slice a3 S.sn.length p3) (.slice a4 S.tl.length p4) 0) _ _ (uh HZ).2)]) rfl ?_;obtain ⟨hz0,hX⟩:=uh HZ;have hz:=hz0.step (Below.refl _ _).drew;have hXd:z.drew.heap[X]?=some (.cells eoZ 42):=hX;have hs:=hz.lo.size;have hSS:=(uh HS).1;clear HZ HS hHeld hrg c37 c38 hall hz0 bX;subst hSS;refine ⟨⟨_,_,_,_,?_,own_setRow hz.o1 hXd (by decide),own_setRow hz.o2 hXd (by decide),own_mono (own_setRow hz.os hXd (by decide)) hs,own_mono (own_setRow hz.ot hXd (by decide)) hs,hz.ap,hz.low.trans (below_row (Below.refl _ _) (Nat.le_of_lt (Nat.lt_of_le_of_lt hz.hB hBX)) _)⟩,nr_setRow ((uh HN2).trans hz.nr) (Nat.le_of_eq (uh HXq)) _⟩;exact congrArg (fun e=>Ending.returned (.agg (eoC e _ _ _ _ 0))) HE
      ·have HE:endE c A st' (A.foldl (fun s a=>actF c a s) s).e={ (A.foldl (fun s a=>actF c a s) s).e with st:=st',du:=c.now+3 }:=by unfold endE;rw [hrr,decide_eq_false hdu,hset];rfl
       go_upto_region 15 with (first | (go_at_call 75;refine (uh CR _).mono ?_;rintro r ws ⟨rfl,hws⟩;replace hws:=hws.symm;subst hws))
       refine gen_world (fun z=>Lay 89 w0 q2 B c S u1 u2 us ut z∧z.heap[X]?=some (.cells eoZ 42)) ?_ ?_
       ·have h4:=(uh H3).setRaw 14 (.int .i64 (c.now+3)) { (A.foldl (fun s a=>actF c a s) s).e with st:=st',du:=c.now+3 } rfl;rw [← HE,← (uh HS).1] at h4;exact ⟨h4,uh HX3 _ h4.nr⟩
       clear H3 c12 f12 c14 f14 c30 m0;rintro z ⟨hz,hX⟩;obtain ⟨a1,p1,e1⟩:=own_form hz.o1;obtain ⟨a2,p2,e2⟩:=own_form hz.o2;obtain ⟨a3,p3,e3⟩:=own_form hz.os;obtain ⟨a4,p4,e4⟩:=own_form hz.ot;subst e1 e2 e3 e4;have c37:=hz.cell (i:=37) rfl;have c38:=hz.cell (i:=38) rfl;have hrg:=range_lay hz;have hall:=eoC_all S.e a1 a2 a3 a4 S.F1.length S.F2.length S.sn.length S.tl.length p1 p2 p3 p4 0;have HZ:=hide (And.intro hz hX);clear hz hX;refine wp_region_held_drew (S:=fun z=>z.rangeAt B 0 (enC S.e (.slice a1 S.F1.length p1) (.slice a2 S.F2.length p2)).toList∧z.cell? ⟨B,37,none⟩=some (.slice a3 S.sn.length p3)∧z.cell? ⟨B,38,none⟩=some (.slice a4 S.tl.length p4)) (by kernel_rfl) ?_ (fun hHeld=>?_)
       ·exact ⟨hrg,c37,c38⟩
       refine t2 0 ?_;refine t2 1 ?_;refine t2 2 ?_;refine t4 3 (.agg (enC S.e (.slice a1 S.F1.length p1) (.slice a2 S.F2.length p2))) rfl (yieldsIf_load_mid (by rfl) 29 (.tmp 88) rfl B 0 rfl (enC S.e (.slice a1 S.F1.length p1) (.slice a2 S.F2.length p2)).toList _ (fun z hz=>hz.1) underlying29 rfl infoE) ?_;try simp only [Act.put,sA,sZ,sS,gA,gZ,gS]
       refine t2 4 ?_;refine t2 5 ?_;refine t2 6 ?_;refine t2 7 ?_;refine t2 8 ?_;refine t2 9 ?_;refine t2 10 ?_;refine t2 11 ?_;refine t4 12 (.agg (eoC S.e (.slice a1 S.F1.length p1) (.slice a2 S.F2.length p2) (.slice a3 S.sn.length p3) (.slice a4 S.tl.length p4) 0)) rfl (Or.inl ⟨by rfl,fun _ _=>by kernel_rfl⟩) ?_;try simp only [Act.put,sA,sZ,sS,gA,gZ,gS]
       refine r1 13 rfl (fun K hK=>?_);rw [if_pos (by rfl)];refine wp_store_row 42 (.tmp 4) (.tmp 98) rfl X (eoC S.e (.slice a1 S.F1.length p1) (.slice a2 S.F2.length p2) (.slice a3 S.sn.length p3) (.slice a4 S.tl.length p4) 0) rfl rfl 42 eoZ (uh HZ).2 infoEo rfl hall ?_;have bX:Below X z (z.setRow X (eoC S.e (.slice a1 S.F1.length p1) (.slice a2 S.F2.length p2) (.slice a3 S.sn.length p3) (.slice a4 S.tl.length p4) 0)):=below_row (Below.refl _ _) (Nat.le_refl _) _;refine hK.out _ _ ?_ (fun _=>?_)
       ·refine ⟨fun j v hv=>(bX.cell (p:=⟨B,0+j,none⟩) hBX).trans (hrg j v hv),(bX.cell (p:=⟨B,37,none⟩) hBX).trans c37,(bX.cell (p:=⟨B,38,none⟩) hBX).trans c38⟩
       clear hK K;try simp only [Act.put]
       refine dn ?_ _;go_wp2
       refine bodyPost_ret (v:=.agg (eoC S.e (.slice a1 S.F1.length p1) (.slice a2 S.F2.length p2) (.slice a3 S.sn.length p3) (.slice a4 S.tl.length p4) 0)) (by simp [results,results43,asAddr,loadEo (setRow_heap z.drew X _ (eoC S.e (.slice a1 S.F1.length p1) (.slice a2 S.F2.length p2) (.slice a3 S.sn.length p3) (.slice a4 S.tl.length p4) 0) _ _ (uh HZ).2)]) rfl ?_;obtain ⟨hz0,hX⟩:=uh HZ;have hz:=hz0.step (Below.refl _ _).drew;have hXd:z.drew.heap[X]?=some (.cells eoZ 42):=hX;have hs:=hz.lo.size;have hSS:=(uh HS).1;clear HZ HS hHeld hrg c37 c38 hall hz0 bX;subst hSS;refine ⟨⟨_,_,_,_,?_,own_setRow hz.o1 hXd (by decide),own_setRow hz.o2 hXd (by decide),own_mono (own_setRow hz.os hXd (by decide)) hs,own_mono (own_setRow hz.ot hXd (by decide)) hs,hz.ap,hz.low.trans (below_row (Below.refl _ _) (Nat.le_of_lt (Nat.lt_of_le_of_lt hz.hB hBX)) _)⟩,nr_setRow ((uh HN2).trans hz.nr) (Nat.le_of_eq (uh HXq)) _⟩;exact congrArg (fun e=>Ending.returned (.agg (eoC e _ _ _ _ 0))) HE
 ·have hcn:(cd != 0)=true:=by simpa using hcd
  have hall:(eoC enZero (.slice none 0 0) (.slice none 0 0) (.slice none 0 0) (.slice none 0 0) cd).all (·.oneCell')=true:=eoC_all _ _ _ _ _ _ _ _ _ _ _ _ _ _
  go_wp2_with (first
   | (refine wpList_buildTo rfl 42 _ rfl (some 20) rfl (eoC enZero (.slice none 0 0) (.slice none 0 0) (.slice none 0 0) (.slice none 0 0) cd) (by as_aux_lemma=>kernel_rfl) ?_)
   | (refine wpList_store_rowTo rfl 42 (.tmp 4) (.tmp 20) rfl rfl X (eoC enZero (.slice none 0 0) (.slice none 0 0) (.slice none 0 0) (.slice none 0 0) cd) rfl rfl 42 eoZ (uh HQ2).2.1 infoEo rfl hall ?_))
  refine bodyPost_ret (v:=.agg (eoC enZero (.slice none 0 0) (.slice none 0 0) (.slice none 0 0) (.slice none 0 0) cd)) (by simp [results,results43,asAddr,loadEo (setRow_heap q2 X _ (eoC enZero (.slice none 0 0) (.slice none 0 0) (.slice none 0 0) (.slice none 0 0) cd) _ _ (uh HQ2).2.1)]) rfl ?_;exact ⟨evErr ((uh HQ2).1.low.trans (below_row (Below.refl _ _) (by have:=(uh HQ2).1.hB;omega) _)) cd,nr_setRow (uh HN2) (Nat.le_of_eq (uh HXq)) _⟩
theorem sEvent (w0 w1:World) (B:Nat) (c:Cx) (s:St) (v1 v2:Value) (q:World) (h:Lay 89 w0 w1 B c s v1 v2 (.slice none 0 0) (.slice none 0 0) q) (hs:s.sn=[]) (ht:s.tl=[]) (hf:Fit 0 c s) (t:ByteArray) (hts:t.size≤maxLen)
  (hA:∀ a ∈ (fsmF s.e.st t).2.1,ActOk 89 90 c a) (hl:(fsmF s.e.st t).2.1.length≤30) :
  Calls prog 43 #[.pointer (some ⟨B,0,none⟩),.string t] q fun r q'=>EvA w0 (evF c s t) r q' :=
 (sEventN w0 w1 B c s v1 v2 q h hs ht hf t hts hA hl).mono fun _ _ h=>h.1
def cx0 (now:Int):Cx:=⟨now,0,0,⟨#[]⟩,[],0,[],.slice none 0 0,.slice none 0 0⟩
abbrev wk0 (e:En) (v1 v2:Value) (now:Int):List Value:=wkC (cx0 now) e v1 v2 (.slice none 0 0) (.slice none 0 0)
theorem wp_runO {P:Program} {o:Oper} {a:Act} {w w':World} {K:Act→World→Prop} {Q:Exit→Act→World→Prop} {v:Value} (hrun:(execOp a.eval o).run P w=.ok (.value v) w') (h:K (a.put o.dst v) w'):Oper.wp P o a w K Q:=by
 unfold Oper.wp;rw [hrun,Oper.upon_value];exact h
theorem rangeA {W:World} {E:Nat} {cs:Array Value} {T:TypeId} (h:W.heap[E]?=some (.cells cs T)):W.rangeAt E 0 cs.toList:=by
 intro j u hu;rw [cr h,Nat.zero_add,← Array.getElem?_toList];exact hu
theorem Lay.start {T:TypeId} (hT:Tt T) {w z:World} {e:En} {v1 v2:Value} {F1 F2:List Op.Opt} {n1 n2:Nat} (e1:F1.length=n1) (e2:F2.length=n2) (now:Int) (o1:z.ownsRow w.heap.size 116 2 v1 n1 (ocells F1)) (o2:z.ownsRow w.heap.size 116 2 v2 n2 (ocells F2)) (ap:Ap v1 v2) (lo:Below w.heap.size w z) :
  Lay T w (z.alloc (.cells (wk0 e v1 v2 now).toArray T)) z.heap.size (cx0 now) ⟨e,F1,F2,[],[]⟩ v1 v2 (.slice none 0 0) (.slice none 0 0) (z.alloc (.cells (wk0 e v1 v2 now).toArray T)):=by
 subst e1 e2;have hb:Below z.heap.size z (z.alloc (.cells (wk0 e v1 v2 now).toArray T)):=(Below.refl _ _).alloc (Nat.le_refl _) _;exact ⟨heap_alloc_new z _,own_below o1 hb,own_below o2 hb,World.ownsRow_nil _ _ _ _,World.ownsRow_nil _ _ _ _,World.ownsRow_nil _ _ _ _,holdsO_nil _ _ _,lo.size,hT,ap,(Ap.none _ _ _).symm,lo.trans (hb.mono lo.size),Nr.refl _ _⟩
theorem sTime (now:Int) (w:World):Calls prog 88 #[.int .i64 now] w fun e w'=>e=.returned (.bool (within 0 1000000000 now))∧w'=w:=by
 have C:=hide (specIs now 0 1000000000 w);go_enter func88,ntmps88
 go_wp2_with fail
 refine (uh C).mono ?_;rintro r ws ⟨rfl,hws⟩;replace hws:=hws.symm;subst hws;go_wp2
 go_ret
 exact ⟨rfl,rfl⟩
def BeginA (T:TypeId) (w:World) (e:En) (F1 F2:List Op.Opt) (now:Int) (ok:Bool) (r:Ending) (w':World):Prop :=
 ∃ B v1 v2,r=.returned (.tuple #[.pointer (some ⟨B,0,none⟩),.bool ok])∧Lay T w w' B (cx0 now) ⟨e,F1,F2,[],[]⟩ v1 v2 (.slice none 0 0) (.slice none 0 0) w'
theorem sBegin (e:En) (x1 x2:Option Addr) (y1 y2:Nat) (F1 F2:List Op.Opt) (now:Int) (w:World) (l1:F1.length≤1048576) (l2:F2.length≤1048576) (h1:HoldsO w (.slice x1 F1.length y1) F1) (h2:HoldsO w (.slice x2 F2.length y2) F2) :
  Calls prog 42 #[.agg (enC e (.slice x1 F1.length y1) (.slice x2 F2.length y2)),.int .i64 now] w fun r w'=>BeginA 89 w e F1 F2 now (enOk e F1 F2 && within 0 1000000000 now) r w':=by
 have CC:=hide fun W (hb:Below w.heap.size w W)=>sCopy e x1 x2 y1 y2 F1 F2 W l1 l2 (h1.below hb rfl) (h2.below hb rfl)
 have CR:=hide fun W (hb:Below w.heap.size w W)=>specEndRight e x1 x2 y1 y2 F1 F2 W (by unfold maxLen;omega) (by unfold maxLen;omega) (h1.below hb rfl) (h2.below hb rfl)
 have CT:=hide fun W=>sTime now W
 clear h1 h2;have hA:=heap_alloc_new w (.cells (enC e (.slice x1 F1.length y1) (.slice x2 F2.length y2)) 29);have hbA:Below w.heap.size w (w.alloc (.cells (enC e (.slice x1 F1.length y1) (.slice x2 F2.length y2)) 29)):=(Below.refl _ _).alloc (Nat.le_refl _) _;have H0:=hide (And.intro hA hbA);clear hA hbA;generalize enOk e F1 F2=ok1 at *;generalize within 0 1000000000 now=ok2 at *;obtain ⟨n1,e1⟩:∃ n,F1.length=n:=⟨_,rfl⟩;obtain ⟨n2,e2⟩:∃ n,F2.length=n:=⟨_,rfl⟩;rw [e1] at CC CR H0 ⊢;rw [e2] at CC CR H0 ⊢;go_enter func42,ntmps42
 go_upto_region 1 with fail
 refine gen_world (fun z=>z.heap[w.heap.size]?=some (.cells (enC e (.slice x1 n1 y1) (.slice x2 n2 y2)) 29)∧Below w.heap.size w z) ?_ ?_
 ·exact uh H0
 clear H0;rintro z ⟨za,zl⟩;have HZ:=hide (And.intro za (zl.trans ((Below.refl _ _).drew.mono zl.size)));refine wp_region_held_drew (S:=fun z=>z.heap[w.heap.size]?=some (.cells (enC e (.slice x1 n1 y1) (.slice x2 n2 y2)) 29)) (by kernel_rfl) ?_ (fun hHeld=>?_)
 ·exact za
 clear za zl;refine t4 0 (.agg (enC e (.slice x1 n1 y1) (.slice x2 n2 y2))) rfl (yieldsIf_load_mid (by rfl) 29 (.tmp 2) rfl w.heap.size 0 rfl (enC e (.slice x1 n1 y1) (.slice x2 n2 y2)).toList _ (fun z hz=>rangeA hz) underlying29 rfl infoE) ?_;try simp only [Act.put,sA,sZ,sS,gA,gZ]
 refine t2 2 ?_;refine t4 5 (.agg (enC e (.slice x1 n1 y1) (.slice x2 n2 y2))) rfl (yieldsIf_load_mid (by rfl) 29 (.tmp 2) rfl w.heap.size 0 rfl (enC e (.slice x1 n1 y1) (.slice x2 n2 y2)).toList _ (fun z hz=>rangeA hz) underlying29 rfl infoE) ?_;try simp only [Act.put,sA,sZ,sS,gA,gZ,gS]
 refine r1 1 rfl (fun K hK=>?_);go_simp;refine (uh CC _ (uh HZ).2).mono ?_;rintro r z1 ⟨w1,w2,rfl,ho1,ho2,hap,hb1⟩;have ha1:=(hb1.block w.heap.size (ge.1 (uh HZ).1).1).trans (uh HZ).1;have hl1:=(uh HZ).2.trans (hb1.mono (uh HZ).2.size);have hs1:=(uh HZ).2.size;obtain ⟨a1,p1,q1⟩:=own_form ho1;obtain ⟨a2,p2,q2⟩:=own_form ho2;subst q1 q2;have HC:=hide (And.intro (own_mono ho1 hs1) (And.intro (own_mono ho2 hs1) (And.intro hap (And.intro ha1 hl1))));clear ho1 ho2 hap hb1 hl1 hs1 HZ;go_wp2_with fail
 refine ro hK ?_ fun _=>?_
 ·exact ha1
 clear hK K;clear ha1;refine t4 3 (.agg (wk0 e (.slice a1 n1 p1) (.slice a2 n2 p2) now).toArray) rfl (Or.inl ⟨by rfl,fun _ _=>by kernel_rfl⟩) ?_;try simp only [Act.put,sA,sZ,sS,gA,gZ,gS]
 cases ok1
 ·refine wpAnyH_ready (rs:=[4,6]) (by kernel_rfl) (by simp) ?_;refine AllReadyH.cons rfl (fun K hK=>?_) (AllReadyH.cons rfl (fun K hK=>?_) (AllReadyH.nil))
  ·rw [if_pos (by rfl)];refine wp_runO (v:=.pointer (some ⟨z1.heap.size,0,none⟩)) (w':=z1.alloc (.cells (wk0 e (.slice a1 n1 p1) (.slice a2 n2 p2) now).toArray 89)) (by as_aux_lemma=>kernel_rfl) ?_;obtain ⟨o1,o2,ap,za,zl⟩:=uh HC;have hL:=Lay.start ttS (e:=e) e1 e2 now o1 o2 ap zl;have zb:=(Below.heap_alloc z1 (.cells (wk0 e (.slice a1 n1 p1) (.slice a2 n2 p2) now).toArray 89) w.heap.size (ge.1 za).1).trans za;obtain ⟨B,hB⟩:∃ B,z1.heap.size=B:=⟨_,rfl⟩;rw [hB] at hL;rw [hB];obtain ⟨z2,hz2⟩:∃ z',z1.alloc (.cells (wk0 e (.slice a1 n1 p1) (.slice a2 n2 p2) now).toArray 89)=z':=⟨_,rfl⟩;rw [hz2] at hL zb;rw [hz2];have HL:=hide (And.intro hL zb);clear hL o1 o2 ap za zl HC hz2 hB;refine ro hK ?_ fun _=>?_
   ·exact zb
   clear hK K zb;refine r1 6 rfl (fun K hK=>?_);go_simp;refine (uh CR _ (uh HL).1.low).mono ?_;rintro r z3 ⟨rfl,hb⟩;have HL3:=hide (And.intro ((uh HL).1.step hb) ((hb.block w.heap.size (ge.1 (uh HL).2).1).trans (uh HL).2));clear hb HL;have HL:=HL3;clear HL3;go_wp2_with fail
   refine ro hK ?_ fun _=>?_
   ·exact (uh HL).2
   clear hK K;refine t2 7 ?_;refine t5 8 ?_;refine t5 9 ?_;refine t2 10 ?_;refine t2 11 ?_;refine t2 12 ?_;refine dn ?_ _;go_wp2
   exact bodyPost_ret (v:=.tuple #[.pointer (some ⟨B,0,none⟩),.bool false]) (by simp [results,results42]) rfl ⟨B,_,_,rfl,(uh HL).1.rebase rfl rfl⟩
  ·go_simp;refine (uh CR _ (uh HC).2.2.2.2).mono ?_;rintro r z2 ⟨rfl,hb⟩;have HC2:=hide (And.intro (own_below (uh HC).1 hb) (And.intro (own_below (uh HC).2.1 hb) (And.intro (uh HC).2.2.1 (And.intro ((hb.block w.heap.size (ge.1 (uh HC).2.2.2.1).1).trans (uh HC).2.2.2.1) ((uh HC).2.2.2.2.trans (hb.mono (uh HC).2.2.2.2.size))))));clear hb HC;have HC:=HC2;clear HC2;go_wp2_with fail
   refine ro hK ?_ fun _=>?_
   ·exact (uh HC).2.2.2.1
   clear hK K;refine t2 7 ?_;refine t5 8 ?_;refine t5 9 ?_;refine t2 10 ?_;refine r1 4 rfl (fun K hK=>?_);rw [if_pos (by rfl)];refine wp_runO (v:=.pointer (some ⟨z2.heap.size,0,none⟩)) (w':=z2.alloc (.cells (wk0 e (.slice a1 n1 p1) (.slice a2 n2 p2) now).toArray 89)) (by as_aux_lemma=>kernel_rfl) ?_;obtain ⟨o1,o2,ap,za,zl⟩:=uh HC;have hL:=Lay.start ttS (e:=e) e1 e2 now o1 o2 ap zl;have zb:=(Below.heap_alloc z2 (.cells (wk0 e (.slice a1 n1 p1) (.slice a2 n2 p2) now).toArray 89) w.heap.size (ge.1 za).1).trans za;obtain ⟨B,hB⟩:∃ B,z2.heap.size=B:=⟨_,rfl⟩;rw [hB] at hL;rw [hB];obtain ⟨z3,hz3⟩:∃ z',z2.alloc (.cells (wk0 e (.slice a1 n1 p1) (.slice a2 n2 p2) now).toArray 89)=z':=⟨_,rfl⟩;rw [hz3] at hL zb;rw [hz3];have HL:=hide (And.intro hL zb);clear hL o1 o2 ap za zl HC hz3 hB;refine ro hK ?_ fun _=>?_
   ·exact zb
   clear hK K zb;refine t2 11 ?_;refine t2 12 ?_;refine dn ?_ _;go_wp2
   exact bodyPost_ret (v:=.tuple #[.pointer (some ⟨B,0,none⟩),.bool false]) (by simp [results,results42]) rfl ⟨B,_,_,rfl,(uh HL).1.rebase rfl rfl⟩
 ·refine wpAnyH_ready (rs:=[4,6]) (by kernel_rfl) (by simp) ?_;refine AllReadyH.cons rfl (fun K hK=>?_) (AllReadyH.cons rfl (fun K hK=>?_) (AllReadyH.nil))
  ·rw [if_pos (by rfl)];refine wp_runO (v:=.pointer (some ⟨z1.heap.size,0,none⟩)) (w':=z1.alloc (.cells (wk0 e (.slice a1 n1 p1) (.slice a2 n2 p2) now).toArray 89)) (by as_aux_lemma=>kernel_rfl) ?_;obtain ⟨o1,o2,ap,za,zl⟩:=uh HC;have hL:=Lay.start ttS (e:=e) e1 e2 now o1 o2 ap zl;have zb:=(Below.heap_alloc z1 (.cells (wk0 e (.slice a1 n1 p1) (.slice a2 n2 p2) now).toArray 89) w.heap.size (ge.1 za).1).trans za;obtain ⟨B,hB⟩:∃ B,z1.heap.size=B:=⟨_,rfl⟩;rw [hB] at hL;rw [hB];obtain ⟨z2,hz2⟩:∃ z',z1.alloc (.cells (wk0 e (.slice a1 n1 p1) (.slice a2 n2 p2) now).toArray 89)=z':=⟨_,rfl⟩;rw [hz2] at hL zb;rw [hz2];have HL:=hide (And.intro hL zb);clear hL o1 o2 ap za zl HC hz2 hB;refine ro hK ?_ fun _=>?_
   ·exact zb
   clear hK K zb;refine r1 6 rfl (fun K hK=>?_);go_simp;refine (uh CR _ (uh HL).1.low).mono ?_;rintro r z3 ⟨rfl,hb⟩;have HL3:=hide (And.intro ((uh HL).1.step hb) ((hb.block w.heap.size (ge.1 (uh HL).2).1).trans (uh HL).2));clear hb HL;have HL:=HL3;clear HL3;go_wp2_with fail
   refine ro hK ?_ fun _=>?_
   ·exact (uh HL).2
   clear hK K;refine t2 7 ?_;refine t2 8 ?_;refine r1 9 rfl (fun K hK=>?_);go_simp;refine (uh CT _).mono ?_;rintro r zt ⟨rfl,hws⟩;replace hws:=hws.symm;subst hws;go_wp2_with fail
   refine ro hK ?_ fun _=>?_
   ·exact (uh HL).2
   clear hK K;refine t2 10 ?_;refine t2 11 ?_;refine t2 12 ?_;refine dn ?_ _;go_wp2
   exact bodyPost_ret (v:=.tuple #[.pointer (some ⟨B,0,none⟩),.bool ok2]) (by simp [results,results42]) rfl ⟨B,_,_,rfl,(uh HL).1.rebase rfl rfl⟩
  ·go_simp;refine (uh CR _ (uh HC).2.2.2.2).mono ?_;rintro r z2 ⟨rfl,hb⟩;have HC2:=hide (And.intro (own_below (uh HC).1 hb) (And.intro (own_below (uh HC).2.1 hb) (And.intro (uh HC).2.2.1 (And.intro ((hb.block w.heap.size (ge.1 (uh HC).2.2.2.1).1).trans (uh HC).2.2.2.1) ((uh HC).2.2.2.2.trans (hb.mono (uh HC).2.2.2.2.size))))));clear hb HC;have HC:=HC2;clear HC2;go_wp2_with fail
   refine ro hK ?_ fun _=>?_
   ·exact (uh HC).2.2.2.1
   clear hK K;refine t2 7 ?_;refine t2 8 ?_;refine wpAnyH_ready (rs:=[4,9]) (by kernel_rfl) (by simp) ?_;refine AllReadyH.cons rfl (fun K hK=>?_) (AllReadyH.cons rfl (fun K hK=>?_) (AllReadyH.nil))
   ·rw [if_pos (by rfl)];refine wp_runO (v:=.pointer (some ⟨z2.heap.size,0,none⟩)) (w':=z2.alloc (.cells (wk0 e (.slice a1 n1 p1) (.slice a2 n2 p2) now).toArray 89)) (by as_aux_lemma=>kernel_rfl) ?_;obtain ⟨o1,o2,ap,za,zl⟩:=uh HC;have hL:=Lay.start ttS (e:=e) e1 e2 now o1 o2 ap zl;have zb:=(Below.heap_alloc z2 (.cells (wk0 e (.slice a1 n1 p1) (.slice a2 n2 p2) now).toArray 89) w.heap.size (ge.1 za).1).trans za;obtain ⟨B,hB⟩:∃ B,z2.heap.size=B:=⟨_,rfl⟩;rw [hB] at hL;rw [hB];obtain ⟨z3,hz3⟩:∃ z',z2.alloc (.cells (wk0 e (.slice a1 n1 p1) (.slice a2 n2 p2) now).toArray 89)=z':=⟨_,rfl⟩;rw [hz3] at hL zb;rw [hz3];have HL:=hide (And.intro hL zb);clear hL o1 o2 ap za zl HC hz3 hB;refine ro hK ?_ fun _=>?_
    ·exact zb
    clear hK K zb;refine r1 9 rfl (fun K hK=>?_);go_simp;refine (uh CT _).mono ?_;rintro r zt ⟨rfl,hws⟩;replace hws:=hws.symm;subst hws;go_wp2_with fail
    refine ro hK ?_ fun _=>?_
    ·exact (uh HL).2
    clear hK K;refine t2 10 ?_;refine t2 11 ?_;refine t2 12 ?_;refine dn ?_ _;go_wp2
    exact bodyPost_ret (v:=.tuple #[.pointer (some ⟨B,0,none⟩),.bool ok2]) (by simp [results,results42]) rfl ⟨B,_,_,rfl,(uh HL).1.rebase rfl rfl⟩
   ·go_simp;refine (uh CT _).mono ?_;rintro r zt ⟨rfl,hws⟩;replace hws:=hws.symm;subst hws;go_wp2_with fail
    refine ro hK ?_ fun _=>?_
    ·exact (uh HC).2.2.2.1
    clear hK K;refine t2 10 ?_;refine r1 4 rfl (fun K hK=>?_);rw [if_pos (by rfl)];refine wp_runO (v:=.pointer (some ⟨z2.heap.size,0,none⟩)) (w':=z2.alloc (.cells (wk0 e (.slice a1 n1 p1) (.slice a2 n2 p2) now).toArray 89)) (by as_aux_lemma=>kernel_rfl) ?_;obtain ⟨o1,o2,ap,za,zl⟩:=uh HC;have hL:=Lay.start ttS (e:=e) e1 e2 now o1 o2 ap zl;have zb:=(Below.heap_alloc z2 (.cells (wk0 e (.slice a1 n1 p1) (.slice a2 n2 p2) now).toArray 89) w.heap.size (ge.1 za).1).trans za;obtain ⟨B,hB⟩:∃ B,z2.heap.size=B:=⟨_,rfl⟩;rw [hB] at hL;rw [hB];obtain ⟨z3,hz3⟩:∃ z',z2.alloc (.cells (wk0 e (.slice a1 n1 p1) (.slice a2 n2 p2) now).toArray 89)=z':=⟨_,rfl⟩;rw [hz3] at hL zb;rw [hz3];have HL:=hide (And.intro hL zb);clear hL o1 o2 ap za zl HC hz3 hB;refine ro hK ?_ fun _=>?_
    ·exact zb
    clear hK K zb;refine t2 11 ?_;refine t2 12 ?_;refine dn ?_ _;go_wp2
    exact bodyPost_ret (v:=.tuple #[.pointer (some ⟨B,0,none⟩),.bool ok2]) (by simp [results,results42]) rfl ⟨B,_,_,rfl,(uh HL).1.rebase rfl rfl⟩
end Go.Proofs.YtahpjlbaagkdoaaGreatDoor
