/- WkK -/
import Derived.Test.YtahpjlbaagkdoaaGreatDoorS11
set_option maxHeartbeats 16000000
set_option maxRecDepth 100000
namespace Go.Proofs.YtahpjlbaagkdoaaGreatDoor
open Go.RowKit Go.Proofs.Tryz
theorem asSet (v:Value) (W:World):(Instr.typeAssert (.iface 133 v) 129 133 true).run prog W=.ok (.tuple #[v,.bool true]) W:=by kernel_rfl
theorem asTell (v:Value) (W:World):(Instr.typeAssert (.iface 135 v) 129 135 true).run prog W=.ok (.tuple #[v,.bool true]) W:=by kernel_rfl
theorem noSet_tell (v:Value) (W:World):(Instr.typeAssert (.iface 135 v) 129 133 true).run prog W=.ok (.tuple #[.agg #[.int .i64 0],.bool false]) W:=by kernel_rfl
theorem noSet_sendRequest (v:Value) (W:World):(Instr.typeAssert (.iface 158 v) 129 133 true).run prog W=.ok (.tuple #[.agg #[.int .i64 0],.bool false]) W:=by kernel_rfl
theorem noTell_sendRequest (v:Value) (W:World):(Instr.typeAssert (.iface 158 v) 129 135 true).run prog W=.ok (.tuple #[.agg #[.string ⟨#[]⟩],.bool false]) W:=by kernel_rfl
theorem noSet_sendEnd (v:Value) (W:World):(Instr.typeAssert (.iface 159 v) 129 133 true).run prog W=.ok (.tuple #[.agg #[.int .i64 0],.bool false]) W:=by kernel_rfl
theorem noTell_sendEnd (v:Value) (W:World):(Instr.typeAssert (.iface 159 v) 129 135 true).run prog W=.ok (.tuple #[.agg #[.string ⟨#[]⟩],.bool false]) W:=by kernel_rfl
theorem noSet_sendAnswer (v:Value) (W:World):(Instr.typeAssert (.iface 160 v) 129 133 true).run prog W=.ok (.tuple #[.agg #[.int .i64 0],.bool false]) W:=by kernel_rfl
theorem noTell_sendAnswer (v:Value) (W:World):(Instr.typeAssert (.iface 160 v) 129 135 true).run prog W=.ok (.tuple #[.agg #[.string ⟨#[]⟩],.bool false]) W:=by kernel_rfl
theorem noSet_sendEndAck (v:Value) (W:World):(Instr.typeAssert (.iface 161 v) 129 133 true).run prog W=.ok (.tuple #[.agg #[.int .i64 0],.bool false]) W:=by kernel_rfl
theorem noTell_sendEndAck (v:Value) (W:World):(Instr.typeAssert (.iface 161 v) 129 135 true).run prog W=.ok (.tuple #[.agg #[.string ⟨#[]⟩],.bool false]) W:=by kernel_rfl
theorem noSet_sendCodeFault (v:Value) (W:World):(Instr.typeAssert (.iface 162 v) 129 133 true).run prog W=.ok (.tuple #[.agg #[.int .i64 0],.bool false]) W:=by kernel_rfl
theorem noTell_sendCodeFault (v:Value) (W:World):(Instr.typeAssert (.iface 162 v) 129 135 true).run prog W=.ok (.tuple #[.agg #[.string ⟨#[]⟩],.bool false]) W:=by kernel_rfl
theorem noSet_sendEcho (v:Value) (W:World):(Instr.typeAssert (.iface 163 v) 129 133 true).run prog W=.ok (.tuple #[.agg #[.int .i64 0],.bool false]) W:=by kernel_rfl
theorem noTell_sendEcho (v:Value) (W:World):(Instr.typeAssert (.iface 163 v) 129 135 true).run prog W=.ok (.tuple #[.agg #[.string ⟨#[]⟩],.bool false]) W:=by kernel_rfl
theorem setT_of (t:ByteArray):setT t=(decide (t.data.toList=[105,114,99]) || decide (t.data.toList=[122,114,99])):=by
 unfold setT;rw [ByteArray.toList_eq]
theorem dueE_end (c:Cx) (A:List ByteArray) (st:Int) (e:En) (h:-1≤e.du):dueE c.now (A.any setT) { e with st:=st }=endE c A st e:=by
 have hd:decide (e.du<0)=(e.du == -1):=by
  by_cases h1:e.du=-1
  ·rw [h1];rfl
  ·rw [beq_eq_false_iff_ne.2 h1,decide_eq_false (by omega)]
 unfold dueE endE;dsimp only;rw [hd,Bool.or_comm]
theorem appTxtO {w:World} {o:Oper} {a:Act} {K:Act→World→Prop} {Q:Exit→Act→World→Prop} (s x:Operand)
  (ho:o.op=.call { callee:=.builtin .append,args:=#[s,x],argTypes:=#[40,40] })
  (base:Nat) (v:Value) (L:List ByteArray) (n:Nat) (hs:a.eval s=v) (hown:w.ownsRow base 9 1 v n (scells L)) (t:ByteArray) (hx:a.eval x=.slice (some ⟨w.heap.size,0,none⟩) 1 1) (hlen:n≤1000000) (hbase:base≤w.heap.size)
  (h:∀ v' w',w'.ownsRow base 9 1 v' (n+1) (scells (L ++ [t]))→(w.alloc (.cells #[.string t] 9)).grownBy w' v.ownBlock→K (a.put o.dst v') w'):o.wp prog a (w.alloc (.cells #[.string t] 9)) K Q:=by
 obtain ⟨i0,hi0,hz0,hz1,hz2⟩:=sinfo;refine wp_append_own _ s x 40 ho base 9 i0 _ 1 16 underlying40 hi0 hz0 hz1 hz2 rfl (by decide) v n (scells L) hs (hown.alloc _) ⟨w.heap.size,0,none⟩ 1 1 [.string t] hx rfl ?_ ?_ ?_ ?_ ?_ ?_
 ·intro i u hu;rw [Addr.add_lit,Nat.zero_add,World.cell?_alloc_at _ _ _ _ rfl,← hu];simp
 ·intro u hu;simp only [List.mem_cons,List.not_mem_nil,or_false] at hu;rw [hu];rfl
 ·unfold maxLen;omega
 ·omega
 ·simp;omega
 ·intro v' w2 hown2 hg2 _;refine h v' w2 ?_ hg2;rw [scells_append];exact hown2
theorem wp_runI {P:Program} {o:Oper} {a:Act} {w w':World} {K:Act→World→Prop} {Q:Exit→Act→World→Prop} {v:Value} (hrun:(execOp a.eval o).run P w=.ok (.value v) w') (h:K (a.put o.dst v) w'):Oper.wp P o a w K Q:=by
 unfold Oper.wp;rw [hrun,Oper.upon_value];exact h
theorem Lay.free {T:TypeId} {w0 w1:World} {B:Nat} {c:Cx} {s:St} {v1 v2:Value} {q:World} (h:Lay T w0 w1 B c s v1 v2 (.slice none 0 0) (.slice none 0 0) q) (Y:Nat) {old:Array Value} (cs:Array Value) {T':TypeId} (hY:q.heap[Y]?=some (.cells old T')) (nB:B≠Y) (hT1:T'≠116) (hw:w0.heap.size≤Y) (hs:s.sn=[]) (ht:s.tl=[]) :
  Lay T w0 (q.setRow Y cs) B c s v1 v2 (.slice none 0 0) (.slice none 0 0) (q.setRow Y cs):=by
 have hk:∀ k,k≠Y→(q.setRow Y cs).heap[k]?=q.heap[k]?:=fun k hk=>by unfold World.setRow;simp [Array.getElem?_modify,Ne.symm hk]
 exact ⟨(hk B nB).trans h.row,own_other h.o1 fun g hg=>hk g fun e=>own_ty h.o1 hY hT1 (e ▸ hg),own_other h.o2 fun g hg=>hk g fun e=>own_ty h.o2 hY hT1 (e ▸ hg),by rw [hs];exact World.ownsRow_nil _ _ _ _,by rw [ht];exact World.ownsRow_nil _ _ _ _,own_other h.oh fun g hg=>hk g fun e=>own_ty h.oh hY hT1 (e ▸ hg),hold_ty h.ha hY hT1 fun k _=>hk k,h.hB,h.tt,h.ap,h.aph,below_row h.low hw _,Nr.refl _ _⟩
theorem iHappen (w0 w1:World) (B:Nat) (c:Cx) (s:St) (v1 v2:Value) (q:World) (h:Lay 83 w0 w1 B c s v1 v2 (.slice none 0 0) (.slice none 0 0) q) (hs:s.sn=[]) (ht:s.tl=[]) (hf:Fit 0 c s) (k:Nat) (t:ByteArray) (hk:evTexts[k]?=some t)
  (hE:EvT w0) (hN:NxT w0) (hS:SpT w0) (hA:∀ a ∈ (fsmF s.e.st t).2.1,a ∈ [nIrc,nScr,nStr,nTls,nTlf,nTld]) (hl:(fsmF s.e.st t).2.1.length≤30) :
  Calls prog 41 #[.pointer (some ⟨B,0,none⟩),.int .i64 k] q fun r q'=>EvA w0 (evF c s t) r q':=by
 have hk16:k<16:=(List.getElem?_eq_some_iff.1 hk).1;have hts:t.size≤maxLen:=by
  have hz:(evTexts.all fun t=>decide (t.size≤10))=true:=by kernel_rfl
  have:=of_decide_eq_true (List.all_eq_true.1 hz t (List.mem_of_getElem? hk))
  unfold maxLen;omega
 have CF:=hide fun W (hb:Below w0.heap.size w0 W)=>implFsm s.e.st t W hts (hE.below hb) (hN.below hb) (hS.below hb)
 have HT:=hide fun W (hb:Below w0.heap.size w0 W)=>hE.below hb k t hk
 unfold evF;generalize fsmF s.e.st t=R at *;obtain ⟨st',A,cd⟩:=R;dsimp only at hA hl ⊢;obtain ⟨X,hXq⟩:∃ X,q.heap.size=X:=⟨_,rfl⟩;have hX:=heap_alloc_new q (.cells eoZ 42);have hbX:Below q.heap.size q (q.alloc (.cells eoZ 42)):=(Below.refl _ _).alloc (Nat.le_refl _) _;have h0:=h.step hbX;have hBX:B<X:=hXq ▸ h.lt;rw [hXq] at hX;have H0:=hide (And.intro h0 hX);have HP:=hide (And.intro hf (And.intro hA (And.intro hs ht)));clear h h0 hX hbX hf hA hs ht hE hN hS;have d0:(0:Int)≤(k:Int):=by omega
 have d16:(k:Int)<16:=by omega
 go_enter func41,ntmps41
 go_upto_region 1 with fail
 refine gen_world (fun z=>Lay 83 w0 w1 B c s v1 v2 (.slice none 0 0) (.slice none 0 0) z∧z.heap[X]?=some (.cells eoZ 42)) ?_ ?_
 ·exact uh H0
 clear H0;rintro z ⟨hz,hX⟩;have c12:=hz.cell (i:=12) rfl;have cG:=uh HT z hz.low;have HZ:=hide (And.intro (hz.step (Below.refl _ _).drew) hX);clear hz hX;go_cut [5] (fun y wx=>∃ Y ad cp,y=.pointer (some ⟨Y,0,none⟩)∧B<Y∧X<Y∧Lay 83 w0 wx B c s v1 v2 (.slice none 0 0) (.slice none 0 0) wx∧wx.heap[X]?=some (.cells eoZ 42)∧wx.heap[Y]?=some (.cells #[.int .i64 st',.slice ad A.length cp,.int .i64 cd] 126)∧wx.ownsRow 0 9 1 (.slice ad A.length cp) A.length (scells A))
 case first =>
  refine wp_region_held_drew (S:=fun z=>z.cell? ⟨B,12,none⟩=some (.int .i64 s.e.st)∧z.cell? ⟨0,k,none⟩=some (.string t)) (by kernel_rfl) ?_ (fun hHeld=>?_)
  ·exact ⟨c12,cG⟩
  clear c12 cG;refine t2 0 ?_;refine t2 1 ?_;refine t2 2 ?_;refine t2 3 ?_;refine t2 4 ?_;refine t2 5 ?_;refine t2 6 ?_;refine t2 7 ?_;refine wpAnyH_ready (rs:=[8,9]) (by kernel_rfl) (by simp) ?_;refine AllReadyH.cons rfl (fun K hK=>?_) (AllReadyH.cons rfl (fun K hK=>?_) (AllReadyH.nil))
  ·go_simp;refine (uh CF _ (uh HZ).1.low).mono ?_;rintro r q1 ⟨ad,cp,rfl,ho,hb1⟩;dsimp only at ho;have hL1:=(uh HZ).1.step hb1;have hX1:=(hb1.block X (ge.1 (uh HZ).2).1).trans (uh HZ).2;have HL0:=hide (And.intro hL1 (And.intro hX1 (own_mono ho (Nat.zero_le _))));clear hL1 hX1 ho hb1;go_wp2_with fail
   refine ro hK ?_ fun _=>?_
   ·exact ⟨(uh HL0).1.cell (i:=12) rfl,uh HT _ (uh HL0).1.low⟩
   clear hK K;refine r1 9 rfl (fun K hK=>?_);rw [if_pos (by rfl)];refine wp_runI (v:=.pointer (some ⟨q1.heap.size,0,none⟩)) (w':=(q1.alloc (.cells #[.int .i64 0,.slice none 0 0,.int .i64 0] 126))) (by as_aux_lemma=>kernel_rfl) ?_;have hb2:Below q1.heap.size q1 (q1.alloc (.cells #[.int .i64 0,.slice none 0 0,.int .i64 0] 126)):=(Below.refl _ _).alloc (Nat.le_refl _) _;have hBY:B<q1.heap.size:=(uh HL0).1.lt;have hXY:X<q1.heap.size:=(ge.1 (uh HL0).2.1).1;have hlow:w0.heap.size≤q1.heap.size:=(uh HL0).1.low.size;have HY:=hide (heap_alloc_new q1 (.cells #[.int .i64 0,.slice none 0 0,.int .i64 0] 126));have HL:=hide (And.intro ((uh HL0).1.step hb2) (And.intro ((hb2.block X hXY).trans (uh HL0).2.1) (own_below (uh HL0).2.2 hb2)));clear hb2;refine ro hK ?_ fun _=>?_
   ·exact ⟨(uh HL).1.cell (i:=12) rfl,uh HT _ (uh HL).1.low⟩
   clear hK K;refine r1 10 rfl (fun K hK=>?_);rw [if_pos (by rfl)];refine wp_store_row 126 (.tmp 5) (.tmp 20) rfl q1.heap.size #[.int .i64 st',.slice ad A.length cp,.int .i64 cd] rfl rfl 126 #[.int .i64 0,.slice none 0 0,.int .i64 0] (uh HY) infoT rfl (by kernel_rfl) ?_;have hY2:=setRow_heap _ q1.heap.size _ #[.int .i64 st',.slice ad A.length cp,.int .i64 cd] _ _ (uh HY);have hL3:=(uh HL).1;have nB:B≠q1.heap.size:=Nat.ne_of_lt hBY;have hL4:=Lay.free hL3 q1.heap.size #[.int .i64 st',.slice ad A.length cp,.int .i64 cd] (uh HY) nB (by decide) hlow (uh HP).2.2.1 (uh HP).2.2.2;have hX4:=(setRow_other (q1.alloc (.cells #[.int .i64 0,.slice none 0 0,.int .i64 0] 126)) q1.heap.size X #[.int .i64 st',.slice ad A.length cp,.int .i64 cd] (Nat.ne_of_lt hXY)).trans (uh HL).2.1;have hO4:=own_setRow (cs:=#[.int .i64 st',.slice ad A.length cp,.int .i64 cd]) (uh HL).2.2 (uh HY) (by decide);refine hK.out _ _ ?_ (fun _=>?_)
   ·exact ⟨hL4.cell (i:=12) rfl,uh HT _ hL4.low⟩
   clear hK K;try simp only [Act.put,List.getElem_toArray,List.getElem_cons_zero,List.getElem_cons_succ]
   refine dn ?_ _;go_wp2_with fail
   go_meet;exact ⟨q1.heap.size,ad,cp,rfl,hBY,hXY,hL4,hX4,hY2,hO4⟩
  ·rw [if_pos (by rfl)];refine wp_runI (v:=.pointer (some ⟨z.heap.size,0,none⟩)) (w':=z.drew.alloc (.cells #[.int .i64 0,.slice none 0 0,.int .i64 0] 126)) (by as_aux_lemma=>kernel_rfl) ?_;have hb2:Below z.drew.heap.size z.drew (z.drew.alloc (.cells #[.int .i64 0,.slice none 0 0,.int .i64 0] 126)):=(Below.refl _ _).alloc (Nat.le_refl _) _;have hBY:B<z.heap.size:=(uh HZ).1.lt;have hXY:X<z.heap.size:=(ge.1 (uh HZ).2).1;have hlow:w0.heap.size≤z.heap.size:=(uh HZ).1.low.size;have HY0:=hide (heap_alloc_new z.drew (.cells #[.int .i64 0,.slice none 0 0,.int .i64 0] 126));have HL0:=hide (And.intro ((uh HZ).1.step hb2) ((hb2.block X hXY).trans (uh HZ).2));clear hb2;refine ro hK ?_ fun _=>?_
   ·exact ⟨(uh HL0).1.cell (i:=12) rfl,uh HT _ (uh HL0).1.low⟩
   clear hK K;refine r1 8 rfl (fun K hK=>?_);go_simp;refine (uh CF _ (uh HL0).1.low).mono ?_;rintro r q1 ⟨ad,cp,rfl,ho,hb1⟩;dsimp only at ho;have HY:=hide ((hb1.block z.heap.size (ge.1 (uh HY0)).1).trans (uh HY0));have HL:=hide (And.intro ((uh HL0).1.step hb1) (And.intro ((hb1.block X (ge.1 (uh HL0).2).1).trans (uh HL0).2) (own_mono ho (Nat.zero_le _))));clear ho hb1;go_wp2_with fail
   refine ro hK ?_ fun _=>?_
   ·exact ⟨(uh HL).1.cell (i:=12) rfl,uh HT _ (uh HL).1.low⟩
   clear hK K;refine r1 10 rfl (fun K hK=>?_);rw [if_pos (by rfl)];refine wp_store_row 126 (.tmp 5) (.tmp 20) rfl z.heap.size #[.int .i64 st',.slice ad A.length cp,.int .i64 cd] rfl rfl 126 #[.int .i64 0,.slice none 0 0,.int .i64 0] (uh HY) infoT rfl (by kernel_rfl) ?_;have hY2:=setRow_heap _ z.heap.size _ #[.int .i64 st',.slice ad A.length cp,.int .i64 cd] _ _ (uh HY);have hL3:=(uh HL).1;have nB:B≠z.heap.size:=Nat.ne_of_lt hBY;have hL4:=Lay.free hL3 z.heap.size #[.int .i64 st',.slice ad A.length cp,.int .i64 cd] (uh HY) nB (by decide) hlow (uh HP).2.2.1 (uh HP).2.2.2;have hX4:=(setRow_other q1 z.heap.size X #[.int .i64 st',.slice ad A.length cp,.int .i64 cd] (Nat.ne_of_lt hXY)).trans (uh HL).2.1;have hO4:=own_setRow (cs:=#[.int .i64 st',.slice ad A.length cp,.int .i64 cd]) (uh HL).2.2 (uh HY) (by decide);refine hK.out _ _ ?_ (fun _=>?_)
   ·exact ⟨hL4.cell (i:=12) rfl,uh HT _ hL4.low⟩
   clear hK K;try simp only [Act.put,List.getElem_toArray,List.getElem_cons_zero,List.getElem_cons_succ]
   refine dn ?_ _;go_wp2_with fail
   go_meet;exact ⟨z.heap.size,ad,cp,rfl,hBY,hXY,hL4,hX4,hY2,hO4⟩
 case rest =>
  obtain ⟨Y,ad,cp,rfl,hBY0,hXY,hL2,hX2,hY2,hO2⟩:=hcut;go_upto_region 2 with fail
  refine gen_world (fun z=>Lay 83 w0 z B c s v1 v2 (.slice none 0 0) (.slice none 0 0) z∧z.heap[X]?=some (.cells eoZ 42)∧z.heap[Y]?=some (.cells #[.int .i64 st',.slice ad A.length cp,.int .i64 cd] 126)∧z.ownsRow 0 9 1 (.slice ad A.length cp) A.length (scells A)) ?_ ?_
  ·exact ⟨hL2,hX2,hY2,hO2⟩
  clear hL2 hX2 hY2 hO2 HZ CF HT c12 cG;rintro q2 ⟨hL2,hX2,hY2,hO2⟩;have k0:q2.cell? ⟨Y,0,none⟩=some (.int .i64 st'):=by rw [cr hY2];rfl
  have k1:q2.cell? ⟨Y,1,none⟩=some (.slice ad A.length cp):=by rw [cr hY2];rfl
  have k2:q2.cell? ⟨Y,2,none⟩=some (.int .i64 cd):=by rw [cr hY2];rfl
  have hBY:B≠Y:=by omega
  have HQ2:=hide (And.intro hL2 (And.intro hX2 (And.intro hY2 hO2)));clear hL2 hX2 hY2 hO2;by_cases hcd:cd=0
  ·subst hcd;obtain ⟨n,hn⟩:∃ n,A.length=n:=⟨_,rfl⟩;rw [hn] at k1 hl HQ2;have KY:Hid (∀ wr,Nr B q2 wr→wr.cell? ⟨Y,0,none⟩=some (.int .i64 st')∧wr.cell? ⟨Y,1,none⟩=some (.slice ad n cp)):=by
    have hyl:=(ge.1 (uh HQ2).2.2.1).1;refine hide fun wr hw=>?_
    have e:=hw.block Y hyl hBY.symm;exact ⟨(World.cell?_of_block e).trans k0,(World.cell?_of_block e).trans k1⟩
   have KT:Hid (∀ (i:Nat) (hi:i<A.length),∃ g,ad=some ⟨g,0,none⟩∧∀ wr,Nr B q2 wr→wr.cell? ⟨g,i,none⟩=some (.string A[i])):=by
    refine hide fun i hi=>?_
    have hO:=(uh HQ2).2.2.2;rw [← hn] at hO;obtain ⟨g,cp',e1,hgl,hc⟩:=ownT_at hO i hi;injection e1 with e1 _ _;refine ⟨g,e1,fun wr hw=>(World.cell?_of_block (hw.block g hgl fun e=>?_)).trans hc⟩;subst e;exact own_ty hO (uh HQ2).1.row (uh HQ2).1.tt.2.2 (by rw [e1];rfl)
   go_wp2_with fail
   go_loopw [6,30] (fun x y wr=>∃ i:Nat,i≤n∧x=.bool ((A.take i).any setT)∧y=.int .i64 i∧∃ u1 u2 us ut,Lay 83 w0 q2 B c ((A.take i).foldl (fun s a=>actF c a s) s) u1 u2 us ut wr) (fun _ y _=>n - (intOf y).toNat)
   case atStart=>exact ⟨0,Nat.zero_le _,rfl,rfl,_,_,_,_,(uh HQ2).1⟩
   case round =>
    obtain ⟨i,hi,rfl,rfl,u1,u2,us,ut,hLi⟩:=hrel;by_cases hlt:i<n
    ·have d1:(i:Int)<(n:Int):=by omega
     obtain ⟨g,rfl,hg⟩:=uh KT i (by omega);have t1:=hg wr hLi.nr;have HF:=hide ((uh HP).1.fold A i);have hmem:=(uh HP).2.1 _ (List.getElem_mem (by omega:i<A.length));have HS:Hid (((A.take (i+1)).any setT=((A.take i).any setT || setT A[i]))∧(A.take (i+1)).foldl (fun s a=>actF c a s) s=actF c A[i] ((A.take i).foldl (fun s a=>actF c a s) s)):=hide ⟨take_any A i _,take_fold c s A i _⟩;have HI:=hide hLi;clear hLi hg KT KY;generalize A[i]=a at *;generalize ((A.take i).foldl (fun s a=>actF c a s) s)=si at *;generalize (A.take i).any setT=b at *;simp only [List.mem_cons,List.not_mem_nil,or_false] at hmem;rcases hmem with rfl | rfl | rfl | rfl | rfl | rfl
     ·have as1:=asSet;go_wp2_with (first | (go_at_call 85;refine (aIrc _).mono ?_;rintro r ws ⟨rfl,hws⟩;replace hws:=hws.symm;subst hws))
      refine (iSet (uh HI) 5).mono ?_;rintro r wr2 ⟨rfl,hd⟩;have hb3:Below wr2.heap.size wr2 (wr2.alloc (.cells #[.int .i64 5] 133)):=(Below.refl _ _).alloc (Nat.le_refl _) _;have HD:=hide (hd.step hb3);clear hd hb3;go_wp2_with fail
      go_roundw
      case rel=>refine ⟨i+1,by omega,?_,by go_num,u1,u2,us,ut,by rw [(uh HS).2];exact uh HD⟩;rw [(uh HS).1,setT_of];cases b<;>rfl
      case measure=>simp [intOf];omega
     ·have as1:=noSet_sendRequest;have as2:=noTell_sendRequest;go_wp2_with (first | (go_at_call 85;refine (aScr _).mono ?_;rintro r ws ⟨rfl,hws⟩;replace hws:=hws.symm;subst hws))
      refine (iReq (uh HI) (uh HF) (by omega)).mono ?_;rintro r wr2 ⟨rfl,x1,xs,hd⟩;have HD:=hide hd;clear hd;go_wp2_with fail
      go_roundw
      case rel=>refine ⟨i+1,by omega,?_,by go_num,x1,u2,xs,ut,by rw [(uh HS).2];exact uh HD⟩;rw [(uh HS).1,setT_of];cases b<;>rfl
      case measure=>simp [intOf];omega
     ·have as1:=noSet_sendEnd;have as2:=noTell_sendEnd;go_wp2_with (first | (go_at_call 85;refine (aStr _).mono ?_;rintro r ws ⟨rfl,hws⟩;replace hws:=hws.symm;subst hws))
      refine (iEnd (uh HI) (uh HF) (by omega)).mono ?_;rintro r wr2 ⟨rfl,xs,hd⟩;have HD:=hide hd;clear hd;go_wp2_with fail
      go_roundw
      case rel=>refine ⟨i+1,by omega,?_,by go_num,u1,u2,xs,ut,by rw [(uh HS).2];exact uh HD⟩;rw [(uh HS).1,setT_of];cases b<;>rfl
      case measure=>simp [intOf];omega
     ·have as1:=noSet_tell;have as2:=asTell;go_wp2_with (first | (go_at_call 85;refine (aTls _).mono ?_;rintro r ws ⟨rfl,hws⟩;replace hws:=hws.symm;subst hws))
      refine (iTls (uh HI)).mono ?_;rintro r wr2 ⟨rfl,hd⟩;obtain ⟨ad4,cp4,e4⟩:=own_form hd.ot;obtain ⟨m,hm⟩:∃ m,si.tl.length=m:=⟨_,rfl⟩;have e5:ut=(.slice ad4 m cp4):=by rw [← hm];exact e4
      subst e5;have hlen:m≤1000:=by have:=(uh HF).tl;omega
      have hb3:Below wr2.heap.size wr2 (wr2.alloc (.cells #[.string nTls] 135)):=(Below.refl _ _).alloc (Nat.le_refl _) _;have HD:=hide (And.intro (hd.step hb3) (heap_alloc_new wr2 (.cells #[.string nTls] 135)));clear hd hb3 e4;go_upto_region 16 with fail
      refine gen_world (fun z=>Lay 83 w0 q2 B c (si) u1 u2 us (.slice ad4 m cp4) z∧z.heap[wr2.heap.size]?=some (.cells #[.string nTls] 135)) ?_ ?_
      ·exact uh HD
      clear HD;rintro z ⟨hz,rz⟩;have kz:z.cell? ⟨wr2.heap.size,0,none⟩=some (.string nTls):=by rw [cr rz];rfl
      have c38:=hz.cell (i:=38) rfl;have HZ:=hide (And.intro (hz.step (Below.refl _ _).drew) rz);have hTl:wr2.heap.size<z.heap.size:=World.block_lt_of_cell? _ _ kz;have hBl:=hz.lt;clear hz rz;refine wp_region_held_drew (S:=fun z=>z.cell? ⟨wr2.heap.size,0,none⟩=some (.string nTls)) (by kernel_rfl) ?_ (fun hHeld=>?_)
      ·exact kz
      refine t2 0 ?_;refine t2 1 ?_;refine t2 2 ?_;refine t2 3 ?_;refine t2 5 ?_;refine t2 6 ?_;refine wpAnyH_ready (rs:=[4,7]) (by kernel_rfl) (by simp) ?_;refine AllReadyH.cons rfl (fun K hK=>?_) (AllReadyH.cons rfl (fun K hK=>?_) (AllReadyH.nil))
      ·have c38x:=c38;go_simp;refine ro hK ?_ fun _=>?_
       ·exact kz
       clear hK K;clear c38x;refine r1 7 rfl (fun K hK=>?_);rw [if_pos (by rfl)];refine wp_runI (v:=.slice (some ⟨z.heap.size,0,none⟩) 1 1) (w':=z.drew.alloc (.cells #[.string nTls] 9)) (by as_aux_lemma=>kernel_rfl) ?_;have hb4:Below z.heap.size z (z.drew.alloc (.cells #[.string nTls] 9)):=(Below.refl _ _).drew.alloc (Nat.le_refl _) _;have kz4:=(hb4.cell (p:=⟨wr2.heap.size,0,none⟩) hTl).trans kz;have c38b:=(hb4.cell (p:=⟨B,38,none⟩) hBl).trans c38;refine ro hK ?_ fun _=>?_
       ·exact kz4
       clear hK K;refine r1 8 rfl (fun K hK=>?_);rw [if_pos (by rfl)];refine appTxtO (w:=z.drew) _ _ rfl q2.heap.size (.slice ad4 m cp4) si.tl m rfl (hm ▸ (uh HZ).1.ot) nTls rfl (by omega) (uh HZ).1.nr.size ?_;rintro v6 w6 ho6 hg6;obtain ⟨a6,c6,rfl⟩:=own_form ho6;have e6:=(hg6.block B (Nat.lt_of_lt_of_le (uh HZ).1.lt (by simp)) (fun e=>(own_ty (uh HZ).1.ot (uh HZ).1.row (uh HZ).1.tt.2.2) e.symm)).trans ((Below.heap_alloc _ _ _ (uh HZ).1.lt).trans (uh HZ).1.row);have k6:w6.cell? ⟨B,38,none⟩=some (.slice ad4 m cp4):=by rw [cr e6];rfl
       have f6:w6.frozen? ⟨B,38,none⟩=false:=frz e6 38;have t6:w6.cell? ⟨wr2.heap.size,0,none⟩=some (.string nTls):=hg6.cell kz4 (fun e=>own_ty (uh HZ).1.ot (uh HZ).2 (by decide) e.symm);have hL6:=(uh HZ).1.say _ hg6 (.slice a6 (m+1) c6) (si.tl ++ [nTls]) (by rw [List.length_append,hm];exact ho6);have hne:¬ (wr2.heap.size=B):=fun e=>by have h1:=(uh HZ).2;rw [e] at h1;have h2:=(uh HZ).1.row;have h3:=h2.symm.trans (show z.drew.heap[B]?=_ from h1);injection h3 with h3;injection h3 with _ h3 _;exact absurd h3 (by decide)
       have t7:(w6.setCell ⟨B,38,none⟩ (.slice a6 (m+1) c6)).cell? ⟨wr2.heap.size,0,none⟩=some (.string nTls):=(World.cell?_of_block (heap_setCell_other w6 _ _ _ hne)).trans t6;have HL6:=hide hL6;clear e6 hL6;refine ro hK ?_ fun _=>?_
       ·exact t6
       clear hK K;refine t2 9 ?_;refine t2 10 ?_;refine r1 11 rfl (fun K hK=>?_);go_simp;refine hK.out _ _ ?_ (fun _=>?_)
       ·exact t7
       clear hK K;try simp only [Act.put,List.getElem_toArray,List.getElem_cons_zero,List.getElem_cons_succ]
       refine dn ?_ _;go_wp2_with fail
       go_roundw
       case rel=>refine ⟨i+1,by omega,?_,by go_num,u1,u2,us,(.slice a6 (m+1) c6),by rw [(uh HS).2];exact uh HL6⟩;rw [(uh HS).1,setT_of];cases b<;>rfl
       case measure=>simp [intOf];omega
      ·rw [if_pos (by rfl)];refine wp_runI (v:=.slice (some ⟨z.heap.size,0,none⟩) 1 1) (w':=z.drew.alloc (.cells #[.string nTls] 9)) (by as_aux_lemma=>kernel_rfl) ?_;have hb4:Below z.heap.size z (z.drew.alloc (.cells #[.string nTls] 9)):=(Below.refl _ _).drew.alloc (Nat.le_refl _) _;have kz4:=(hb4.cell (p:=⟨wr2.heap.size,0,none⟩) hTl).trans kz;have c38b:=(hb4.cell (p:=⟨B,38,none⟩) hBl).trans c38;refine ro hK ?_ fun _=>?_
       ·exact kz4
       clear hK K;refine r1 4 rfl (fun K hK=>?_);have c38x:=c38b;go_simp;refine ro hK ?_ fun _=>?_
       ·exact kz4
       clear hK K;clear c38x;refine r1 8 rfl (fun K hK=>?_);rw [if_pos (by rfl)];refine appTxtO (w:=z.drew) _ _ rfl q2.heap.size (.slice ad4 m cp4) si.tl m rfl (hm ▸ (uh HZ).1.ot) nTls rfl (by omega) (uh HZ).1.nr.size ?_;rintro v6 w6 ho6 hg6;obtain ⟨a6,c6,rfl⟩:=own_form ho6;have e6:=(hg6.block B (Nat.lt_of_lt_of_le (uh HZ).1.lt (by simp)) (fun e=>(own_ty (uh HZ).1.ot (uh HZ).1.row (uh HZ).1.tt.2.2) e.symm)).trans ((Below.heap_alloc _ _ _ (uh HZ).1.lt).trans (uh HZ).1.row);have k6:w6.cell? ⟨B,38,none⟩=some (.slice ad4 m cp4):=by rw [cr e6];rfl
       have f6:w6.frozen? ⟨B,38,none⟩=false:=frz e6 38;have t6:w6.cell? ⟨wr2.heap.size,0,none⟩=some (.string nTls):=hg6.cell kz4 (fun e=>own_ty (uh HZ).1.ot (uh HZ).2 (by decide) e.symm);have hL6:=(uh HZ).1.say _ hg6 (.slice a6 (m+1) c6) (si.tl ++ [nTls]) (by rw [List.length_append,hm];exact ho6);have hne:¬ (wr2.heap.size=B):=fun e=>by have h1:=(uh HZ).2;rw [e] at h1;have h2:=(uh HZ).1.row;have h3:=h2.symm.trans (show z.drew.heap[B]?=_ from h1);injection h3 with h3;injection h3 with _ h3 _;exact absurd h3 (by decide)
       have t7:(w6.setCell ⟨B,38,none⟩ (.slice a6 (m+1) c6)).cell? ⟨wr2.heap.size,0,none⟩=some (.string nTls):=(World.cell?_of_block (heap_setCell_other w6 _ _ _ hne)).trans t6;have HL6:=hide hL6;clear e6 hL6;refine ro hK ?_ fun _=>?_
       ·exact t6
       clear hK K;refine t2 9 ?_;refine t2 10 ?_;refine r1 11 rfl (fun K hK=>?_);go_simp;refine hK.out _ _ ?_ (fun _=>?_)
       ·exact t7
       clear hK K;try simp only [Act.put,List.getElem_toArray,List.getElem_cons_zero,List.getElem_cons_succ]
       refine dn ?_ _;go_wp2_with fail
       go_roundw
       case rel=>refine ⟨i+1,by omega,?_,by go_num,u1,u2,us,(.slice a6 (m+1) c6),by rw [(uh HS).2];exact uh HL6⟩;rw [(uh HS).1,setT_of];cases b<;>rfl
       case measure=>simp [intOf];omega
     ·have as1:=noSet_tell;have as2:=asTell;go_wp2_with (first | (go_at_call 85;refine (aTlf _).mono ?_;rintro r ws ⟨rfl,hws⟩;replace hws:=hws.symm;subst hws))
      refine (iTlf (uh HI)).mono ?_;rintro r wr2 ⟨rfl,hd⟩;obtain ⟨ad4,cp4,e4⟩:=own_form hd.ot;obtain ⟨m,hm⟩:∃ m,si.tl.length=m:=⟨_,rfl⟩;have e5:ut=(.slice ad4 m cp4):=by rw [← hm];exact e4
      subst e5;have hlen:m≤1000:=by have:=(uh HF).tl;omega
      have hb3:Below wr2.heap.size wr2 (wr2.alloc (.cells #[.string nTlf] 135)):=(Below.refl _ _).alloc (Nat.le_refl _) _;have HD:=hide (And.intro (hd.step hb3) (heap_alloc_new wr2 (.cells #[.string nTlf] 135)));clear hd hb3 e4;go_upto_region 16 with fail
      refine gen_world (fun z=>Lay 83 w0 q2 B c (si) u1 u2 us (.slice ad4 m cp4) z∧z.heap[wr2.heap.size]?=some (.cells #[.string nTlf] 135)) ?_ ?_
      ·exact uh HD
      clear HD;rintro z ⟨hz,rz⟩;have kz:z.cell? ⟨wr2.heap.size,0,none⟩=some (.string nTlf):=by rw [cr rz];rfl
      have c38:=hz.cell (i:=38) rfl;have HZ:=hide (And.intro (hz.step (Below.refl _ _).drew) rz);have hTl:wr2.heap.size<z.heap.size:=World.block_lt_of_cell? _ _ kz;have hBl:=hz.lt;clear hz rz;refine wp_region_held_drew (S:=fun z=>z.cell? ⟨wr2.heap.size,0,none⟩=some (.string nTlf)) (by kernel_rfl) ?_ (fun hHeld=>?_)
      ·exact kz
      refine t2 0 ?_;refine t2 1 ?_;refine t2 2 ?_;refine t2 3 ?_;refine t2 5 ?_;refine t2 6 ?_;refine wpAnyH_ready (rs:=[4,7]) (by kernel_rfl) (by simp) ?_;refine AllReadyH.cons rfl (fun K hK=>?_) (AllReadyH.cons rfl (fun K hK=>?_) (AllReadyH.nil))
      ·have c38x:=c38;go_simp;refine ro hK ?_ fun _=>?_
       ·exact kz
       clear hK K;clear c38x;refine r1 7 rfl (fun K hK=>?_);rw [if_pos (by rfl)];refine wp_runI (v:=.slice (some ⟨z.heap.size,0,none⟩) 1 1) (w':=z.drew.alloc (.cells #[.string nTlf] 9)) (by as_aux_lemma=>kernel_rfl) ?_;have hb4:Below z.heap.size z (z.drew.alloc (.cells #[.string nTlf] 9)):=(Below.refl _ _).drew.alloc (Nat.le_refl _) _;have kz4:=(hb4.cell (p:=⟨wr2.heap.size,0,none⟩) hTl).trans kz;have c38b:=(hb4.cell (p:=⟨B,38,none⟩) hBl).trans c38;refine ro hK ?_ fun _=>?_
       ·exact kz4
       clear hK K;refine r1 8 rfl (fun K hK=>?_);rw [if_pos (by rfl)];refine appTxtO (w:=z.drew) _ _ rfl q2.heap.size (.slice ad4 m cp4) si.tl m rfl (hm ▸ (uh HZ).1.ot) nTlf rfl (by omega) (uh HZ).1.nr.size ?_;rintro v6 w6 ho6 hg6;obtain ⟨a6,c6,rfl⟩:=own_form ho6;have e6:=(hg6.block B (Nat.lt_of_lt_of_le (uh HZ).1.lt (by simp)) (fun e=>(own_ty (uh HZ).1.ot (uh HZ).1.row (uh HZ).1.tt.2.2) e.symm)).trans ((Below.heap_alloc _ _ _ (uh HZ).1.lt).trans (uh HZ).1.row);have k6:w6.cell? ⟨B,38,none⟩=some (.slice ad4 m cp4):=by rw [cr e6];rfl
       have f6:w6.frozen? ⟨B,38,none⟩=false:=frz e6 38;have t6:w6.cell? ⟨wr2.heap.size,0,none⟩=some (.string nTlf):=hg6.cell kz4 (fun e=>own_ty (uh HZ).1.ot (uh HZ).2 (by decide) e.symm);have hL6:=(uh HZ).1.say _ hg6 (.slice a6 (m+1) c6) (si.tl ++ [nTlf]) (by rw [List.length_append,hm];exact ho6);have hne:¬ (wr2.heap.size=B):=fun e=>by have h1:=(uh HZ).2;rw [e] at h1;have h2:=(uh HZ).1.row;have h3:=h2.symm.trans (show z.drew.heap[B]?=_ from h1);injection h3 with h3;injection h3 with _ h3 _;exact absurd h3 (by decide)
       have t7:(w6.setCell ⟨B,38,none⟩ (.slice a6 (m+1) c6)).cell? ⟨wr2.heap.size,0,none⟩=some (.string nTlf):=(World.cell?_of_block (heap_setCell_other w6 _ _ _ hne)).trans t6;have HL6:=hide hL6;clear e6 hL6;refine ro hK ?_ fun _=>?_
       ·exact t6
       clear hK K;refine t2 9 ?_;refine t2 10 ?_;refine r1 11 rfl (fun K hK=>?_);go_simp;refine hK.out _ _ ?_ (fun _=>?_)
       ·exact t7
       clear hK K;try simp only [Act.put,List.getElem_toArray,List.getElem_cons_zero,List.getElem_cons_succ]
       refine dn ?_ _;go_wp2_with fail
       go_roundw
       case rel=>refine ⟨i+1,by omega,?_,by go_num,u1,u2,us,(.slice a6 (m+1) c6),by rw [(uh HS).2];exact uh HL6⟩;rw [(uh HS).1,setT_of];cases b<;>rfl
       case measure=>simp [intOf];omega
      ·rw [if_pos (by rfl)];refine wp_runI (v:=.slice (some ⟨z.heap.size,0,none⟩) 1 1) (w':=z.drew.alloc (.cells #[.string nTlf] 9)) (by as_aux_lemma=>kernel_rfl) ?_;have hb4:Below z.heap.size z (z.drew.alloc (.cells #[.string nTlf] 9)):=(Below.refl _ _).drew.alloc (Nat.le_refl _) _;have kz4:=(hb4.cell (p:=⟨wr2.heap.size,0,none⟩) hTl).trans kz;have c38b:=(hb4.cell (p:=⟨B,38,none⟩) hBl).trans c38;refine ro hK ?_ fun _=>?_
       ·exact kz4
       clear hK K;refine r1 4 rfl (fun K hK=>?_);have c38x:=c38b;go_simp;refine ro hK ?_ fun _=>?_
       ·exact kz4
       clear hK K;clear c38x;refine r1 8 rfl (fun K hK=>?_);rw [if_pos (by rfl)];refine appTxtO (w:=z.drew) _ _ rfl q2.heap.size (.slice ad4 m cp4) si.tl m rfl (hm ▸ (uh HZ).1.ot) nTlf rfl (by omega) (uh HZ).1.nr.size ?_;rintro v6 w6 ho6 hg6;obtain ⟨a6,c6,rfl⟩:=own_form ho6;have e6:=(hg6.block B (Nat.lt_of_lt_of_le (uh HZ).1.lt (by simp)) (fun e=>(own_ty (uh HZ).1.ot (uh HZ).1.row (uh HZ).1.tt.2.2) e.symm)).trans ((Below.heap_alloc _ _ _ (uh HZ).1.lt).trans (uh HZ).1.row);have k6:w6.cell? ⟨B,38,none⟩=some (.slice ad4 m cp4):=by rw [cr e6];rfl
       have f6:w6.frozen? ⟨B,38,none⟩=false:=frz e6 38;have t6:w6.cell? ⟨wr2.heap.size,0,none⟩=some (.string nTlf):=hg6.cell kz4 (fun e=>own_ty (uh HZ).1.ot (uh HZ).2 (by decide) e.symm);have hL6:=(uh HZ).1.say _ hg6 (.slice a6 (m+1) c6) (si.tl ++ [nTlf]) (by rw [List.length_append,hm];exact ho6);have hne:¬ (wr2.heap.size=B):=fun e=>by have h1:=(uh HZ).2;rw [e] at h1;have h2:=(uh HZ).1.row;have h3:=h2.symm.trans (show z.drew.heap[B]?=_ from h1);injection h3 with h3;injection h3 with _ h3 _;exact absurd h3 (by decide)
       have t7:(w6.setCell ⟨B,38,none⟩ (.slice a6 (m+1) c6)).cell? ⟨wr2.heap.size,0,none⟩=some (.string nTlf):=(World.cell?_of_block (heap_setCell_other w6 _ _ _ hne)).trans t6;have HL6:=hide hL6;clear e6 hL6;refine ro hK ?_ fun _=>?_
       ·exact t6
       clear hK K;refine t2 9 ?_;refine t2 10 ?_;refine r1 11 rfl (fun K hK=>?_);go_simp;refine hK.out _ _ ?_ (fun _=>?_)
       ·exact t7
       clear hK K;try simp only [Act.put,List.getElem_toArray,List.getElem_cons_zero,List.getElem_cons_succ]
       refine dn ?_ _;go_wp2_with fail
       go_roundw
       case rel=>refine ⟨i+1,by omega,?_,by go_num,u1,u2,us,(.slice a6 (m+1) c6),by rw [(uh HS).2];exact uh HL6⟩;rw [(uh HS).1,setT_of];cases b<;>rfl
       case measure=>simp [intOf];omega
     ·have as1:=noSet_tell;have as2:=asTell;go_wp2_with (first | (go_at_call 85;refine (aTld _).mono ?_;rintro r ws ⟨rfl,hws⟩;replace hws:=hws.symm;subst hws))
      refine (iTld (uh HI)).mono ?_;rintro r wr2 ⟨rfl,hd⟩;obtain ⟨ad4,cp4,e4⟩:=own_form hd.ot;obtain ⟨m,hm⟩:∃ m,si.tl.length=m:=⟨_,rfl⟩;have e5:ut=(.slice ad4 m cp4):=by rw [← hm];exact e4
      subst e5;have hlen:m≤1000:=by have:=(uh HF).tl;omega
      have hb3:Below wr2.heap.size wr2 (wr2.alloc (.cells #[.string nTld] 135)):=(Below.refl _ _).alloc (Nat.le_refl _) _;have HD:=hide (And.intro (hd.step hb3) (heap_alloc_new wr2 (.cells #[.string nTld] 135)));clear hd hb3 e4;go_upto_region 16 with fail
      refine gen_world (fun z=>Lay 83 w0 q2 B c ({ si with e:=downE si.e }) u1 u2 us (.slice ad4 m cp4) z∧z.heap[wr2.heap.size]?=some (.cells #[.string nTld] 135)) ?_ ?_
      ·exact uh HD
      clear HD;rintro z ⟨hz,rz⟩;have kz:z.cell? ⟨wr2.heap.size,0,none⟩=some (.string nTld):=by rw [cr rz];rfl
      have c38:=hz.cell (i:=38) rfl;have HZ:=hide (And.intro (hz.step (Below.refl _ _).drew) rz);have hTl:wr2.heap.size<z.heap.size:=World.block_lt_of_cell? _ _ kz;have hBl:=hz.lt;clear hz rz;refine wp_region_held_drew (S:=fun z=>z.cell? ⟨wr2.heap.size,0,none⟩=some (.string nTld)) (by kernel_rfl) ?_ (fun hHeld=>?_)
      ·exact kz
      refine t2 0 ?_;refine t2 1 ?_;refine t2 2 ?_;refine t2 3 ?_;refine t2 5 ?_;refine t2 6 ?_;refine wpAnyH_ready (rs:=[4,7]) (by kernel_rfl) (by simp) ?_;refine AllReadyH.cons rfl (fun K hK=>?_) (AllReadyH.cons rfl (fun K hK=>?_) (AllReadyH.nil))
      ·have c38x:=c38;go_simp;refine ro hK ?_ fun _=>?_
       ·exact kz
       clear hK K;clear c38x;refine r1 7 rfl (fun K hK=>?_);rw [if_pos (by rfl)];refine wp_runI (v:=.slice (some ⟨z.heap.size,0,none⟩) 1 1) (w':=z.drew.alloc (.cells #[.string nTld] 9)) (by as_aux_lemma=>kernel_rfl) ?_;have hb4:Below z.heap.size z (z.drew.alloc (.cells #[.string nTld] 9)):=(Below.refl _ _).drew.alloc (Nat.le_refl _) _;have kz4:=(hb4.cell (p:=⟨wr2.heap.size,0,none⟩) hTl).trans kz;have c38b:=(hb4.cell (p:=⟨B,38,none⟩) hBl).trans c38;refine ro hK ?_ fun _=>?_
       ·exact kz4
       clear hK K;refine r1 8 rfl (fun K hK=>?_);rw [if_pos (by rfl)];refine appTxtO (w:=z.drew) _ _ rfl q2.heap.size (.slice ad4 m cp4) si.tl m rfl (hm ▸ (uh HZ).1.ot) nTld rfl (by omega) (uh HZ).1.nr.size ?_;rintro v6 w6 ho6 hg6;obtain ⟨a6,c6,rfl⟩:=own_form ho6;have e6:=(hg6.block B (Nat.lt_of_lt_of_le (uh HZ).1.lt (by simp)) (fun e=>(own_ty (uh HZ).1.ot (uh HZ).1.row (uh HZ).1.tt.2.2) e.symm)).trans ((Below.heap_alloc _ _ _ (uh HZ).1.lt).trans (uh HZ).1.row);have k6:w6.cell? ⟨B,38,none⟩=some (.slice ad4 m cp4):=by rw [cr e6];rfl
       have f6:w6.frozen? ⟨B,38,none⟩=false:=frz e6 38;have t6:w6.cell? ⟨wr2.heap.size,0,none⟩=some (.string nTld):=hg6.cell kz4 (fun e=>own_ty (uh HZ).1.ot (uh HZ).2 (by decide) e.symm);have hL6:=(uh HZ).1.say _ hg6 (.slice a6 (m+1) c6) (si.tl ++ [nTld]) (by rw [List.length_append,hm];exact ho6);have hne:¬ (wr2.heap.size=B):=fun e=>by have h1:=(uh HZ).2;rw [e] at h1;have h2:=(uh HZ).1.row;have h3:=h2.symm.trans (show z.drew.heap[B]?=_ from h1);injection h3 with h3;injection h3 with _ h3 _;exact absurd h3 (by decide)
       have t7:(w6.setCell ⟨B,38,none⟩ (.slice a6 (m+1) c6)).cell? ⟨wr2.heap.size,0,none⟩=some (.string nTld):=(World.cell?_of_block (heap_setCell_other w6 _ _ _ hne)).trans t6;have HL6:=hide hL6;clear e6 hL6;refine ro hK ?_ fun _=>?_
       ·exact t6
       clear hK K;refine t2 9 ?_;refine t2 10 ?_;refine r1 11 rfl (fun K hK=>?_);go_simp;refine hK.out _ _ ?_ (fun _=>?_)
       ·exact t7
       clear hK K;try simp only [Act.put,List.getElem_toArray,List.getElem_cons_zero,List.getElem_cons_succ]
       refine dn ?_ _;go_wp2_with fail
       go_roundw
       case rel=>refine ⟨i+1,by omega,?_,by go_num,u1,u2,us,(.slice a6 (m+1) c6),by rw [(uh HS).2];exact uh HL6⟩;rw [(uh HS).1,setT_of];cases b<;>rfl
       case measure=>simp [intOf];omega
      ·rw [if_pos (by rfl)];refine wp_runI (v:=.slice (some ⟨z.heap.size,0,none⟩) 1 1) (w':=z.drew.alloc (.cells #[.string nTld] 9)) (by as_aux_lemma=>kernel_rfl) ?_;have hb4:Below z.heap.size z (z.drew.alloc (.cells #[.string nTld] 9)):=(Below.refl _ _).drew.alloc (Nat.le_refl _) _;have kz4:=(hb4.cell (p:=⟨wr2.heap.size,0,none⟩) hTl).trans kz;have c38b:=(hb4.cell (p:=⟨B,38,none⟩) hBl).trans c38;refine ro hK ?_ fun _=>?_
       ·exact kz4
       clear hK K;refine r1 4 rfl (fun K hK=>?_);have c38x:=c38b;go_simp;refine ro hK ?_ fun _=>?_
       ·exact kz4
       clear hK K;clear c38x;refine r1 8 rfl (fun K hK=>?_);rw [if_pos (by rfl)];refine appTxtO (w:=z.drew) _ _ rfl q2.heap.size (.slice ad4 m cp4) si.tl m rfl (hm ▸ (uh HZ).1.ot) nTld rfl (by omega) (uh HZ).1.nr.size ?_;rintro v6 w6 ho6 hg6;obtain ⟨a6,c6,rfl⟩:=own_form ho6;have e6:=(hg6.block B (Nat.lt_of_lt_of_le (uh HZ).1.lt (by simp)) (fun e=>(own_ty (uh HZ).1.ot (uh HZ).1.row (uh HZ).1.tt.2.2) e.symm)).trans ((Below.heap_alloc _ _ _ (uh HZ).1.lt).trans (uh HZ).1.row);have k6:w6.cell? ⟨B,38,none⟩=some (.slice ad4 m cp4):=by rw [cr e6];rfl
       have f6:w6.frozen? ⟨B,38,none⟩=false:=frz e6 38;have t6:w6.cell? ⟨wr2.heap.size,0,none⟩=some (.string nTld):=hg6.cell kz4 (fun e=>own_ty (uh HZ).1.ot (uh HZ).2 (by decide) e.symm);have hL6:=(uh HZ).1.say _ hg6 (.slice a6 (m+1) c6) (si.tl ++ [nTld]) (by rw [List.length_append,hm];exact ho6);have hne:¬ (wr2.heap.size=B):=fun e=>by have h1:=(uh HZ).2;rw [e] at h1;have h2:=(uh HZ).1.row;have h3:=h2.symm.trans (show z.drew.heap[B]?=_ from h1);injection h3 with h3;injection h3 with _ h3 _;exact absurd h3 (by decide)
       have t7:(w6.setCell ⟨B,38,none⟩ (.slice a6 (m+1) c6)).cell? ⟨wr2.heap.size,0,none⟩=some (.string nTld):=(World.cell?_of_block (heap_setCell_other w6 _ _ _ hne)).trans t6;have HL6:=hide hL6;clear e6 hL6;refine ro hK ?_ fun _=>?_
       ·exact t6
       clear hK K;refine t2 9 ?_;refine t2 10 ?_;refine r1 11 rfl (fun K hK=>?_);go_simp;refine hK.out _ _ ?_ (fun _=>?_)
       ·exact t7
       clear hK K;try simp only [Act.put,List.getElem_toArray,List.getElem_cons_zero,List.getElem_cons_succ]
       refine dn ?_ _;go_wp2_with fail
       go_roundw
       case rel=>refine ⟨i+1,by omega,?_,by go_num,u1,u2,us,(.slice a6 (m+1) c6),by rw [(uh HS).2];exact uh HL6⟩;rw [(uh HS).1,setT_of];cases b<;>rfl
       case measure=>simp [intOf];omega
    ·have e:i=n:=by omega
     subst e;have d1:¬ ((i:Int)<(i:Int)):=by omega
     have eT:A.take i=A:=by rw [← hn,List.take_length]
     rw [eT] at hLi;rw [eT];have c12:=hLi.cell (i:=12) rfl;have f12:=hLi.frz 12;obtain ⟨y0,_⟩:=uh KY wr hLi.nr;have hfit:Fit i c (A.foldl (fun s a=>actF c a s) s):=by have:=(uh HP).1.fold A i;rw [eT] at this;exact this
     have h3:=hLi.setRaw 12 (.int .i64 st') { (A.foldl (fun s a=>actF c a s) s).e with st:=st' } rfl;have CD:=hide (iDue h3 (A.any setT) hfit.now);have HX3:Hid (∀ z,Nr B q2 z→z.heap[X]?=some (.cells eoZ 42)):=hide fun z hz=>(hz.block X (ge.1 (uh HQ2).2.1).1 (by omega)).trans (uh HQ2).2.1
     have hdue:=dueE_end c A st' (A.foldl (fun s a=>actF c a s) s).e hfit.du;dsimp only at CD;rw [hdue] at CD;obtain ⟨S,hS⟩:∃ S:St,{ (A.foldl (fun s a=>actF c a s) s) with e:=endE c A st' (A.foldl (fun s a=>actF c a s) s).e }=S:=⟨_,rfl⟩;have HS:Hid (S={ (A.foldl (fun s a=>actF c a s) s) with e:=endE c A st' (A.foldl (fun s a=>actF c a s) s).e }):=hide hS.symm;rw [hS] at CD;clear hLi h3 KT hS HP hfit hdue;go_wp2_with fail
     refine (uh CD).mono ?_;rintro r wr3 ⟨rfl,h4⟩;have H4:=hide (And.intro h4 (uh HX3 _ h4.nr));clear h4;go_upto_region 20 with fail
     refine gen_world (fun z=>Lay 83 w0 q2 B c S u1 u2 us ut z∧z.heap[X]?=some (.cells eoZ 42)) ?_ ?_
     ·exact uh H4
     clear H4 CD c12 f12 y0 HX3;rintro z ⟨hz,hX⟩;obtain ⟨a1,p1,e1⟩:=own_form hz.o1;obtain ⟨a2,p2,e2⟩:=own_form hz.o2;obtain ⟨a3,p3,e3⟩:=own_form hz.os;obtain ⟨a4,p4,e4⟩:=own_form hz.ot;subst e1 e2 e3 e4;have c37:=hz.cell (i:=37) rfl;have c38:=hz.cell (i:=38) rfl;have hrg:=range_lay hz;have hall:=eoC_all S.e a1 a2 a3 a4 S.F1.length S.F2.length S.sn.length S.tl.length p1 p2 p3 p4 0;have HZ:=hide (And.intro hz hX);clear hz hX;refine wp_region_held_drew (S:=fun z=>z.rangeAt B 0 (enC S.e (.slice a1 S.F1.length p1) (.slice a2 S.F2.length p2)).toList∧z.cell? ⟨B,37,none⟩=some (.slice a3 S.sn.length p3)∧z.cell? ⟨B,38,none⟩=some (.slice a4 S.tl.length p4)) (by kernel_rfl) ?_ (fun hHeld=>?_)
     ·exact ⟨hrg,c37,c38⟩
     refine t2 0 ?_;refine t2 1 ?_;refine t2 2 ?_;refine t4 3 (.agg (enC S.e (.slice a1 S.F1.length p1) (.slice a2 S.F2.length p2))) rfl (yieldsIf_load_mid (by rfl) 29 (.tmp 69) rfl B 0 rfl (enC S.e (.slice a1 S.F1.length p1) (.slice a2 S.F2.length p2)).toList _ (fun z hz=>hz.1) underlying29 rfl infoE) ?_;try simp only [Act.put,sA,sZ,sS,gA,gZ,gS]
     refine t2 4 ?_;refine t2 5 ?_;refine t2 6 ?_;refine t2 7 ?_;refine t2 8 ?_;refine t2 9 ?_;refine t2 10 ?_;refine t2 11 ?_;refine t4 12 (.agg (eoC S.e (.slice a1 S.F1.length p1) (.slice a2 S.F2.length p2) (.slice a3 S.sn.length p3) (.slice a4 S.tl.length p4) 0)) rfl (Or.inl ⟨by rfl,fun _ _=>by kernel_rfl⟩) ?_;try simp only [Act.put,sA,sZ,sS,gA,gZ,gS]
     refine r1 13 rfl (fun K hK=>?_);rw [if_pos (by rfl)];refine wp_store_row 42 (.tmp 4) (.tmp 79) rfl X (eoC S.e (.slice a1 S.F1.length p1) (.slice a2 S.F2.length p2) (.slice a3 S.sn.length p3) (.slice a4 S.tl.length p4) 0) rfl rfl 42 eoZ (uh HZ).2 infoEo rfl hall ?_;have bX:Below X z (z.setRow X (eoC S.e (.slice a1 S.F1.length p1) (.slice a2 S.F2.length p2) (.slice a3 S.sn.length p3) (.slice a4 S.tl.length p4) 0)):=below_row (Below.refl _ _) (Nat.le_refl _) _;refine hK.out _ _ ?_ (fun _=>?_)
     ·refine ⟨fun j v hv=>(bX.cell (p:=⟨B,0+j,none⟩) hBX).trans (hrg j v hv),(bX.cell (p:=⟨B,37,none⟩) hBX).trans c37,(bX.cell (p:=⟨B,38,none⟩) hBX).trans c38⟩
     clear hK K;try simp only [Act.put]
     refine dn ?_ _;go_wp2
     refine bodyPost_ret (v:=.agg (eoC S.e (.slice a1 S.F1.length p1) (.slice a2 S.F2.length p2) (.slice a3 S.sn.length p3) (.slice a4 S.tl.length p4) 0)) (by simp [results,results41,asAddr,loadEo (setRow_heap z.drew X _ (eoC S.e (.slice a1 S.F1.length p1) (.slice a2 S.F2.length p2) (.slice a3 S.sn.length p3) (.slice a4 S.tl.length p4) 0) _ _ (uh HZ).2)]) rfl ?_;obtain ⟨hz0,hX⟩:=uh HZ;have hz:=hz0.step (Below.refl _ _).drew;have hXd:z.drew.heap[X]?=some (.cells eoZ 42):=hX;have hs:=hz.lo.size;have hSS:=uh HS;clear HZ HS hHeld hrg c37 c38 hall hz0 bX;subst hSS;refine ⟨_,_,_,_,?_,own_setRow hz.o1 hXd (by decide),own_setRow hz.o2 hXd (by decide),own_mono (own_setRow hz.os hXd (by decide)) hs,own_mono (own_setRow hz.ot hXd (by decide)) hs,hz.ap,hz.low.trans (below_row (Below.refl _ _) (Nat.le_of_lt (Nat.lt_of_le_of_lt hz.hB hBX)) _)⟩;rfl
  ·have hcn:(cd != 0)=true:=by simpa using hcd
   have hall:(eoC enZero (.slice none 0 0) (.slice none 0 0) (.slice none 0 0) (.slice none 0 0) cd).all (·.oneCell')=true:=eoC_all _ _ _ _ _ _ _ _ _ _ _ _ _ _
   go_wp2_with (first
    | (refine wpList_buildTo rfl 42 _ rfl (some 26) rfl (eoC enZero (.slice none 0 0) (.slice none 0 0) (.slice none 0 0) (.slice none 0 0) cd) (by as_aux_lemma=>kernel_rfl) ?_)
    | (refine wpList_store_rowTo rfl 42 (.tmp 4) (.tmp 26) rfl rfl X (eoC enZero (.slice none 0 0) (.slice none 0 0) (.slice none 0 0) (.slice none 0 0) cd) rfl rfl 42 eoZ (uh HQ2).2.1 infoEo rfl hall ?_))
   refine bodyPost_ret (v:=.agg (eoC enZero (.slice none 0 0) (.slice none 0 0) (.slice none 0 0) (.slice none 0 0) cd)) (by simp [results,results41,asAddr,loadEo (setRow_heap q2 X _ (eoC enZero (.slice none 0 0) (.slice none 0 0) (.slice none 0 0) (.slice none 0 0) cd) _ _ (uh HQ2).2.1)]) rfl ?_;exact evErr ((uh HQ2).1.low.trans (below_row (Below.refl _ _) (by have:=(uh HQ2).1.hB;omega) _)) cd
end Go.Proofs.YtahpjlbaagkdoaaGreatDoor
