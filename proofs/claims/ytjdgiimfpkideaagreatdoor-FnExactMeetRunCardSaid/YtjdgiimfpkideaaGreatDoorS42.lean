/- MtT MtU -/
import Derived.Test.YtjdgiimfpkideaaGreatDoorS39
set_option maxHeartbeats 4000000
set_option maxRecDepth 100000
namespace Go.Proofs.YtjdgiimfpkideaaGreatDoor
open Go.RowKit Go.Proofs.Tryz
structure Ml (base:Nat) (W:World) (B:Nat) (m:Mw) (ca:List Value) (va:Value) (cb:List Value) (vb:Value):Prop where
 row:W.heap[B]?=some (.cells (ca ++ cb ++ [va] ++ [vb] ++ [Value.int .i64 m.now]).toArray 70)
 ea:EnM base W ca m.a
 eb:EnM base W cb m.b
 ha:HoldsK W base va m.a.ln
 hb:HoldsK W base vb m.b.ln
 la:m.a.ln.length≤40
 lb:m.b.ln.length≤40
 sp:∀ g,va.ownBlock=some g→vb.ownBlock≠some g
 bs:base≤W.heap.size
 bB:base≤B
def ML (base B:Nat) (m:Mw) (W:World):Prop:=∃ ca va cb vb,Ml base W B m ca va cb vb
section
variable {base:Nat} {W W':World} {B:Nat} {m:Mw} {ca cb:List Value} {va vb va' vb':Value}
theorem Ml.wa (h:Ml base W B m ca va cb vb):Wr base 70 W B (ca ++ cb) [vb,Value.int .i64 m.now] va m.a.ln :=
 ⟨by rw [h.row];simp,h.ha,h.la,h.bs,by decide⟩
theorem Ml.wb (h:Ml base W B m ca va cb vb):Wr base 70 W B (ca ++ cb ++ [va]) [Value.int .i64 m.now] vb m.b.ln :=
 ⟨by rw [h.row],h.hb,h.lb,h.bs,by decide⟩
theorem Ml.len (h:Ml base W B m ca va cb vb):(ca ++ cb).length=60∧(ca ++ cb ++ [va]).length=61∧(ca ++ cb ++ [va] ++ [vb]).length=62:=by
 simp [h.ea.len,h.eb.len]
theorem Ml.f1 (h:Ml base W B m ca va cb vb):W.heap[B]?=some (.cells ([] ++ ca ++ (cb ++ [va] ++ [vb] ++ [Value.int .i64 m.now])).toArray 70):=by rw [h.row];simp
theorem Ml.f2 (h:Ml base W B m ca va cb vb):W.heap[B]?=some (.cells (ca ++ cb ++ ([va] ++ [vb] ++ [Value.int .i64 m.now])).toArray 70):=by rw [h.row];simp
theorem Ml.f3 (h:Ml base W B m ca va cb vb):W.heap[B]?=some (.cells (ca ++ cb ++ [va] ++ [vb] ++ [Value.int .i64 m.now] ++ []).toArray 70):=by rw [h.row];simp
theorem Ml.cells (h:Ml base W B m ca va cb vb):W.rangeAt B 0 ca∧W.rangeAt B 30 cb∧W.cell? ⟨B,60,none⟩=some va∧W.cell? ⟨B,61,none⟩=some vb∧W.cell? ⟨B,62,none⟩=some (.int .i64 m.now):=by
 obtain ⟨l1,l2,l3⟩:=h.len;refine ⟨?_,?_,?_,?_,?_⟩
 ·have:=aS (X:=[]) (Y:=ca) (Z:=cb ++ [va] ++ [vb] ++ [Value.int .i64 m.now]) h.f1
  exact this
 ·have:=aS (X:=ca) (Y:=cb) (Z:=[va] ++ [vb] ++ [Value.int .i64 m.now]) h.f2
  rw [h.ea.len] at this;exact this
 ·have:=bI h.wa.row
  rwa [l1] at this
 ·have:=bI h.wb.row
  rwa [l2] at this
 ·have:=bI (X:=ca ++ cb ++ [va] ++ [vb]) (v:=Value.int .i64 m.now) (Z:=[]) h.f3
  rwa [l3] at this
theorem Ml.fz (h:Ml base W B m ca va cb vb) (k:Nat):W.frozen? ⟨B,k,none⟩=false:=aX h.row k
theorem Ml.nty (h:Ml base W B m ca va cb vb) (g:Nat) (cur:Array Value) (T:TypeId) (hT:T≠70) (hg:W.heap[g]?=some (.cells cur T)):g≠B:=fun e=>by
 rw [e,h.row] at hg;injection hg with hg;injection hg with _ hg;exact hT hg.symm
theorem Ml.below (h:Ml base W B m ca va cb vb) (hb:Below W.heap.size W W'):Ml base W' B m ca va cb vb :=
 ⟨(hb.block B h.wa.lt).trans h.row,h.ea.keep fun g _ hg=>hb.block g (ge.1 hg).1,h.eb.keep fun g _ hg=>hb.block g (ge.1 hg).1,h.ha.below hb,h.hb.below hb,h.la,h.lb,h.sp,zE h.bs hb.size,h.bB⟩
theorem Ml.endA (h:Ml base W B m ca va cb vb) {c:List Value} {s:Sd} (he:EnM base W c s) (hl:s.ln=m.a.ln):Ml base (W.setCells B 0 c) B ⟨s,m.b,m.now⟩ c va cb vb∧Below base W (W.setCells B 0 c):=by
 have hbl:Below base W (W.setCells B 0 c):=cM h.bB c 0 W (zC _ _);have r:=cH ca c [] (cb ++ [va] ++ [vb] ++ [Value.int .i64 m.now]) W h.f1 (by rw [he.len,h.ea.len]);have ko:∀ (g:Nat) (cur:Array Value),W.heap[g]?=some (.cells cur 105)→(W.setCells B 0 c).heap[g]?=W.heap[g]?:=fun g cur hg=>bu (h.nty g cur _ (by decide) hg) c 0 W
 have kp:∀ (g:Nat) (cur:Array Value),W.heap[g]?=some (.cells cur 85)→(W.setCells B 0 c).heap[g]?=W.heap[g]?:=fun g cur hg=>bu (h.nty g cur _ (by decide) hg) c 0 W
 refine ⟨⟨?_,he.keep ko,h.eb.keep ko,?_,h.hb.keep fun g cur _ _ hg=>kp g cur hg,by rw [hl];exact h.la,h.lb,h.sp,zE h.bs hbl.size,h.bB⟩,hbl⟩
 ·refine Eq.trans r ?_;simp
 ·rw [hl];exact h.ha.keep fun g cur _ _ hg=>kp g cur hg
theorem Ml.endB (h:Ml base W B m ca va cb vb) {c:List Value} {s:Sd} (he:EnM base W c s) (hl:s.ln=m.b.ln):Ml base (W.setCells B 30 c) B ⟨m.a,s,m.now⟩ ca va c vb∧Below base W (W.setCells B 30 c):=by
 have hbl:Below base W (W.setCells B 30 c):=cM h.bB c 30 W (zC _ _);have r:=cH cb c ca ([va] ++ [vb] ++ [Value.int .i64 m.now]) W h.f2 (by rw [he.len,h.eb.len]);rw [h.ea.len] at r;have ko:∀ (g:Nat) (cur:Array Value),W.heap[g]?=some (.cells cur 105)→(W.setCells B 30 c).heap[g]?=W.heap[g]?:=fun g cur hg=>bu (h.nty g cur _ (by decide) hg) c 30 W
 have kp:∀ (g:Nat) (cur:Array Value),W.heap[g]?=some (.cells cur 85)→(W.setCells B 30 c).heap[g]?=W.heap[g]?:=fun g cur hg=>bu (h.nty g cur _ (by decide) hg) c 30 W
 refine ⟨⟨?_,h.ea.keep ko,he.keep ko,h.ha.keep fun g cur _ _ hg=>kp g cur hg,?_,h.la,by rw [hl];exact h.lb,h.sp,zE h.bs hbl.size,h.bB⟩,hbl⟩
 ·refine Eq.trans r ?_;simp
 ·rw [hl];exact h.hb.keep fun g cur _ _ hg=>kp g cur hg
theorem Ml.lineA (h:Ml base W B m ca va cb vb) {y:World} {v':Value} {L:List Op.Pk} (gw:Gw va v' W y) (hk:HoldsK y base v' L) (le:L.length≤40):Ml base (y.setCell ⟨B,60,none⟩ v') B ⟨dN m.a L,m.b,m.now⟩ ca v' cb vb∧Below base W (y.setCell ⟨B,60,none⟩ v'):=by
 have hBy:=gw.at B h.wa.lt fun e=>(h.wa.ownB B e).1 rfl
 have hlow:=gw.low (fun g hg=>(h.wa.ownB g hg).2.1) h.bs;have hbl:Below base W (y.setCell ⟨B,60,none⟩ v'):=hlow.setCell (p:=⟨B,60,none⟩) h.bB v';have r:=cH [va] [v'] (ca ++ cb) [vb,Value.int .i64 m.now] y (hBy.trans h.wa.row) rfl;rw [h.len.1] at r;have st:∀ (g:Nat) (cur:Array Value) (T:TypeId),T≠70→va.ownBlock≠some g→W.heap[g]?=some (.cells cur T)→(y.setCell ⟨B,60,none⟩ v').heap[g]?=W.heap[g]?:=fun g cur T hT hv hg =>
  (heap_setCell_other _ ⟨B,60,none⟩ _ _ (h.nty g cur T hT hg)).trans (gw.at g (ge.1 hg).1 hv)
 have ko:∀ (g:Nat) (cur:Array Value),W.heap[g]?=some (.cells cur 105)→(y.setCell ⟨B,60,none⟩ v').heap[g]?=W.heap[g]?:=fun g cur hg=>st g cur _ (by decide) (fun e=>by
  obtain ⟨_,_,_,c,h2⟩:=h.wa.ownB g e;rw [hg] at h2;injection h2 with h2;injection h2 with _ h2;exact absurd h2 (by decide)) hg
 refine ⟨⟨?_,(h.ea.keep ko).ln L,h.eb.keep ko,hk.keep fun g cur _ _ hg=>heap_setCell_other _ ⟨B,60,none⟩ _ _ fun (e:g=B)=>?_,h.hb.keep fun g cur hg _ hc=>st g cur _ (by decide) (fun e=>h.sp g e hg) hc,le,h.lb,fun g hg e=>?_,zE h.bs hbl.size,h.bB⟩,hbl⟩
 ·refine Eq.trans r ?_;simp
 ·rw [e,hBy,h.row] at hg;injection hg with hg;injection hg with _ hg;exact absurd hg (by decide)
 ·rcases (gw 0).own g hg with e1 | e1
  ·exact h.sp g e1 e
  ·have:=(h.wb.ownB g e).2.2.1;omega
theorem Ml.lineB (h:Ml base W B m ca va cb vb) {y:World} {v':Value} {L:List Op.Pk} (gw:Gw vb v' W y) (hk:HoldsK y base v' L) (le:L.length≤40):Ml base (y.setCell ⟨B,61,none⟩ v') B ⟨m.a,dN m.b L,m.now⟩ ca va cb v'∧Below base W (y.setCell ⟨B,61,none⟩ v'):=by
 have hBy:=gw.at B h.wb.lt fun e=>(h.wb.ownB B e).1 rfl
 have hlow:=gw.low (fun g hg=>(h.wb.ownB g hg).2.1) h.bs;have hbl:Below base W (y.setCell ⟨B,61,none⟩ v'):=hlow.setCell (p:=⟨B,61,none⟩) h.bB v';have r:=cH [vb] [v'] (ca ++ cb ++ [va]) [Value.int .i64 m.now] y (hBy.trans h.wb.row) rfl;rw [h.len.2.1] at r;have st:∀ (g:Nat) (cur:Array Value) (T:TypeId),T≠70→vb.ownBlock≠some g→W.heap[g]?=some (.cells cur T)→(y.setCell ⟨B,61,none⟩ v').heap[g]?=W.heap[g]?:=fun g cur T hT hv hg =>
  (heap_setCell_other _ ⟨B,61,none⟩ _ _ (h.nty g cur T hT hg)).trans (gw.at g (ge.1 hg).1 hv)
 have ko:∀ (g:Nat) (cur:Array Value),W.heap[g]?=some (.cells cur 105)→(y.setCell ⟨B,61,none⟩ v').heap[g]?=W.heap[g]?:=fun g cur hg=>st g cur _ (by decide) (fun e=>by
  obtain ⟨_,_,_,c,h2⟩:=h.wb.ownB g e;rw [hg] at h2;injection h2 with h2;injection h2 with _ h2;exact absurd h2 (by decide)) hg
 refine ⟨⟨?_,h.ea.keep ko,(h.eb.keep ko).ln L,h.ha.keep fun g cur hg _ hc=>st g cur _ (by decide) (fun e=>h.sp g hg e) hc,hk.keep fun g cur _ _ hg=>heap_setCell_other _ ⟨B,61,none⟩ _ _ fun (e:g=B)=>?_,h.la,le,fun g hg e=>?_,zE h.bs hbl.size,h.bB⟩,hbl⟩
 ·refine Eq.trans r ?_;simp
 ·rw [e,hBy,h.row] at hg;injection hg with hg;injection hg with _ hg;exact absurd hg (by decide)
 ·rcases (gw 0).own g e with e1 | e1
  ·exact h.sp g hg e1
  ·have:=(h.wa.ownB g hg).2.2.1;omega
theorem Ml.time (h:Ml base W B m ca va cb vb) (t:Int):Ml base (W.setCell ⟨B,62,none⟩ (.int .i64 t)) B ⟨m.a,m.b,t⟩ ca va cb vb∧Below base W (W.setCell ⟨B,62,none⟩ (.int .i64 t)):=by
 have hbl:=(zC base W).setCell (p:=⟨B,62,none⟩) h.bB (.int .i64 t);have r:=cH [Value.int .i64 m.now] [Value.int .i64 t] (ca ++ cb ++ [va] ++ [vb]) [] W h.f3 rfl;rw [h.len.2.2] at r;have ot:∀ (g:Nat) (cur:Array Value) (T:TypeId),T≠70→W.heap[g]?=some (.cells cur T)→(W.setCell ⟨B,62,none⟩ (.int .i64 t)).heap[g]?=W.heap[g]?:=fun g cur T hT hg=>heap_setCell_other _ ⟨B,62,none⟩ _ _ (h.nty g cur T hT hg)
 refine ⟨⟨?_,h.ea.keep fun g cur hg=>ot g cur _ (by decide) hg,h.eb.keep fun g cur hg=>ot g cur _ (by decide) hg,h.ha.keep fun g cur _ _ hg=>ot g cur _ (by decide) hg,h.hb.keep fun g cur _ _ hg=>ot g cur _ (by decide) hg,h.la,h.lb,h.sp,zE h.bs hbl.size,h.bB⟩,hbl⟩;refine Eq.trans r ?_;simp
theorem Ml.there (h:Ml base W B m ca va cb vb):W.there B 0 30∧W.there B 30 30:=by
 have l1:=h.ea.len;have l2:=h.eb.len;refine ⟨?_,?_⟩
 ·have:=ii (X:=[]) (Y:=ca) (Z:=cb ++ [va] ++ [vb] ++ [Value.int .i64 m.now]) h.f1
  rw [l1] at this;exact this
 ·have:=ii (X:=ca) (Y:=cb) (Z:=[va] ++ [vb] ++ [Value.int .i64 m.now]) h.f2
  rw [l1,l2] at this;exact this
end
theorem yh {b:Nat} {W:World} {ca:List Value} {s:Sd} (h:EnM b W ca s) (t:ByteArray) (now:Int):Calls prog 29 #[.agg ca.toArray,.string t,.int .i64 now] W fun r q=>vB W (kC s.e s.F1 s.F2 t now) r q:=by
 obtain ⟨x1,x2,y1,y2,rfl,o1,o2,_,l1,l2⟩:=h;rw [Array.toArray_toList];exact (u9 s.e x1 x2 y1 y2 s.F1 s.F2 t now W (by omega) (by omega) (HoldsO.own o1) (HoldsO.own o2)).mono fun r q hq=>AnE.of hq
theorem tO {b:Nat} {W:World} {ca:List Value} {s:Sd} (h:EnM b W ca s) (now:Int):Calls prog 55 #[.agg ca.toArray,.int .i64 now] W fun r q=>vB W (dq s.e s.F1 s.F2 now) r q:=by
 obtain ⟨x1,x2,y1,y2,rfl,o1,o2,_,l1,l2⟩:=h;rw [Array.toArray_toList];exact (qk s.e x1 x2 y1 y2 s.F1 s.F2 now W (by omega) (by omega) (HoldsO.own o1) (HoldsO.own o2)).mono fun r q hq=>AnE.of hq
theorem tP {b:Nat} {W:World} {ca:List Value} {s:Sd} (h:EnM b W ca s) (p:Op.Pk) (now:Int):Calls prog 54 #[.agg ca.toArray,.agg #[.int .i64 p.code,.int .i64 p.id,.string p.data],.int .i64 now] W fun r q=>vB W (bn s.e s.F1 s.F2 p now) r q:=by
 obtain ⟨x1,x2,y1,y2,rfl,o1,o2,_,l1,l2⟩:=h;rw [Array.toArray_toList];exact (qT s.e x1 x2 y1 y2 s.F1 s.F2 p now W (by omega) (by omega) (HoldsO.own o1) (HoldsO.own o2)).mono fun r q hq=>AnE.of hq
theorem kI {base:Nat} {W q:World} {B:Nat} {m:Mw} {ca cb:List Value} {va vb:Value} (h:Ml base W B m ca va cb vb) {o:EO} (hK:ve o) {cl:List Value} {vs:Value} (hA:AnE W.heap.size q o cl vs) (hf:∀ g,vs.ownBlock=some g→W.heap.size≤g) (hb:Below W.heap.size W q) :
  Calls prog 28 #[.pointer (some ⟨B,0,none⟩),.agg cl.toArray,.bool true] q fun e W'=>e=.returned (.tuple #[])∧∃ c' v',Ml base W' B ⟨be m.a o,m.b,m.now⟩ c' v' cb vb∧Fr B va v' W W':=by
 obtain ⟨ad,cp,hv⟩:=h.ha.form;subst hv;obtain ⟨a3,c3,hvs⟩:=hA.form;subst hvs;have hb1:Below q.heap.size q (q.alloc (.cells cl.toArray 74)):=(zC _ _).alloc (zD _) _;have hWq:=hb.size;have h1:=(h.below hb).below hb1;have hE:=zF q (.cells cl.toArray 74);have f1:Fr B (.slice ad m.a.ln.length cp) (.slice ad m.a.ln.length cp) W (q.alloc (.cells cl.toArray 74)):=(Fr.of_below hb).trans (Fr.of_below hb1);have hBq:B<q.heap.size:=Nat.lt_of_lt_of_le h.wa.lt hWq;have hc1:(q.alloc (.cells cl.toArray 74)).cell? ⟨q.heap.size,32,none⟩=some (.int .i64 o.cd):=by rw [cr hE,List.getElem?_toArray];exact hA.cd.1
 have hlen:=hA.len;have l30:(cl.take 30).length=30:=by rw [List.length_take];omega
 by_cases h0:o.cd=0
 ·have hEn:EnM base (q.alloc (.cells cl.toArray 74)) (cl.take 30) ⟨o.e,o.F1,o.F2,m.a.ln⟩:=(hA.en hK.2 m.a.ln h.bs).keep fun g cur hg=>hb1.block g (ge.1 hg).1
  obtain ⟨h2,hb2⟩:=h1.endA hEn rfl;have f2:=f1.trans (Fr.cells (B:=B) _ _ (q.alloc (.cells cl.toArray 74)) (fun _ hg=>Or.inl hg) 0 (cl.take 30));have hE2:=(bu (g:=B) (k:=q.heap.size) (by omega) (cl.take 30) 0 (q.alloc (.cells cl.toArray 74))).trans hE;have hp2:HoldsP ((q.alloc (.cells cl.toArray 74)).setCells B 0 (cl.take 30)) (.slice a3 o.sn.length c3) o.sn:=hA.hp.imp id fun ⟨g,cp',cur,e,q1,q2⟩=>⟨g,cp',cur,e,(bu ((h1.nty g cur _ (by decide) ((hb1.block g (ge.1 q1).1).trans q1))) (cl.take 30) 0 _).trans ((hb1.block g (ge.1 q1).1).trans q1),q2⟩
  have hs2:W.heap.size≤((q.alloc (.cells cl.toArray 74)).setCells B 0 (cl.take 30)).heap.size:=f2.size;have h3:(cl.take 30).toArray.all (·.oneCell')=true:=all_oneCell_toArray fun v hv=>Array.all_eq_true_iff_forall_mem.1 hA.one v (by simpa using List.mem_of_mem_take hv)
  have rA:(q.alloc (.cells cl.toArray 74)).rangeAt q.heap.size 0 (cl.take 30):=by
   have hA':=hE;rw [(List.take_append_drop 30 cl).symm,← List.nil_append (cl.take 30)] at hA';have:=aS hA'
   simpa using this
  have RA:=aa rA;have TB:=aa h1.there;clear rA;have HZ:Hid (Ml base ((q.alloc (.cells cl.toArray 74)).setCells B 0 (cl.take 30)) B ⟨⟨o.e,o.F1,o.F2,m.a.ln⟩,m.b,m.now⟩ (cl.take 30) (.slice ad m.a.ln.length cp) cb vb∧((q.alloc (.cells cl.toArray 74)).setCells B 0 (cl.take 30)).heap[q.heap.size]?=some (.cells cl.toArray 74)∧HoldsP ((q.alloc (.cells cl.toArray 74)).setCells B 0 (cl.take 30)) (.slice a3 o.sn.length c3) o.sn∧Fr B (.slice ad m.a.ln.length cp) (.slice ad m.a.ln.length cp) W ((q.alloc (.cells cl.toArray 74)).setCells B 0 (cl.take 30))):=aa ⟨h2,hE2,hp2,f2⟩;have hap:∀ g,(Value.slice a3 o.sn.length c3).ownBlock=some g→(Value.slice ad m.a.ln.length cp).ownBlock≠some g:=fun g hg e=>by
   have h4:=hf g hg;have h5:=(h.wa.ownB g e).2.2.1;omega
  have HAP:=aa hap;have HSN:Hid (o.sn.length≤1000):=aa (zE hK.2.l3 (by decide));have HCD:=aa hA.cd.2;have hfol:Hid (be m.a o=dN ⟨o.e,o.F1,o.F2,m.a.ln⟩ ((m.a.ln ++ o.sn).take 40)):=aa (by unfold be;rw [if_pos h0];rfl);rw [h0] at hc1;clear h h1 h2 hb hb1 hb2 f1 f2 hE hE2 hp2 hEn hA hf hap hK h0 hBq hs2 hWq;go_enter func28,ntmps28
  refine wp_seq_k fun K hK=>?_
  apply wp_region_lit
  refine Great.wpList_allocTo rfl (some 4) rfl (.pointer (some ⟨q.heap.size,0,none⟩)) (.cells cl.toArray 74) (by simp [go_sem]) ?_;refine hK _ _ ?_;clear hK K;simp only [Act.put,sA,sZ,sS]
  go_upto_region 4 with (first
   | (refine wpList_load_mid rfl 32 (.tmp 11) rfl q.heap.size 0 rfl (cl.take 30) _ (uh RA) underlying32 rfl (by rw [l30];exact aL) ?_)
   | (refine wpList_store_mid rfl 32 (.tmp 14) (.tmp 12) rfl B 0 (cl.take 30).toArray rfl rfl (by rw [List.size_toArray,l30];exact (uh TB).1) (by rw [List.size_toArray,l30];exact aL) h3 ?_))
  refine ab (fun z=>Ml base z B ⟨⟨o.e,o.F1,o.F2,m.a.ln⟩,m.b,m.now⟩ (cl.take 30) (.slice ad m.a.ln.length cp) cb vb∧z.heap[q.heap.size]?=some (.cells cl.toArray 74)∧HoldsP z (.slice a3 o.sn.length c3) o.sn∧Fr B (.slice ad m.a.ln.length cp) (.slice ad m.a.ln.length cp) W z) (uh HZ) ?_;rintro z hz;clear HZ hc1 RA TB h3;have HY9:Hid (Ml base z.drew B ⟨⟨o.e,o.F1,o.F2,m.a.ln⟩,m.b,m.now⟩ (cl.take 30) (.slice ad m.a.ln.length cp) cb vb∧z.drew.heap[q.heap.size]?=some (.cells cl.toArray 74)∧HoldsP z.drew (.slice a3 o.sn.length c3) o.sn∧Fr B (.slice ad m.a.ln.length cp) (.slice ad m.a.ln.length cp) W z.drew):=aa ⟨hz.1.below (zC _ _).drew,hz.2.1,hz.2.2.1,hz.2.2.2.trans (Fr.of_below (zC _ _).drew)⟩;clear hz;refine wp_region_held_drew (S:=fun _=>True) (by kernel_rfl) trivial (fun hHeld=>?_);generalize z.drew=y at HY9 ⊢;have HY:Hid (y.cell? ⟨B,60,none⟩=some (.slice ad m.a.ln.length cp)∧y.cell? ⟨q.heap.size,30,none⟩=some (.slice a3 o.sn.length c3)):=aa ⟨(uh HY9).1.cells.2.2.1,by rw [cr (uh HY9).2.1,List.getElem?_toArray];exact (uh HCD)⟩;have CP:=aa (tM (uh HY9).1.ha (uh HY9).2.2.1 (uh HY9).1.la (uh HSN) (uh HAP) (uh HY9).1.bs);have HF:=aa fun (y7:World) (v7:Value) (k1:HoldsK y7 base v7 ((m.a.ln ++ o.sn).take 40)) (k2:Gw (.slice ad m.a.ln.length cp) v7 y y7)=>show y7.cell? ⟨B,60,none⟩=some (.slice ad m.a.ln.length cp)∧y7.frozen? ⟨B,60,none⟩=false∧∃ c' v',Ml base (y7.setCell ⟨B,60,none⟩ v7) B ⟨be m.a o,m.b,m.now⟩ c' v' cb vb∧Fr B (.slice ad m.a.ln.length cp) v' W (y7.setCell ⟨B,60,none⟩ v7) from by
   have hM:=(uh HY9).1;have hBy:=k2.at B hM.wa.lt fun e=>(hM.wa.ownB B e).1 rfl
   have g1:=(hM.lineA k2 k1 (by rw [List.length_take];omega)).1;rw [uh hfol];refine ⟨?_,aX (hBy.trans hM.row) _,_,v7,g1,(uh HY9).2.2.2.trans ((k2 B).trans (Fr.cells v7 v7 y7 (fun _ hg=>Or.inl hg) 60 [v7]))⟩;have:=hM.cells.2.2.1
   unfold World.cell? at this ⊢;rw [hBy];exact this
  clear HY9 HCD HAP hfol HSN;generalize q.heap.size=E at *;refine tq 0 1 2 3 ?_;refine t2 5 ?_;refine r4 4 6 (fun K hK=>?_) (fun K hK=>?_)
  ·have cx:=(uh HY).1;go_simp;refine ro hK trivial fun _=>?_
   clear hK K;clear cx;refine r3 6 fun K hK=>?_
   have cy:=(uh HY).2;go_simp;refine ro hK trivial fun _=>?_
   clear hK K;clear cy;refine r3 7 fun K hK=>?_
   go_simp;refine (uh CP).mono ?_;rintro e y7 ⟨v7,rfl,k1,k2⟩;obtain ⟨a7,c7,e7⟩:=k1.form;obtain ⟨n7,e9⟩:∃ n7,((m.a.ln ++ o.sn).take 40).length=n7:=⟨_,rfl⟩;rw [e9] at e7;clear e9;subst e7;have H7:=aa (uh HF y7 _ k1 k2);clear k1 k2 CP HF;refine ro hK trivial fun _=>?_
   clear hK K;refine tt 8 9 ?_;refine r3 10 fun K hK=>?_
   obtain ⟨cx,fx,_⟩:=uh H7;go_simp;refine ro hK trivial fun _=>?_
   clear hK K;refine dn ?_ _;go_wp2
   refine zI ?_;exact ⟨rfl,(uh H7).2.2⟩
  ·have cy:=(uh HY).2;go_simp;refine ro hK trivial fun _=>?_
   clear hK K;clear cy;refine r3 4 fun K hK=>?_
   have cx:=(uh HY).1;go_simp;refine ro hK trivial fun _=>?_
   clear hK K;clear cx;refine r3 7 fun K hK=>?_
   go_simp;refine (uh CP).mono ?_;rintro e y7 ⟨v7,rfl,k1,k2⟩;obtain ⟨a7,c7,e7⟩:=k1.form;obtain ⟨n7,e9⟩:∃ n7,((m.a.ln ++ o.sn).take 40).length=n7:=⟨_,rfl⟩;rw [e9] at e7;clear e9;subst e7;have H7:=aa (uh HF y7 _ k1 k2);clear k1 k2 CP HF;refine ro hK trivial fun _=>?_
   clear hK K;refine tt 8 9 ?_;refine r3 10 fun K hK=>?_
   obtain ⟨cx,fx,_⟩:=uh H7;go_simp;refine ro hK trivial fun _=>?_
   clear hK K;refine dn ?_ _;go_wp2
   refine zI ?_;exact ⟨rfl,(uh H7).2.2⟩
 ·have HB:=aa (zA h1 f1);have hfol:be m.a o=m.a:=by unfold be;rw [if_neg h0]
  rw [hfol];clear h h1 hb hb1 hE f1 hA hf hBq hWq hK hfol l30;go_enter func28,ntmps28
  refine wp_seq_k fun K hK=>?_
  apply wp_region_lit
  refine Great.wpList_allocTo rfl (some 4) rfl (.pointer (some ⟨q.heap.size,0,none⟩)) (.cells cl.toArray 74) (by simp [go_sem]) ?_;refine hK _ _ ?_;clear hK K;simp only [Act.put,sA,sZ,sS];go_wp2_with fail
  refine bodyPost_ret (results_none rfl _ _ _) rfl ?_;exact ⟨rfl,_,_,(uh HB).1,(uh HB).2⟩
theorem kJ {base:Nat} {W q:World} {B:Nat} {m:Mw} {ca cb:List Value} {va vb:Value} (h:Ml base W B m ca va cb vb) {o:EO} (hK:ve o) {cl:List Value} {vs:Value} (hA:AnE W.heap.size q o cl vs) (hf:∀ g,vs.ownBlock=some g→W.heap.size≤g) (hb:Below W.heap.size W q) :
  Calls prog 28 #[.pointer (some ⟨B,0,none⟩),.agg cl.toArray,.bool false] q fun e W'=>e=.returned (.tuple #[])∧∃ c' v',Ml base W' B ⟨m.a,be m.b o,m.now⟩ ca va c' v'∧Fr B vb v' W W':=by
 obtain ⟨ad,cp,hv⟩:=h.hb.form;subst hv;obtain ⟨a3,c3,hvs⟩:=hA.form;subst hvs;have hb1:Below q.heap.size q (q.alloc (.cells cl.toArray 74)):=(zC _ _).alloc (zD _) _;have hWq:=hb.size;have h1:=(h.below hb).below hb1;have hE:=zF q (.cells cl.toArray 74);have f1:Fr B (.slice ad m.b.ln.length cp) (.slice ad m.b.ln.length cp) W (q.alloc (.cells cl.toArray 74)):=(Fr.of_below hb).trans (Fr.of_below hb1);have hBq:B<q.heap.size:=Nat.lt_of_lt_of_le h.wa.lt hWq;have hc1:(q.alloc (.cells cl.toArray 74)).cell? ⟨q.heap.size,32,none⟩=some (.int .i64 o.cd):=by rw [cr hE,List.getElem?_toArray];exact hA.cd.1
 have hlen:=hA.len;have l30:(cl.take 30).length=30:=by rw [List.length_take];omega
 by_cases h0:o.cd=0
 ·have hEn:EnM base (q.alloc (.cells cl.toArray 74)) (cl.take 30) ⟨o.e,o.F1,o.F2,m.b.ln⟩:=(hA.en hK.2 m.b.ln h.bs).keep fun g cur hg=>hb1.block g (ge.1 hg).1
  obtain ⟨h2,hb2⟩:=h1.endB hEn rfl;have f2:=f1.trans (Fr.cells (B:=B) _ _ (q.alloc (.cells cl.toArray 74)) (fun _ hg=>Or.inl hg) 30 (cl.take 30));have hE2:=(bu (g:=B) (k:=q.heap.size) (by omega) (cl.take 30) 30 (q.alloc (.cells cl.toArray 74))).trans hE;have hp2:HoldsP ((q.alloc (.cells cl.toArray 74)).setCells B 30 (cl.take 30)) (.slice a3 o.sn.length c3) o.sn:=hA.hp.imp id fun ⟨g,cp',cur,e,q1,q2⟩=>⟨g,cp',cur,e,(bu ((h1.nty g cur _ (by decide) ((hb1.block g (ge.1 q1).1).trans q1))) (cl.take 30) 30 _).trans ((hb1.block g (ge.1 q1).1).trans q1),q2⟩
  have hs2:W.heap.size≤((q.alloc (.cells cl.toArray 74)).setCells B 30 (cl.take 30)).heap.size:=f2.size;have h3:(cl.take 30).toArray.all (·.oneCell')=true:=all_oneCell_toArray fun v hv=>Array.all_eq_true_iff_forall_mem.1 hA.one v (by simpa using List.mem_of_mem_take hv)
  have rA:(q.alloc (.cells cl.toArray 74)).rangeAt q.heap.size 0 (cl.take 30):=by
   have hA':=hE;rw [(List.take_append_drop 30 cl).symm,← List.nil_append (cl.take 30)] at hA';have:=aS hA'
   simpa using this
  have RA:=aa rA;have TB:=aa h1.there;clear rA;have HZ:Hid (Ml base ((q.alloc (.cells cl.toArray 74)).setCells B 30 (cl.take 30)) B ⟨m.a,⟨o.e,o.F1,o.F2,m.b.ln⟩,m.now⟩ ca va (cl.take 30) (.slice ad m.b.ln.length cp)∧((q.alloc (.cells cl.toArray 74)).setCells B 30 (cl.take 30)).heap[q.heap.size]?=some (.cells cl.toArray 74)∧HoldsP ((q.alloc (.cells cl.toArray 74)).setCells B 30 (cl.take 30)) (.slice a3 o.sn.length c3) o.sn∧Fr B (.slice ad m.b.ln.length cp) (.slice ad m.b.ln.length cp) W ((q.alloc (.cells cl.toArray 74)).setCells B 30 (cl.take 30))):=aa ⟨h2,hE2,hp2,f2⟩;have hap:∀ g,(Value.slice a3 o.sn.length c3).ownBlock=some g→(Value.slice ad m.b.ln.length cp).ownBlock≠some g:=fun g hg e=>by
   have h4:=hf g hg;have h5:=(h.wb.ownB g e).2.2.1;omega
  have HAP:=aa hap;have HSN:Hid (o.sn.length≤1000):=aa (zE hK.2.l3 (by decide));have HCD:=aa hA.cd.2;have hfol:Hid (be m.b o=dN ⟨o.e,o.F1,o.F2,m.b.ln⟩ ((m.b.ln ++ o.sn).take 40)):=aa (by unfold be;rw [if_pos h0];rfl);rw [h0] at hc1;clear h h1 h2 hb hb1 hb2 f1 f2 hE hE2 hp2 hEn hA hf hap hK h0 hBq hs2 hWq;go_enter func28,ntmps28
  refine wp_seq_k fun K hK=>?_
  apply wp_region_lit
  refine Great.wpList_allocTo rfl (some 4) rfl (.pointer (some ⟨q.heap.size,0,none⟩)) (.cells cl.toArray 74) (by simp [go_sem]) ?_;refine hK _ _ ?_;clear hK K;simp only [Act.put,sA,sZ,sS]
  go_upto_region 6 with (first
   | (refine wpList_load_mid rfl 32 (.tmp 26) rfl q.heap.size 0 rfl (cl.take 30) _ (uh RA) underlying32 rfl (by rw [l30];exact aL) ?_)
   | (refine wpList_store_mid rfl 32 (.tmp 29) (.tmp 27) rfl B 30 (cl.take 30).toArray rfl rfl (by rw [List.size_toArray,l30];exact (uh TB).2) (by rw [List.size_toArray,l30];exact aL) h3 ?_))
  refine ab (fun z=>Ml base z B ⟨m.a,⟨o.e,o.F1,o.F2,m.b.ln⟩,m.now⟩ ca va (cl.take 30) (.slice ad m.b.ln.length cp)∧z.heap[q.heap.size]?=some (.cells cl.toArray 74)∧HoldsP z (.slice a3 o.sn.length c3) o.sn∧Fr B (.slice ad m.b.ln.length cp) (.slice ad m.b.ln.length cp) W z) (uh HZ) ?_;rintro z hz;clear HZ hc1 RA TB h3;have HY9:Hid (Ml base z.drew B ⟨m.a,⟨o.e,o.F1,o.F2,m.b.ln⟩,m.now⟩ ca va (cl.take 30) (.slice ad m.b.ln.length cp)∧z.drew.heap[q.heap.size]?=some (.cells cl.toArray 74)∧HoldsP z.drew (.slice a3 o.sn.length c3) o.sn∧Fr B (.slice ad m.b.ln.length cp) (.slice ad m.b.ln.length cp) W z.drew):=aa ⟨hz.1.below (zC _ _).drew,hz.2.1,hz.2.2.1,hz.2.2.2.trans (Fr.of_below (zC _ _).drew)⟩;clear hz;refine wp_region_held_drew (S:=fun _=>True) (by kernel_rfl) trivial (fun hHeld=>?_);generalize z.drew=y at HY9 ⊢;have HY:Hid (y.cell? ⟨B,61,none⟩=some (.slice ad m.b.ln.length cp)∧y.cell? ⟨q.heap.size,30,none⟩=some (.slice a3 o.sn.length c3)):=aa ⟨(uh HY9).1.cells.2.2.2.1,by rw [cr (uh HY9).2.1,List.getElem?_toArray];exact (uh HCD)⟩;have CP:=aa (tM (uh HY9).1.hb (uh HY9).2.2.1 (uh HY9).1.lb (uh HSN) (uh HAP) (uh HY9).1.bs);have HF:=aa fun (y7:World) (v7:Value) (k1:HoldsK y7 base v7 ((m.b.ln ++ o.sn).take 40)) (k2:Gw (.slice ad m.b.ln.length cp) v7 y y7)=>show y7.cell? ⟨B,61,none⟩=some (.slice ad m.b.ln.length cp)∧y7.frozen? ⟨B,61,none⟩=false∧∃ c' v',Ml base (y7.setCell ⟨B,61,none⟩ v7) B ⟨m.a,be m.b o,m.now⟩ ca va c' v'∧Fr B (.slice ad m.b.ln.length cp) v' W (y7.setCell ⟨B,61,none⟩ v7) from by
   have hM:=(uh HY9).1;have hBy:=k2.at B hM.wb.lt fun e=>(hM.wb.ownB B e).1 rfl
   have g1:=(hM.lineB k2 k1 (by rw [List.length_take];omega)).1;rw [uh hfol];refine ⟨?_,aX (hBy.trans hM.row) _,_,v7,g1,(uh HY9).2.2.2.trans ((k2 B).trans (Fr.cells v7 v7 y7 (fun _ hg=>Or.inl hg) 61 [v7]))⟩;have:=hM.cells.2.2.2.1
   unfold World.cell? at this ⊢;rw [hBy];exact this
  clear HY9 HCD HAP hfol HSN;generalize q.heap.size=E at *;refine tq 0 1 2 3 ?_;refine t2 5 ?_;refine r4 4 6 (fun K hK=>?_) (fun K hK=>?_)
  ·have cx:=(uh HY).1;go_simp;refine ro hK trivial fun _=>?_
   clear hK K;clear cx;refine r3 6 fun K hK=>?_
   have cy:=(uh HY).2;go_simp;refine ro hK trivial fun _=>?_
   clear hK K;clear cy;refine r3 7 fun K hK=>?_
   go_simp;refine (uh CP).mono ?_;rintro e y7 ⟨v7,rfl,k1,k2⟩;obtain ⟨a7,c7,e7⟩:=k1.form;obtain ⟨n7,e9⟩:∃ n7,((m.b.ln ++ o.sn).take 40).length=n7:=⟨_,rfl⟩;rw [e9] at e7;clear e9;subst e7;have H7:=aa (uh HF y7 _ k1 k2);clear k1 k2 CP HF;refine ro hK trivial fun _=>?_
   clear hK K;refine tt 8 9 ?_;refine r3 10 fun K hK=>?_
   obtain ⟨cx,fx,_⟩:=uh H7;go_simp;refine ro hK trivial fun _=>?_
   clear hK K;refine dn ?_ _;go_wp2
   refine zI ?_;exact ⟨rfl,(uh H7).2.2⟩
  ·have cy:=(uh HY).2;go_simp;refine ro hK trivial fun _=>?_
   clear hK K;clear cy;refine r3 4 fun K hK=>?_
   have cx:=(uh HY).1;go_simp;refine ro hK trivial fun _=>?_
   clear hK K;clear cx;refine r3 7 fun K hK=>?_
   go_simp;refine (uh CP).mono ?_;rintro e y7 ⟨v7,rfl,k1,k2⟩;obtain ⟨a7,c7,e7⟩:=k1.form;obtain ⟨n7,e9⟩:∃ n7,((m.b.ln ++ o.sn).take 40).length=n7:=⟨_,rfl⟩;rw [e9] at e7;clear e9;subst e7;have H7:=aa (uh HF y7 _ k1 k2);clear k1 k2 CP HF;refine ro hK trivial fun _=>?_
   clear hK K;refine tt 8 9 ?_;refine r3 10 fun K hK=>?_
   obtain ⟨cx,fx,_⟩:=uh H7;go_simp;refine ro hK trivial fun _=>?_
   clear hK K;refine dn ?_ _;go_wp2
   refine zI ?_;exact ⟨rfl,(uh H7).2.2⟩
 ·have HB:=aa (zA h1 f1);have hfol:be m.b o=m.b:=by unfold be;rw [if_neg h0]
  rw [hfol];clear h h1 hb hb1 hE f1 hA hf hBq hWq hK hfol l30;go_enter func28,ntmps28
  refine wp_seq_k fun K hK=>?_
  apply wp_region_lit
  refine Great.wpList_allocTo rfl (some 4) rfl (.pointer (some ⟨q.heap.size,0,none⟩)) (.cells cl.toArray 74) (by simp [go_sem]) ?_;refine hK _ _ ?_;clear hK K;simp only [Act.put,sA,sZ,sS];go_wp2_with fail
  refine bodyPost_ret (results_none rfl _ _ _) rfl ?_;exact ⟨rfl,_,_,(uh HB).1,(uh HB).2⟩
end Go.Proofs.YtjdgiimfpkideaaGreatDoor
