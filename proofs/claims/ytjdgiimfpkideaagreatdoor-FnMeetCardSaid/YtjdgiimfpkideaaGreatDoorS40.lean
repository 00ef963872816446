/- MtT MtU MtV -/
import Derived.Test.YtjdgiimfpkideaaGreatDoorS37
set_option maxHeartbeats 4000000
set_option maxRecDepth 100000
namespace Go.Proofs.YtjdgiimfpkideaaGreatDoor
open Go.RowKit Go.Proofs.Tryz
variable {c ca cb cl:List Value} {s:Sd} {y W q:World} {v' va vb vs:Value} {L:List Op.Pk} {b base B:Nat} {m:Mw} {o:EO}
structure Ml(base:Nat)(W:World)(B:Nat)(m:Mw)(ca:List Value)(va:Value)(cb:List Value)(vb:Value):Prop where
 row:W.heap[B]?=some (.cells (ca++cb++[va]++[vb]++[Value.int .i64 m.now]).toArray 70)
 ea:EnM base W ca m.a
 eb:EnM base W cb m.b
 ha:HoldsK W base va m.a.ln
 hb:HoldsK W base vb m.b.ln
 la:m.a.ln.length<=40
 lb:m.b.ln.length<=40
 sp:∀g,va.ownBlock=some g->vb.ownBlock≠some g
 bs:base<=W.heap.size
 bB:base<=B
def ML(base B:Nat)(m:Mw)(W:World):Prop:=∃ca va cb vb,Ml base W B m ca va cb vb
section
variable {base:Nat} {W W':World} {B:Nat} {m:Mw} {ca cb:List Value} {va vb va' vb':Value}
theorem Ml.wa(h:Ml base W B m ca va cb vb):Wr base 70 W B (ca++cb) [vb,Value.int .i64 m.now] va m.a.ln :=
 ⟨by rw[h.row];simp,h.ha,h.la,h.bs,by decide⟩
theorem Ml.wb(h:Ml base W B m ca va cb vb):Wr base 70 W B (ca++cb++[va]) [Value.int .i64 m.now] vb m.b.ln :=
 ⟨by rw[h.row],h.hb,h.lb,h.bs,by decide⟩
theorem Ml.len(h:Ml base W B m ca va cb vb):(ca++cb).length=60/\(ca++cb++[va]).length=61/\(ca++cb++[va]++[vb]).length=62:=by
 simp[h.ea.len,h.eb.len]
theorem Ml.f1(h:Ml base W B m ca va cb vb):W.heap[B]?=some (.cells ([]++ca++(cb++[va]++[vb]++[Value.int .i64 m.now])).toArray 70):=by rw[h.row];simp
theorem Ml.f2(h:Ml base W B m ca va cb vb):W.heap[B]?=some (.cells (ca++cb++([va]++[vb]++[Value.int .i64 m.now])).toArray 70):=by rw[h.row];simp
theorem Ml.f3(h:Ml base W B m ca va cb vb):W.heap[B]?=some (.cells (ca++cb++[va]++[vb]++[Value.int .i64 m.now]++[]).toArray 70):=by rw[h.row];simp
theorem Ml.cells(h:Ml base W B m ca va cb vb):W.rangeAt B 0 ca/\W.rangeAt B 30 cb/\W.cell? (B,60)=some va/\W.cell? (B,61)=some vb/\W.cell? (B,62)=some (.int .i64 m.now):=by
 obtain⟨l1,l2,l3⟩:=h.len;refine⟨?_,?_,?_,?_,?_⟩
 .have:=aS (X:=[]) (Y:=ca) (Z:=cb++[va]++[vb]++[Value.int .i64 m.now]) h.f1
  exact this
 .have:=aS (X:=ca) (Y:=cb) (Z:=[va]++[vb]++[Value.int .i64 m.now]) h.f2
  rw[h.ea.len]at this;exact this
 .have:=bI h.wa.row
  rwa [l1]at this
 .have:=bI h.wb.row
  rwa [l2]at this
 .have:=bI (X:=ca++cb++[va]++[vb]) (v:=Value.int .i64 m.now) (Z:=[]) h.f3
  rwa [l3]at this
theorem Ml.fz(h:Ml base W B m ca va cb vb)(k:Nat):W.frozen? (B,k)=false:=aX h.row k
theorem Ml.nty(h:Ml base W B m ca va cb vb)(g:Nat)(cur:Array Value)(T:TypeId)(hT:T≠70)(hg:W.heap[g]?=some (.cells cur T)):g≠B:=fun e=>by
 rw[e,h.row]at hg;injection hg with hg;injection hg with _ hg;exact hT hg.symm
theorem Ml.below(h:Ml base W B m ca va cb vb)(hb:Below W W W'):Ml base W' B m ca va cb vb :=
 ⟨(hb.block B h.wa.lt).trans h.row,h.ea.keep fun g _ hg=>hb.block g (ge.1 hg).1,h.eb.keep fun g _ hg=>hb.block g (ge.1 hg).1,h.ha.below hb,h.hb.below hb,h.la,h.lb,h.sp,zE h.bs hb.size,h.bB⟩
theorem Ml.endA(h:Ml base W B m ca va cb vb)(he:EnM base W c s)(hl:s.ln=m.a.ln):Ml base (W.setCells B 0 c) B ⟨s,m.b,m.now⟩ c va cb vb/\Below base W (W.setCells B 0 c):=by
 have hbl:Below base W (W.setCells B 0 c):=cM h.bB c 0 W (zC _ _);have r:=cH ca c [] (cb++[va]++[vb]++[Value.int .i64 m.now]) W h.f1 (by rw[he.len,h.ea.len]);have ko:∀(g:Nat)(cur:Array Value),W.heap[g]?=some (.cells cur 105)->(W.setCells B 0 c).heap[g]?=W.heap[g]?:=fun g cur hg=>bu (h.nty g cur _ (by decide) hg) c 0 W
 have kp:∀(g:Nat)(cur:Array Value),W.heap[g]?=some (.cells cur 85)->(W.setCells B 0 c).heap[g]?=W.heap[g]?:=fun g cur hg=>bu (h.nty g cur _ (by decide) hg) c 0 W
 refine⟨⟨?_,he.keep ko,h.eb.keep ko,?_,h.hb.keep fun g cur _ _ hg=>kp g cur hg,by rw[hl];exact h.la,h.lb,h.sp,zE h.bs hbl.size,h.bB⟩,hbl⟩
 .refine Eq.trans r ?_;simp
 .rw [hl];exact h.ha.keep fun g cur _ _ hg=>kp g cur hg
theorem Ml.endB(h:Ml base W B m ca va cb vb)(he:EnM base W c s)(hl:s.ln=m.b.ln):Ml base (W.setCells B 30 c) B ⟨m.a,s,m.now⟩ ca va c vb/\Below base W (W.setCells B 30 c):=by
 have hbl:Below base W (W.setCells B 30 c):=cM h.bB c 30 W (zC _ _);have r:=cH cb c ca ([va]++[vb]++[Value.int .i64 m.now]) W h.f2 (by rw[he.len,h.eb.len]);rw[h.ea.len]at r;have ko:∀(g:Nat)(cur:Array Value),W.heap[g]?=some (.cells cur 105)->(W.setCells B 30 c).heap[g]?=W.heap[g]?:=fun g cur hg=>bu (h.nty g cur _ (by decide) hg) c 30 W
 have kp:∀(g:Nat)(cur:Array Value),W.heap[g]?=some (.cells cur 85)->(W.setCells B 30 c).heap[g]?=W.heap[g]?:=fun g cur hg=>bu (h.nty g cur _ (by decide) hg) c 30 W
 refine⟨⟨?_,h.ea.keep ko,he.keep ko,h.ha.keep fun g cur _ _ hg=>kp g cur hg,?_,h.la,by rw[hl];exact h.lb,h.sp,zE h.bs hbl.size,h.bB⟩,hbl⟩
 .refine Eq.trans r ?_;simp
 .rw [hl];exact h.hb.keep fun g cur _ _ hg=>kp g cur hg
theorem Ml.lineA(h:Ml base W B m ca va cb vb)(gw:Gw va v' W y)(hk:HoldsK y base v' L)(le:L.length<=40):Ml base (y.setCell (B,60) v') B ⟨dN m.a L,m.b,m.now⟩ ca v' cb vb/\Below base W (y.setCell (B,60) v'):=by
 have hBy:=gw.at B h.wa.lt fun e=>(h.wa.ownB B e).1 rfl
 have hlow:=gw.low (fun g hg=>(h.wa.ownB g hg).2.1) h.bs;have hbl:Below base W (y.setCell (B,60) v'):=hlow.setCell (p:=(B,60)) h.bB v';have r:=cH [va] [v'] (ca++cb) [vb,Value.int .i64 m.now] y (hBy.trans h.wa.row) rfl;rw[h.len.1]at r;have st:∀(g:Nat)(cur:Array Value)(T:TypeId),T≠70->va.ownBlock≠some g->W.heap[g]?=some (.cells cur T)->(y.setCell (B,60) v').heap[g]?=W.heap[g]?:=fun g cur T hT hv hg =>
  (heap_setCell_other _ (B,60) _ _ (h.nty g cur T hT hg)).trans (gw.at g (ge.1 hg).1 hv)
 have ko:∀(g:Nat)(cur:Array Value),W.heap[g]?=some (.cells cur 105)->(y.setCell (B,60) v').heap[g]?=W.heap[g]?:=fun g cur hg=>st g cur _ (by decide) (fun e=>by
  obtain⟨_,_,_,c,h2⟩:=h.wa.ownB g e;rw[hg]at h2;injection h2 with h2;injection h2 with _ h2;exact absurd h2 (by decide)) hg
 refine⟨⟨?_,(h.ea.keep ko).ln L,h.eb.keep ko,hk.keep fun g cur _ _ hg=>heap_setCell_other _ (B,60) _ _ fun(e:g=B)=>?_,h.hb.keep fun g cur hg _ hc=>st g cur _ (by decide) (fun e=>h.sp g e hg) hc,le,h.lb,fun g hg e=>?_,zE h.bs hbl.size,h.bB⟩,hbl⟩
 .refine Eq.trans r ?_;simp
 .rw [e,hBy,h.row]at hg;injection hg with hg;injection hg with _ hg;exact absurd hg (by decide)
 .rcases (gw 0).own g hg with e1|e1
  .exact h.sp g e1 e
  .have:=(h.wb.ownB g e).2.2.1;omega
theorem Ml.lineB(h:Ml base W B m ca va cb vb)(gw:Gw vb v' W y)(hk:HoldsK y base v' L)(le:L.length<=40):Ml base (y.setCell (B,61) v') B ⟨m.a,dN m.b L,m.now⟩ ca va cb v'/\Below base W (y.setCell (B,61) v'):=by
 have hBy:=gw.at B h.wb.lt fun e=>(h.wb.ownB B e).1 rfl
 have hlow:=gw.low (fun g hg=>(h.wb.ownB g hg).2.1) h.bs;have hbl:Below base W (y.setCell (B,61) v'):=hlow.setCell (p:=(B,61)) h.bB v';have r:=cH [vb] [v'] (ca++cb++[va]) [Value.int .i64 m.now] y (hBy.trans h.wb.row) rfl;rw[h.len.2.1]at r;have st:∀(g:Nat)(cur:Array Value)(T:TypeId),T≠70->vb.ownBlock≠some g->W.heap[g]?=some (.cells cur T)->(y.setCell (B,61) v').heap[g]?=W.heap[g]?:=fun g cur T hT hv hg =>
  (heap_setCell_other _ (B,61) _ _ (h.nty g cur T hT hg)).trans (gw.at g (ge.1 hg).1 hv)
 have ko:∀(g:Nat)(cur:Array Value),W.heap[g]?=some (.cells cur 105)->(y.setCell (B,61) v').heap[g]?=W.heap[g]?:=fun g cur hg=>st g cur _ (by decide) (fun e=>by
  obtain⟨_,_,_,c,h2⟩:=h.wb.ownB g e;rw[hg]at h2;injection h2 with h2;injection h2 with _ h2;exact absurd h2 (by decide)) hg
 refine⟨⟨?_,h.ea.keep ko,(h.eb.keep ko).ln L,h.ha.keep fun g cur hg _ hc=>st g cur _ (by decide) (fun e=>h.sp g hg e) hc,hk.keep fun g cur _ _ hg=>heap_setCell_other _ (B,61) _ _ fun(e:g=B)=>?_,h.la,le,fun g hg e=>?_,zE h.bs hbl.size,h.bB⟩,hbl⟩
 .refine Eq.trans r ?_;simp
 .rw [e,hBy,h.row]at hg;injection hg with hg;injection hg with _ hg;exact absurd hg (by decide)
 .rcases (gw 0).own g e with e1|e1
  .exact h.sp g hg e1
  .have:=(h.wa.ownB g hg).2.2.1;omega
theorem Ml.time(h:Ml base W B m ca va cb vb)(t:Int):Ml base (W.setCell (B,62) t) B ⟨m.a,m.b,t⟩ ca va cb vb/\Below base W (W.setCell (B,62) t):=by
 have hbl:=(zC base W).setCell (p:=(B,62)) h.bB t;have r:=cH [Value.int .i64 m.now] [Value.int .i64 t] (ca++cb++[va]++[vb]) [] W h.f3 rfl;rw[h.len.2.2]at r;have ot:∀(g:Nat)(cur:Array Value)(T:TypeId),T≠70->W.heap[g]?=some (.cells cur T)->(W.setCell (B,62) t).heap[g]?=W.heap[g]?:=fun g cur T hT hg=>heap_setCell_other _ (B,62) _ _ (h.nty g cur T hT hg)
 refine⟨⟨?_,h.ea.keep fun g cur hg=>ot g cur _ (by decide) hg,h.eb.keep fun g cur hg=>ot g cur _ (by decide) hg,h.ha.keep fun g cur _ _ hg=>ot g cur _ (by decide) hg,h.hb.keep fun g cur _ _ hg=>ot g cur _ (by decide) hg,h.la,h.lb,h.sp,zE h.bs hbl.size,h.bB⟩,hbl⟩;refine Eq.trans r ?_;simp
theorem Ml.there(h:Ml base W B m ca va cb vb):W.there B 0 30/\W.there B 30 30:=by
 have l1:=h.ea.len;have l2:=h.eb.len;refine⟨?_,?_⟩
 .have:=ii (X:=[]) (Y:=ca) (Z:=cb++[va]++[vb]++[Value.int .i64 m.now]) h.f1
  rw[l1]at this;exact this
 .have:=ii (X:=ca) (Y:=cb) (Z:=[va]++[vb]++[Value.int .i64 m.now]) h.f2
  rw[l1,l2]at this;exact this
end
theorem yh(h:EnM b W ca s)(t:ByteArray)(now:Int):Calls prog 29 #[.agg ca.toArray,t,now] W fun r q=>vB W (kC s.e s.F1 s.F2 t now) r q:=by
 obtain⟨x1,x2,y1,y2,rfl,o1,o2,_,l1,l2⟩:=h;rw[Array.toArray_toList];exact(ET s.e x1 x2 y1 y2 s.F1 s.F2 t now W (by omega) (by omega) (HoldsO.own o1) (HoldsO.own o2)).mono fun r q hq=>AnE.of hq
theorem tO(h:EnM b W ca s)(now:Int):Calls prog 55 #[.agg ca.toArray,now] W fun r q=>vB W (dq s.e s.F1 s.F2 now) r q:=by
 obtain⟨x1,x2,y1,y2,rfl,o1,o2,_,l1,l2⟩:=h;rw[Array.toArray_toList];exact(qk s.e x1 x2 y1 y2 s.F1 s.F2 now W (by omega) (by omega) (HoldsO.own o1) (HoldsO.own o2)).mono fun r q hq=>AnE.of hq
theorem tP(h:EnM b W ca s)(p:Op.Pk)(now:Int):Calls prog 54 #[.agg ca.toArray,.agg #[p.code,p.id,p.data],now] W fun r q=>vB W (bn s.e s.F1 s.F2 p now) r q:=by
 obtain⟨x1,x2,y1,y2,rfl,o1,o2,_,l1,l2⟩:=h;rw[Array.toArray_toList];exact(qT s.e x1 x2 y1 y2 s.F1 s.F2 p now W (by omega) (by omega) (HoldsO.own o1) (HoldsO.own o2)).mono fun r q hq=>AnE.of hq
theorem kI(h:Ml base W B m ca va cb vb)(hK:ve o)(hA:AnE W q o cl vs)(hf:∀g,vs.ownBlock=some g->W.heap.size<=g)(hb:Below W W q):Calls prog 28 #[(B,0),.agg cl.toArray,true] q fun e W'=>e=.returned (.tuple #[])/\∃c' v',Ml base W' B ⟨be m.a o,m.b,m.now⟩ c' v' cb vb/\Fr B va v' W W':=by
 obtain⟨ad,cp,hv⟩:=h.ha.form;subst hv;obtain⟨a3,c3,hvs⟩:=hA.form;subst hvs;have hb1:Below q q (q.alloc (.cells cl.toArray 74)):=(zC _ _).alloc (zD _) _;have hWq:=hb.size;have h1:=(h.below hb).below hb1;have hE:=zF q (.cells cl.toArray 74);have f1:Fr B (ad,m.a.ln.length,cp) (ad,m.a.ln.length,cp) W (q.alloc (.cells cl.toArray 74)):=(Fr.of_below hb).trans (Fr.of_below hb1);have hBq:B<q.heap.size:=Nat.lt_of_lt_of_le h.wa.lt hWq;have hc1:(q.alloc (.cells cl.toArray 74)).cell? (q,32)=some (.int .i64 o.cd):=by rw[cr hE,List.getElem?_toArray];exact hA.cd.1
 have hlen:=hA.len;have l30:(cl.take 30).length=30:=by rw[List.length_take];omega
 by_cases h0:o.cd=0
 .have hEn:EnM base (q.alloc (.cells cl.toArray 74)) (cl.take 30) ⟨o.e,o.F1,o.F2,m.a.ln⟩:=(hA.en hK.2 m.a.ln h.bs).keep fun g cur hg=>hb1.block g (ge.1 hg).1
  obtain⟨h2,hb2⟩:=h1.endA hEn rfl;have f2:=f1.trans (Fr.cells (B:=B) _ _ (q.alloc (.cells cl.toArray 74)) (fun _ hg=>Or.inl hg) 0 (cl.take 30));have hE2:=(bu (g:=B) (k:=q.heap.size) (by omega) (cl.take 30) 0 (q.alloc (.cells cl.toArray 74))).trans hE;have hp2:HoldsP ((q.alloc (.cells cl.toArray 74)).setCells B 0 (cl.take 30)) (a3,o.sn.length,c3) o.sn:=hA.hp.imp id fun⟨g,cp',cur,e,q1,q2⟩=>⟨g,cp',cur,e,(bu ((h1.nty g cur _ (by decide) ((hb1.block g (ge.1 q1).1).trans q1))) (cl.take 30) 0 _).trans ((hb1.block g (ge.1 q1).1).trans q1),q2⟩
  have hs2:W.heap.size<=((q.alloc (.cells cl.toArray 74)).setCells B 0 (cl.take 30)).heap.size:=f2.size;have h3:(cl.take 30).toArray.all (·.oneCell')=true:=all_oneCell_toArray fun v hv=>Array.all_eq_true_iff_forall_mem.1 hA.one v (by simpa using List.mem_of_mem_take hv)
  have rA:(q.alloc (.cells cl.toArray 74)).rangeAt q 0 (cl.take 30):=by
   have hA':=hE;rw[(List.take_append_drop 30 cl).symm,<- List.nil_append (cl.take 30)]at hA';have:=aS hA'
   simpa using this
  have RA:=aa rA;have TB:=aa h1.there;clear rA;have HZ:Hid (Ml base ((q.alloc (.cells cl.toArray 74)).setCells B 0 (cl.take 30)) B ⟨⟨o.e,o.F1,o.F2,m.a.ln⟩,m.b,m.now⟩ (cl.take 30) (ad,m.a.ln.length,cp) cb vb/\((q.alloc (.cells cl.toArray 74)).setCells B 0 (cl.take 30)).heap[q.heap.size]?=some (.cells cl.toArray 74)/\HoldsP ((q.alloc (.cells cl.toArray 74)).setCells B 0 (cl.take 30)) (a3,o.sn.length,c3) o.sn/\Fr B (ad,m.a.ln.length,cp) (ad,m.a.ln.length,cp) W ((q.alloc (.cells cl.toArray 74)).setCells B 0 (cl.take 30))):=aa ⟨h2,hE2,hp2,f2⟩;have hap:∀g,(Value.slice a3 o.sn.length c3).ownBlock=some g->(Value.slice ad m.a.ln.length cp).ownBlock≠some g:=fun g hg e=>by
   have h4:=hf g hg;have h5:=(h.wa.ownB g e).2.2.1;omega
  have HAP:=aa hap;have HSN:Hid (o.sn.length<=1000):=aa (zE hK.2.l3 (by decide));have HCD:=aa hA.cd.2;have hfol:Hid (be m.a o=dN ⟨o.e,o.F1,o.F2,m.a.ln⟩ ((m.a.ln++o.sn).take 40)):=aa (by unfold be;rw[if_pos h0];rfl);rw[h0]at hc1;clear h h1 h2 hb hb1 hb2 f1 f2 hE hE2 hp2 hEn hA hf hap hK h0 hBq hs2 hWq;go_enter func28,ntmps28
  refine wp_seq_k fun K hK=>?_
  apply wp_region_lit
  refine Great.wpList_allocTo rfl (some 4) rfl (q,0) (.cells cl.toArray 74) (by simp[go_sem]) ?_;refine hK _ _ ?_;clear hK K;simp only[Act.put,sA,sZ,sS]
  go_upto_region 4 with(first
   | (refine wpList_load_mid rfl 32 (.tmp 11) rfl q 0 rfl (cl.take 30) _ RA.out underlying32 rfl (by rw[l30];exact aL) ?_)
   | (refine wpList_store_mid rfl 32 (.tmp 14) (.tmp 12) rfl B 0 (cl.take 30).toArray rfl rfl (by rw[List.size_toArray,l30];exact TB.out.1) (by rw[List.size_toArray,l30];exact aL) h3 ?_))
  refine bb (fun z=>Ml base z B ⟨⟨o.e,o.F1,o.F2,m.a.ln⟩,m.b,m.now⟩ (cl.take 30) (ad,m.a.ln.length,cp) cb vb/\z.heap[q.heap.size]?=some (.cells cl.toArray 74)/\HoldsP z (a3,o.sn.length,c3) o.sn/\Fr B (ad,m.a.ln.length,cp) (ad,m.a.ln.length,cp) W z) HZ.out ?_;rintro z hz;clear HZ hc1 RA TB h3;have HY9:Hid (Ml base z.drew B ⟨⟨o.e,o.F1,o.F2,m.a.ln⟩,m.b,m.now⟩ (cl.take 30) (ad,m.a.ln.length,cp) cb vb/\z.drew.heap[q.heap.size]?=some (.cells cl.toArray 74)/\HoldsP z.drew (a3,o.sn.length,c3) o.sn/\Fr B (ad,m.a.ln.length,cp) (ad,m.a.ln.length,cp) W z.drew):=aa ⟨hz.1.below (zC _ _).drew,hz.2.1,hz.2.2.1,hz.2.2.2.trans (Fr.of_below (zC _ _).drew)⟩;clear hz;refine wp_region_held_drew (S:=fun _=>True) (by kernel_rfl) trivial (fun hHeld=>?_);generalize z.drew=y at HY9|-;have HY:Hid (y.cell? (B,60)=some (.slice ad m.a.ln.length cp)/\y.cell? (q,30)=some ((a3,o.sn.length,c3):V)):=aa ⟨HY9.out.1.cells.2.2.1,by rw[cr HY9.out.2.1,List.getElem?_toArray];exact HCD.out⟩;have CP:=aa (tM HY9.out.1.ha HY9.out.2.2.1 HY9.out.1.la HSN.out HAP.out HY9.out.1.bs);have HF:=aa fun(y7:World) (v7:Value) (k1:HoldsK y7 base v7 ((m.a.ln++o.sn).take 40)) (k2:Gw (ad,m.a.ln.length,cp) v7 y y7)=>show y7.cell? (B,60)=some (.slice ad m.a.ln.length cp)/\y7.frozen? (B,60)=false/\∃c' v',Ml base (y7.setCell (B,60) v7) B ⟨be m.a o,m.b,m.now⟩ c' v' cb vb/\Fr B (ad,m.a.ln.length,cp) v' W (y7.setCell (B,60) v7)from by
   have hM:=HY9.out.1;have hBy:=k2.at B hM.wa.lt fun e=>(hM.wa.ownB B e).1 rfl
   have g1:=(hM.lineA k2 k1 (by rw[List.length_take];omega)).1;rw[uh hfol];refine⟨?_,aX (hBy.trans hM.row) _,_,v7,g1,HY9.out.2.2.2.trans ((k2 B).trans (Fr.cells v7 v7 y7 (fun _ hg=>Or.inl hg) 60 [v7]))⟩;have:=hM.cells.2.2.1
   unfold World.cell? at this|-;rw[hBy];exact this
  clear HY9 HCD HAP hfol HSN;generalize q.heap.size=E at*;refine tq 0 1 2 3 ?_;refine t2 5 ?_;refine r4 4 6 (fun K hK=>?_) (fun K hK=>?_)
  .have cx:=HY.out.1;go_simp;refine ro hK trivial fun _=>?_
   clear hK K;clear cx;refine r3 6 fun K hK=>?_
   have cy:=HY.out.2;go_simp;refine ro hK trivial fun _=>?_
   clear hK K;clear cy;refine r3 7 fun K hK=>?_
   go_simp;refine CP.out.mono ?_;rintro e y7⟨v7,rfl,k1,k2⟩;obtain⟨a7,c7,e7⟩:=k1.form;obtain⟨n7,e9⟩ := ex (((m.a.ln++o.sn).take 40).length);rw[e9]at e7;clear e9;subst e7;have H7:=aa (uh HF y7 _ k1 k2);clear k1 k2 CP HF;refine ro hK trivial fun _=>?_
   clear hK K;refine tt 8 9 ?_;refine r3 10 fun K hK=>?_
   obtain⟨cx,fx,_⟩:=uh H7;go_simp;refine ro hK trivial fun _=>?_
   clear hK K;refine dn ?_ _;go_wp2
   refine zI ?_;exact⟨rfl,H7.out.2.2⟩
  .have cy:=HY.out.2;go_simp;refine ro hK trivial fun _=>?_
   clear hK K;clear cy;refine r3 4 fun K hK=>?_
   have cx:=HY.out.1;go_simp;refine ro hK trivial fun _=>?_
   clear hK K;clear cx;refine r3 7 fun K hK=>?_
   go_simp;refine CP.out.mono ?_;rintro e y7⟨v7,rfl,k1,k2⟩;obtain⟨a7,c7,e7⟩:=k1.form;obtain⟨n7,e9⟩ := ex (((m.a.ln++o.sn).take 40).length);rw[e9]at e7;clear e9;subst e7;have H7:=aa (uh HF y7 _ k1 k2);clear k1 k2 CP HF;refine ro hK trivial fun _=>?_
   clear hK K;refine tt 8 9 ?_;refine r3 10 fun K hK=>?_
   obtain⟨cx,fx,_⟩:=uh H7;go_simp;refine ro hK trivial fun _=>?_
   clear hK K;refine dn ?_ _;go_wp2
   refine zI ?_;exact⟨rfl,H7.out.2.2⟩
 .have HB:=aa (zA h1 f1);have hfol:be m.a o=m.a:=by unfold be;rw[if_neg h0]
  rw[hfol];clear h h1 hb hb1 hE f1 hA hf hBq hWq hK hfol l30;go_enter func28,ntmps28
  refine wp_seq_k fun K hK=>?_
  apply wp_region_lit
  refine Great.wpList_allocTo rfl (some 4) rfl (q,0) (.cells cl.toArray 74) (by simp[go_sem]) ?_;refine hK _ _ ?_;clear hK K;simp only[Act.put,sA,sZ,sS];go_wp2_with fail
  refine bodyPost_ret (results_none rfl _ _ _) rfl ?_;exact⟨rfl,_,_,HB.out.1,HB.out.2⟩
theorem kJ(h:Ml base W B m ca va cb vb)(hK:ve o)(hA:AnE W q o cl vs)(hf:∀g,vs.ownBlock=some g->W.heap.size<=g)(hb:Below W W q):Calls prog 28 #[(B,0),.agg cl.toArray,false] q fun e W'=>e=.returned (.tuple #[])/\∃c' v',Ml base W' B ⟨m.a,be m.b o,m.now⟩ ca va c' v'/\Fr B vb v' W W':=by
 obtain⟨ad,cp,hv⟩:=h.hb.form;subst hv;obtain⟨a3,c3,hvs⟩:=hA.form;subst hvs;have hb1:Below q q (q.alloc (.cells cl.toArray 74)):=(zC _ _).alloc (zD _) _;have hWq:=hb.size;have h1:=(h.below hb).below hb1;have hE:=zF q (.cells cl.toArray 74);have f1:Fr B (ad,m.b.ln.length,cp) (ad,m.b.ln.length,cp) W (q.alloc (.cells cl.toArray 74)):=(Fr.of_below hb).trans (Fr.of_below hb1);have hBq:B<q.heap.size:=Nat.lt_of_lt_of_le h.wa.lt hWq;have hc1:(q.alloc (.cells cl.toArray 74)).cell? (q,32)=some (.int .i64 o.cd):=by rw[cr hE,List.getElem?_toArray];exact hA.cd.1
 have hlen:=hA.len;have l30:(cl.take 30).length=30:=by rw[List.length_take];omega
 by_cases h0:o.cd=0
 .have hEn:EnM base (q.alloc (.cells cl.toArray 74)) (cl.take 30) ⟨o.e,o.F1,o.F2,m.b.ln⟩:=(hA.en hK.2 m.b.ln h.bs).keep fun g cur hg=>hb1.block g (ge.1 hg).1
  obtain⟨h2,hb2⟩:=h1.endB hEn rfl;have f2:=f1.trans (Fr.cells (B:=B) _ _ (q.alloc (.cells cl.toArray 74)) (fun _ hg=>Or.inl hg) 30 (cl.take 30));have hE2:=(bu (g:=B) (k:=q.heap.size) (by omega) (cl.take 30) 30 (q.alloc (.cells cl.toArray 74))).trans hE;have hp2:HoldsP ((q.alloc (.cells cl.toArray 74)).setCells B 30 (cl.take 30)) (a3,o.sn.length,c3) o.sn:=hA.hp.imp id fun⟨g,cp',cur,e,q1,q2⟩=>⟨g,cp',cur,e,(bu ((h1.nty g cur _ (by decide) ((hb1.block g (ge.1 q1).1).trans q1))) (cl.take 30) 30 _).trans ((hb1.block g (ge.1 q1).1).trans q1),q2⟩
  have hs2:W.heap.size<=((q.alloc (.cells cl.toArray 74)).setCells B 30 (cl.take 30)).heap.size:=f2.size;have h3:(cl.take 30).toArray.all (·.oneCell')=true:=all_oneCell_toArray fun v hv=>Array.all_eq_true_iff_forall_mem.1 hA.one v (by simpa using List.mem_of_mem_take hv)
  have rA:(q.alloc (.cells cl.toArray 74)).rangeAt q 0 (cl.take 30):=by
   have hA':=hE;rw[(List.take_append_drop 30 cl).symm,<- List.nil_append (cl.take 30)]at hA';have:=aS hA'
   simpa using this
  have RA:=aa rA;have TB:=aa h1.there;clear rA;have HZ:Hid (Ml base ((q.alloc (.cells cl.toArray 74)).setCells B 30 (cl.take 30)) B ⟨m.a,⟨o.e,o.F1,o.F2,m.b.ln⟩,m.now⟩ ca va (cl.take 30) (.slice ad m.b.ln.length cp)/\((q.alloc (.cells cl.toArray 74)).setCells B 30 (cl.take 30)).heap[q.heap.size]?=some (.cells cl.toArray 74)/\HoldsP ((q.alloc (.cells cl.toArray 74)).setCells B 30 (cl.take 30)) (a3,o.sn.length,c3) o.sn/\Fr B (ad,m.b.ln.length,cp) (ad,m.b.ln.length,cp) W ((q.alloc (.cells cl.toArray 74)).setCells B 30 (cl.take 30))):=aa ⟨h2,hE2,hp2,f2⟩;have hap:∀g,(Value.slice a3 o.sn.length c3).ownBlock=some g->(Value.slice ad m.b.ln.length cp).ownBlock≠some g:=fun g hg e=>by
   have h4:=hf g hg;have h5:=(h.wb.ownB g e).2.2.1;omega
  have HAP:=aa hap;have HSN:Hid (o.sn.length<=1000):=aa (zE hK.2.l3 (by decide));have HCD:=aa hA.cd.2;have hfol:Hid (be m.b o=dN ⟨o.e,o.F1,o.F2,m.b.ln⟩ ((m.b.ln++o.sn).take 40)):=aa (by unfold be;rw[if_pos h0];rfl);rw[h0]at hc1;clear h h1 h2 hb hb1 hb2 f1 f2 hE hE2 hp2 hEn hA hf hap hK h0 hBq hs2 hWq;go_enter func28,ntmps28
  refine wp_seq_k fun K hK=>?_
  apply wp_region_lit
  refine Great.wpList_allocTo rfl (some 4) rfl (q,0) (.cells cl.toArray 74) (by simp[go_sem]) ?_;refine hK _ _ ?_;clear hK K;simp only[Act.put,sA,sZ,sS]
  go_upto_region 6 with(first
   | (refine wpList_load_mid rfl 32 (.tmp 26) rfl q 0 rfl (cl.take 30) _ RA.out underlying32 rfl (by rw[l30];exact aL) ?_)
   | (refine wpList_store_mid rfl 32 (.tmp 29) (.tmp 27) rfl B 30 (cl.take 30).toArray rfl rfl (by rw[List.size_toArray,l30];exact TB.out.2) (by rw[List.size_toArray,l30];exact aL) h3 ?_))
  refine bb (fun z=>Ml base z B ⟨m.a,⟨o.e,o.F1,o.F2,m.b.ln⟩,m.now⟩ ca va (cl.take 30) (.slice ad m.b.ln.length cp)/\z.heap[q.heap.size]?=some (.cells cl.toArray 74)/\HoldsP z (a3,o.sn.length,c3) o.sn/\Fr B (ad,m.b.ln.length,cp) (ad,m.b.ln.length,cp) W z) HZ.out ?_;rintro z hz;clear HZ hc1 RA TB h3;have HY9:Hid (Ml base z.drew B ⟨m.a,⟨o.e,o.F1,o.F2,m.b.ln⟩,m.now⟩ ca va (cl.take 30) (.slice ad m.b.ln.length cp)/\z.drew.heap[q.heap.size]?=some (.cells cl.toArray 74)/\HoldsP z.drew (a3,o.sn.length,c3) o.sn/\Fr B (ad,m.b.ln.length,cp) (ad,m.b.ln.length,cp) W z.drew):=aa ⟨hz.1.below (zC _ _).drew,hz.2.1,hz.2.2.1,hz.2.2.2.trans (Fr.of_below (zC _ _).drew)⟩;clear hz;refine wp_region_held_drew (S:=fun _=>True) (by kernel_rfl) trivial (fun hHeld=>?_);generalize z.drew=y at HY9|-;have HY:Hid (y.cell? (B,61)=some (.slice ad m.b.ln.length cp)/\y.cell? (q,30)=some ((a3,o.sn.length,c3):V)):=aa ⟨HY9.out.1.cells.2.2.2.1,by rw[cr HY9.out.2.1,List.getElem?_toArray];exact HCD.out⟩;have CP:=aa (tM HY9.out.1.hb HY9.out.2.2.1 HY9.out.1.lb HSN.out HAP.out HY9.out.1.bs);have HF:=aa fun(y7:World) (v7:Value) (k1:HoldsK y7 base v7 ((m.b.ln++o.sn).take 40)) (k2:Gw (ad,m.b.ln.length,cp) v7 y y7)=>show y7.cell? (B,61)=some (.slice ad m.b.ln.length cp)/\y7.frozen? (B,61)=false/\∃c' v',Ml base (y7.setCell (B,61) v7) B ⟨m.a,be m.b o,m.now⟩ ca va c' v'/\Fr B (ad,m.b.ln.length,cp) v' W (y7.setCell (B,61) v7)from by
   have hM:=HY9.out.1;have hBy:=k2.at B hM.wb.lt fun e=>(hM.wb.ownB B e).1 rfl
   have g1:=(hM.lineB k2 k1 (by rw[List.length_take];omega)).1;rw[uh hfol];refine⟨?_,aX (hBy.trans hM.row) _,_,v7,g1,HY9.out.2.2.2.trans ((k2 B).trans (Fr.cells v7 v7 y7 (fun _ hg=>Or.inl hg) 61 [v7]))⟩;have:=hM.cells.2.2.2.1
   unfold World.cell? at this|-;rw[hBy];exact this
  clear HY9 HCD HAP hfol HSN;generalize q.heap.size=E at*;refine tq 0 1 2 3 ?_;refine t2 5 ?_;refine r4 4 6 (fun K hK=>?_) (fun K hK=>?_)
  .have cx:=HY.out.1;go_simp;refine ro hK trivial fun _=>?_
   clear hK K;clear cx;refine r3 6 fun K hK=>?_
   have cy:=HY.out.2;go_simp;refine ro hK trivial fun _=>?_
   clear hK K;clear cy;refine r3 7 fun K hK=>?_
   go_simp;refine CP.out.mono ?_;rintro e y7⟨v7,rfl,k1,k2⟩;obtain⟨a7,c7,e7⟩:=k1.form;obtain⟨n7,e9⟩ := ex (((m.b.ln++o.sn).take 40).length);rw[e9]at e7;clear e9;subst e7;have H7:=aa (uh HF y7 _ k1 k2);clear k1 k2 CP HF;refine ro hK trivial fun _=>?_
   clear hK K;refine tt 8 9 ?_;refine r3 10 fun K hK=>?_
   obtain⟨cx,fx,_⟩:=uh H7;go_simp;refine ro hK trivial fun _=>?_
   clear hK K;refine dn ?_ _;go_wp2
   refine zI ?_;exact⟨rfl,H7.out.2.2⟩
  .have cy:=HY.out.2;go_simp;refine ro hK trivial fun _=>?_
   clear hK K;clear cy;refine r3 4 fun K hK=>?_
   have cx:=HY.out.1;go_simp;refine ro hK trivial fun _=>?_
   clear hK K;clear cx;refine r3 7 fun K hK=>?_
   go_simp;refine CP.out.mono ?_;rintro e y7⟨v7,rfl,k1,k2⟩;obtain⟨a7,c7,e7⟩:=k1.form;obtain⟨n7,e9⟩ := ex (((m.b.ln++o.sn).take 40).length);rw[e9]at e7;clear e9;subst e7;have H7:=aa (uh HF y7 _ k1 k2);clear k1 k2 CP HF;refine ro hK trivial fun _=>?_
   clear hK K;refine tt 8 9 ?_;refine r3 10 fun K hK=>?_
   obtain⟨cx,fx,_⟩:=uh H7;go_simp;refine ro hK trivial fun _=>?_
   clear hK K;refine dn ?_ _;go_wp2
   refine zI ?_;exact⟨rfl,H7.out.2.2⟩
 .have HB:=aa (zA h1 f1);have hfol:be m.b o=m.b:=by unfold be;rw[if_neg h0]
  rw[hfol];clear h h1 hb hb1 hE f1 hA hf hBq hWq hK hfol l30;go_enter func28,ntmps28
  refine wp_seq_k fun K hK=>?_
  apply wp_region_lit
  refine Great.wpList_allocTo rfl (some 4) rfl (q,0) (.cells cl.toArray 74) (by simp[go_sem]) ?_;refine hK _ _ ?_;clear hK K;simp only[Act.put,sA,sZ,sS];go_wp2_with fail
  refine bodyPost_ret (results_none rfl _ _ _) rfl ?_;exact⟨rfl,_,_,HB.out.1,HB.out.2⟩
theorem Gw.new{v:Value}{W':World}(h:Below W W W')(hn:∀g,v'.ownBlock=some g->W.heap.size<=g):Gw v v' W W':=fun _ =>
 ⟨h.os,h.tape,h.output,h.size,fun k hk _ _=>h.block k hk,fun g hg=>Or.inr (hn g hg)⟩
theorem zo(h:ML base B m W):Calls prog 30 #[(B,0),(0:Int)] W fun r W'=>r=.returned (.tuple #[])/\ML base B (aI m) W'/\Below base W W':=by
 obtain⟨ca,va,cb,vb,hM⟩:=h;obtain⟨ad,cp,hv⟩:=hM.ha.form;rcases hl:m.a.ln with _|⟨p,r⟩
 .rw [hl]at hv;subst hv;have c60:W.cell? (B,60)=some (.slice ad 0 cp):=hM.cells.2.2.1;rw[show aI m=m by unfold aI;rw[hl]];have HM:=aa hM;clear hM hl;go_enter func30,ntmps30
  go_wp2
  refine zI ?_;exact⟨rfl,⟨_,_,_,_,uh HM⟩,zC _ _⟩
 .have hk:=hM.ha;rw[hl]at hk;have hle:=hM.la;rw[hl,List.length_cons]at hle;obtain⟨g,o,cp2,cur,hv1,q1,q2,q3,q4⟩:=hk.fst;clear hv;subst hv1;rw[BG hl];have c60:W.cell? (B,60)=some (.slice (some (g,o)) (r.length+1) (cp2+1)):=hM.cells.2.2.1;have x0:W.cell? (g,o)=some (.int .i64 p.code):=by rw[cr q1];exact q2
  have x1:W.cell? (g,o+1)=some (.int .i64 p.id):=by rw[cr q1];exact q3
  have x2:W.cell? (g,o+2)=some (.string p.data):=by rw[cr q1];exact q4
  have hb1:Below W W (W.alloc (.cells #[p.code,p.id,p.data] 85)):=(zC _ _).alloc (zD _) _;have hN:=zF W (.cells #[p.code,p.id,p.data] 85);have cA:(W.alloc (.cells #[p.code,p.id,p.data] 85)).cell? (B,60)=some (.slice (some (g,o)) (r.length+1) (cp2+1)):=(hM.below hb1).cells.2.2.1;have CR:=aa (om (hk.below hb1) (by omega));have HF:=aa fun(W2:World) (v2:Value) (k1:HoldsK W2 (W.alloc (.cells #[p.code,p.id,p.data] 85)).heap.size v2 r) (k2:Below (W.alloc (.cells #[p.code,p.id,p.data] 85)).heap.size (W.alloc (.cells #[p.code,p.id,p.data] 85)) W2)=>show W2.cell? (B,60)=some (.slice (some (g,o)) (r.length+1) (cp2+1))/\W2.frozen? (B,60)=false/\Ml base (W2.setCell (B,60) v2) B ⟨dN m.a r,m.b,m.now⟩ ca v2 cb vb/\Below base W (W2.setCell (B,60) v2)/\(W2.setCell (B,60) v2).heap[W.heap.size]?=some (.cells #[p.code,p.id,p.data] 85)from by
   have hb2:Below W W W2:=hb1.trans (k2.mono hb1.size);have h2:=hM.below hb2;obtain⟨g1,g2⟩:=(hM.below hb1).lineA (Gw.new k2 fun g hg=>(k1.lo g hg).1) (k1.mono (zE hM.bs hb1.size)) (by omega:r.length<=40);refine⟨h2.cells.2.2.1,h2.fz _,g1,(hb1.mono hM.bs).trans g2,?_⟩;have hBN:W.heap.size≠B:=by have:=hM.wa.lt;omega
   exact(heap_setCell_other _ (B,60) _ _ hBN).trans ((k2.block _ (by simp)).trans hN)
  have HO:Hid (∀g,vb.ownBlock=some g->g<W.heap.size):=aa fun g hg=>(hM.wb.ownB g hg).2.2.1
  have HBN:Hid (W.heap.size≠B):=aa (by have:=hM.wa.lt;omega);have hl9:=hM.eb.len;have hbs:=hM.bs;have hbB:=hM.bB;clear hM hk hb1 hN q1 q2 q3 q4 hle;obtain⟨pc,pi,pd⟩:=p;dsimp only at x0 x1 x2 CR HF cA;go_enter func30,ntmps30
  go_wp2_with fail
  refine CR.out.mono ?_;rintro e W2⟨v2,rfl,k1,k2⟩;obtain⟨a2,c2,e2⟩:=k1.form;subst e2;obtain⟨c61,f61,h3⟩:=uh HF W2 _ k1 k2;have H3:=aa h3;clear k1 k2 h3 CR HF c60 cA x0 x1 x2;go_upto_region 3 with fail
  generalize W2.setCell (B,60) (.slice a2 r.length c2)=W3 at H3|-;have h3d:=H3.out.1.below (zC _ _).drew;have hN3:W3.drew.heap[W.heap.size]?=some (.cells #[pc,pi,pd] 85):=H3.out.2.2;have CH:=aa (tP h3d.eb ⟨pc,pi,pd⟩ m.now);have CT:=aa fun q cl vs (hA:AnE W3.drew.heap.size q (bn m.b.e m.b.F1 m.b.F2 ⟨pc,pi,pd⟩ m.now) cl vs) (hfv:∀g,vs.ownBlock=some g->W3.drew.heap.size<=g) (hbq:Below W3.drew.heap.size W3.drew q)=>kJ h3d (iF _ _ _ _ _) hA hfv hbq
  have HS:Hid (∀q,Below W3.drew.heap.size W3.drew q->q.cell? (W,0)=some (.int .i64 pc)/\q.cell? (W,1)=some (.int .i64 pi)/\q.cell? (W,2)=some (.string pd)/\q.cell? (B,62)=some (m.now:V)):=aa fun q hq=>by
   have e3:=(hq.block _ (ge.1 hN3).1).trans hN3;exact⟨cv e3,cv e3,cv e3,(h3d.below hq).cells.2.2.2.2⟩
  have HZ:Hid (∀q c' v',Ml base q B ⟨dN m.a r,be m.b (bn m.b.e m.b.F1 m.b.F2 ⟨pc,pi,pd⟩ m.now),m.now⟩ ca (a2,r.length,c2) c' v'->Fr B vb v' W3.drew q->(q.cell? (W,0)=some (.int .i64 pc)/\q.cell? (W,1)=some (.int .i64 pi)/\q.cell? (W,2)=some (.string pd)/\q.cell? (B,62)=some (m.now:V))/\ML base B ⟨dN m.a r,fk m.b ⟨pc,pi,pd⟩ m.now,m.now⟩ q/\Below base W q):=aa fun q c' v' hq fr=>by
   have e3:=(fr.same _ (ge.1 hN3).1 HBN.out (fun e=>by have:=uh HO _ e;omega)).trans hN3;refine⟨⟨cv e3,cv e3,cv e3,hq.cells.2.2.2.2⟩,⟨_,_,_,_,hq⟩,H3.out.2.1.trans (((zC base W3).drew).trans (fr.low hbB (fun g hg=>(h3d.wb.ownB g hg).2.1) h3d.bs))⟩
  have rg:W3.drew.rangeAt B 30 cb:=h3d.cells.2.1;have hS0:=uh HS W3.drew (zC _ _);clear h3d hN3 H3 HO HBN c61 f61 hbs hbB;generalize W.heap.size=N at*;refine wp_region_held_drew (S:=fun z=>z.cell? (N,0)=some (.int .i64 pc)/\z.cell? (N,1)=some (.int .i64 pi)/\z.cell? (N,2)=some (.string pd)/\z.cell? (B,62)=some (m.now:V)) (by kernel_rfl) hS0 (fun hHeld=>?_);refine tq 0 1 2 3 ?_;refine tq 5 6 7 8 ?_;refine t2 9 ?_;refine r3 4 fun K hK=>?_
  rw[if_pos (by rfl)];refine wp_load_mid 32 (.tmp 34) rfl B 30 rfl cb _ rg underlying32 rfl (by rw[hl9];exact aL) ?_;refine ro hK hS0 fun _=>?_
  clear hK K rg;refine r3 10 fun K hK=>?_
  go_simp;refine CH.out.mono ?_;rintro r9 q⟨cl,vs,rfl,hA,hfv,hbq⟩;have hS1:=uh HS q hbq;have HQ:=aa (uh CT q cl vs hA hfv hbq);clear CH CT hA hfv hbq hS0 HS;refine ro hK hS1 fun _=>?_
  clear hK K;refine r3 11 fun K hK=>?_
  go_simp;refine HQ.out.mono ?_;rintro e W'⟨rfl,c',v',hs,hfr⟩;have H9:=aa (uh HZ W' c' v' hs hfr);clear HQ HZ hs hfr hS1;refine ro hK H9.out.1 fun _=>?_
  clear hK K;refine dn ?_ _;go_wp2
  refine zI ?_;exact⟨rfl,H9.out.2⟩
theorem zp(h:ML base B m W):Calls prog 30 #[(B,0),(3:Int)] W fun r W'=>r=.returned (.tuple #[])/\ML base B (aN m) W'/\Below base W W':=by
 obtain⟨ca,va,cb,vb,hM⟩:=h;obtain⟨ad,cp,hv⟩:=hM.hb.form;rcases hl:m.b.ln with _|⟨p,r⟩
 .rw [hl]at hv;subst hv;have c60:W.cell? (B,61)=some (.slice ad 0 cp):=hM.cells.2.2.2.1;rw[show aN m=m by unfold aN;rw[hl]];have HM:=aa hM;clear hM hl;go_enter func30,ntmps30
  go_wp2
  refine zI ?_;exact⟨rfl,⟨_,_,_,_,uh HM⟩,zC _ _⟩
 .have hk:=hM.hb;rw[hl]at hk;have hle:=hM.lb;rw[hl,List.length_cons]at hle;obtain⟨g,o,cp2,cur,hv1,q1,q2,q3,q4⟩:=hk.fst;clear hv;subst hv1;rw[BH hl];have c60:W.cell? (B,61)=some (.slice (some (g,o)) (r.length+1) (cp2+1)):=hM.cells.2.2.2.1;have x0:W.cell? (g,o)=some (.int .i64 p.code):=by rw[cr q1];exact q2
  have x1:W.cell? (g,o+1)=some (.int .i64 p.id):=by rw[cr q1];exact q3
  have x2:W.cell? (g,o+2)=some (.string p.data):=by rw[cr q1];exact q4
  have hb1:Below W W (W.alloc (.cells #[p.code,p.id,p.data] 85)):=(zC _ _).alloc (zD _) _;have hN:=zF W (.cells #[p.code,p.id,p.data] 85);have cA:(W.alloc (.cells #[p.code,p.id,p.data] 85)).cell? (B,61)=some (.slice (some (g,o)) (r.length+1) (cp2+1)):=(hM.below hb1).cells.2.2.2.1;have CR:=aa (om (hk.below hb1) (by omega));have HF:=aa fun(W2:World) (v2:Value) (k1:HoldsK W2 (W.alloc (.cells #[p.code,p.id,p.data] 85)).heap.size v2 r) (k2:Below (W.alloc (.cells #[p.code,p.id,p.data] 85)).heap.size (W.alloc (.cells #[p.code,p.id,p.data] 85)) W2)=>show W2.cell? (B,61)=some (.slice (some (g,o)) (r.length+1) (cp2+1))/\W2.frozen? (B,61)=false/\Ml base (W2.setCell (B,61) v2) B ⟨m.a,dN m.b r,m.now⟩ ca va cb v2/\Below base W (W2.setCell (B,61) v2)/\(W2.setCell (B,61) v2).heap[W.heap.size]?=some (.cells #[p.code,p.id,p.data] 85)from by
   have hb2:Below W W W2:=hb1.trans (k2.mono hb1.size);have h2:=hM.below hb2;obtain⟨g1,g2⟩:=(hM.below hb1).lineB (Gw.new k2 fun g hg=>(k1.lo g hg).1) (k1.mono (zE hM.bs hb1.size)) (by omega:r.length<=40);refine⟨h2.cells.2.2.2.1,h2.fz _,g1,(hb1.mono hM.bs).trans g2,?_⟩;have hBN:W.heap.size≠B:=by have:=hM.wb.lt;omega
   exact(heap_setCell_other _ (B,61) _ _ hBN).trans ((k2.block _ (by simp)).trans hN)
  have HO:Hid (∀g,va.ownBlock=some g->g<W.heap.size):=aa fun g hg=>(hM.wa.ownB g hg).2.2.1
  have HBN:Hid (W.heap.size≠B):=aa (by have:=hM.wb.lt;omega);have hl9:=hM.ea.len;have hbs:=hM.bs;have hbB:=hM.bB;clear hM hk hb1 hN q1 q2 q3 q4 hle;obtain⟨pc,pi,pd⟩:=p;dsimp only at x0 x1 x2 CR HF cA;go_enter func30,ntmps30
  go_wp2_with fail
  refine CR.out.mono ?_;rintro e W2⟨v2,rfl,k1,k2⟩;obtain⟨a2,c2,e2⟩:=k1.form;subst e2;obtain⟨c61,f61,h3⟩:=uh HF W2 _ k1 k2;have H3:=aa h3;clear k1 k2 h3 CR HF c60 cA x0 x1 x2;go_upto_region 11 with fail
  generalize W2.setCell (B,61) (.slice a2 r.length c2)=W3 at H3|-;have h3d:=H3.out.1.below (zC _ _).drew;have hN3:W3.drew.heap[W.heap.size]?=some (.cells #[pc,pi,pd] 85):=H3.out.2.2;have CH:=aa (tP h3d.ea ⟨pc,pi,pd⟩ m.now);have CT:=aa fun q cl vs (hA:AnE W3.drew.heap.size q (bn m.a.e m.a.F1 m.a.F2 ⟨pc,pi,pd⟩ m.now) cl vs) (hfv:∀g,vs.ownBlock=some g->W3.drew.heap.size<=g) (hbq:Below W3.drew.heap.size W3.drew q)=>kI h3d (iF _ _ _ _ _) hA hfv hbq
  have HS:Hid (∀q,Below W3.drew.heap.size W3.drew q->q.cell? (W,0)=some (.int .i64 pc)/\q.cell? (W,1)=some (.int .i64 pi)/\q.cell? (W,2)=some (.string pd)/\q.cell? (B,62)=some (m.now:V)):=aa fun q hq=>by
   have e3:=(hq.block _ (ge.1 hN3).1).trans hN3;exact⟨cv e3,cv e3,cv e3,(h3d.below hq).cells.2.2.2.2⟩
  have HZ:Hid (∀q c' v',Ml base q B ⟨be m.a (bn m.a.e m.a.F1 m.a.F2 ⟨pc,pi,pd⟩ m.now),dN m.b r,m.now⟩ c' v' cb (.slice a2 r.length c2)->Fr B va v' W3.drew q->(q.cell? (W,0)=some (.int .i64 pc)/\q.cell? (W,1)=some (.int .i64 pi)/\q.cell? (W,2)=some (.string pd)/\q.cell? (B,62)=some (m.now:V))/\ML base B ⟨fk m.a ⟨pc,pi,pd⟩ m.now,dN m.b r,m.now⟩ q/\Below base W q):=aa fun q c' v' hq fr=>by
   have e3:=(fr.same _ (ge.1 hN3).1 HBN.out (fun e=>by have:=uh HO _ e;omega)).trans hN3;refine⟨⟨cv e3,cv e3,cv e3,hq.cells.2.2.2.2⟩,⟨_,_,_,_,hq⟩,H3.out.2.1.trans (((zC base W3).drew).trans (fr.low hbB (fun g hg=>(h3d.wa.ownB g hg).2.1) h3d.bs))⟩
  have rg:W3.drew.rangeAt B 0 ca:=h3d.cells.1;have hS0:=uh HS W3.drew (zC _ _);clear h3d hN3 H3 HO HBN c61 f61 hbs hbB;generalize W.heap.size=N at*;refine wp_region_held_drew (S:=fun z=>z.cell? (N,0)=some (.int .i64 pc)/\z.cell? (N,1)=some (.int .i64 pi)/\z.cell? (N,2)=some (.string pd)/\z.cell? (B,62)=some (m.now:V)) (by kernel_rfl) hS0 (fun hHeld=>?_);refine tq 0 1 2 3 ?_;refine tq 5 6 7 8 ?_;refine t2 9 ?_;refine r3 4 fun K hK=>?_
  rw[if_pos (by rfl)];refine wp_load_mid 32 (.tmp 124) rfl B 0 rfl ca _ rg underlying32 rfl (by rw[hl9];exact aL) ?_;refine ro hK hS0 fun _=>?_
  clear hK K rg;refine r3 10 fun K hK=>?_
  go_simp;refine CH.out.mono ?_;rintro r9 q⟨cl,vs,rfl,hA,hfv,hbq⟩;have hS1:=uh HS q hbq;have HQ:=aa (uh CT q cl vs hA hfv hbq);clear CH CT hA hfv hbq hS0 HS;refine ro hK hS1 fun _=>?_
  clear hK K;refine r3 11 fun K hK=>?_
  go_simp;refine HQ.out.mono ?_;rintro e W'⟨rfl,c',v',hs,hfr⟩;have H9:=aa (uh HZ W' c' v' hs hfr);clear HQ HZ hs hfr hS1;refine ro hK H9.out.1 fun _=>?_
  clear hK K;refine dn ?_ _;go_wp2
  refine zI ?_;exact⟨rfl,H9.out.2⟩
theorem zq(h:ML base B m W):Calls prog 30 #[(B,0),(1:Int)] W fun r W'=>r=.returned (.tuple #[])/\ML base B (⟨dN m.a m.a.ln.tail,m.b,m.now⟩) W'/\Below base W W':=by
 obtain⟨ca,va,cb,vb,hM⟩:=h;obtain⟨ad,cp,hv⟩:=hM.ha.form;rcases hl:m.a.ln with _|⟨p,r⟩
 .rw [hl]at hv;subst hv;have c60:W.cell? (B,60)=some (.slice ad 0 cp):=hM.cells.2.2.1;rw[show(⟨dN m.a ([]:List Op.Pk).tail,m.b,m.now⟩:Mw)=m by show(⟨dN m.a [],m.b,m.now⟩:Mw)=m;rw[<- hl];rfl];have HM:=aa hM;clear hM hl;go_enter func30,ntmps30
  go_wp2
  refine zI ?_;exact⟨rfl,⟨_,_,_,_,uh HM⟩,zC _ _⟩
 .rw [List.tail_cons];have hk:=hM.ha;rw[hl]at hk;have hle:=hM.la;rw[hl,List.length_cons]at hle;obtain⟨g,o,cp2,hv1,_⟩:=hk.first;clear hv;subst hv1;have c60:W.cell? (B,60)=some (.slice (some (g,o)) (r.length+1) (cp2+1)):=hM.cells.2.2.1;have CR:=aa (om hk (by omega));have HF:=aa fun(W2:World) (v2:Value) (k1:HoldsK W2 W v2 r) (k2:Below W W W2)=>show W2.cell? (B,60)=some (.slice (some (g,o)) (r.length+1) (cp2+1))/\W2.frozen? (B,60)=false/\Ml base (W2.setCell (B,60) v2) B ⟨dN m.a r,m.b,m.now⟩ ca v2 cb vb/\Below base W (W2.setCell (B,60) v2)from by
   have h2:=hM.below k2;obtain⟨g1,g2⟩:=hM.lineA (Gw.new k2 fun g hg=>(k1.lo g hg).1) (k1.mono hM.bs) (by omega:r.length<=40);exact⟨h2.cells.2.2.1,h2.fz _,g1,g2⟩
  clear hM hk hle;go_enter func30,ntmps30
  go_wp2_with fail
  refine CR.out.mono ?_;rintro e W2⟨v2,rfl,k1,k2⟩;obtain⟨a2,c2,e2⟩:=k1.form;subst e2;obtain⟨c61,f61,h3⟩:=uh HF W2 _ k1 k2;have H3:=aa h3;clear k1 k2 h3 CR HF c60;go_wp2
  refine zI ?_;exact⟨rfl,⟨_,_,_,_,H3.out.1⟩,H3.out.2⟩
theorem zr(h:ML base B m W):Calls prog 30 #[(B,0),(4:Int)] W fun r W'=>r=.returned (.tuple #[])/\ML base B (⟨m.a,dN m.b m.b.ln.tail,m.now⟩) W'/\Below base W W':=by
 obtain⟨ca,va,cb,vb,hM⟩:=h;obtain⟨ad,cp,hv⟩:=hM.hb.form;rcases hl:m.b.ln with _|⟨p,r⟩
 .rw [hl]at hv;subst hv;have c60:W.cell? (B,61)=some (.slice ad 0 cp):=hM.cells.2.2.2.1;rw[show(⟨m.a,dN m.b ([]:List Op.Pk).tail,m.now⟩:Mw)=m by show(⟨m.a,dN m.b [],m.now⟩:Mw)=m;rw[<- hl];rfl];have HM:=aa hM;clear hM hl;go_enter func30,ntmps30
  go_wp2
  refine zI ?_;exact⟨rfl,⟨_,_,_,_,uh HM⟩,zC _ _⟩
 .rw [List.tail_cons];have hk:=hM.hb;rw[hl]at hk;have hle:=hM.lb;rw[hl,List.length_cons]at hle;obtain⟨g,o,cp2,hv1,_⟩:=hk.first;clear hv;subst hv1;have c60:W.cell? (B,61)=some (.slice (some (g,o)) (r.length+1) (cp2+1)):=hM.cells.2.2.2.1;have CR:=aa (om hk (by omega));have HF:=aa fun(W2:World) (v2:Value) (k1:HoldsK W2 W v2 r) (k2:Below W W W2)=>show W2.cell? (B,61)=some (.slice (some (g,o)) (r.length+1) (cp2+1))/\W2.frozen? (B,61)=false/\Ml base (W2.setCell (B,61) v2) B ⟨m.a,dN m.b r,m.now⟩ ca va cb v2/\Below base W (W2.setCell (B,61) v2)from by
   have h2:=hM.below k2;obtain⟨g1,g2⟩:=hM.lineB (Gw.new k2 fun g hg=>(k1.lo g hg).1) (k1.mono hM.bs) (by omega:r.length<=40);exact⟨h2.cells.2.2.2.1,h2.fz _,g1,g2⟩
  clear hM hk hle;go_enter func30,ntmps30
  go_wp2_with fail
  refine CR.out.mono ?_;rintro e W2⟨v2,rfl,k1,k2⟩;obtain⟨a2,c2,e2⟩:=k1.form;subst e2;obtain⟨c61,f61,h3⟩:=uh HF W2 _ k1 k2;have H3:=aa h3;clear k1 k2 h3 CR HF c60;go_wp2
  refine zI ?_;exact⟨rfl,⟨_,_,_,_,H3.out.1⟩,H3.out.2⟩
theorem zu(h:ML base B m W):Calls prog 30 #[(B,0),(2:Int)] W fun r W'=>r=.returned (.tuple #[])/\ML base B (⟨dN m.a (ml m.a.ln),m.b,m.now⟩) W'/\Below base W W':=by
 obtain⟨ca,va,cb,vb,hM⟩:=h;obtain⟨ad,cp,hv⟩:=hM.ha.form;rcases hl:m.a.ln with _|⟨p,r⟩
 .rw [hl]at hv;subst hv;have c60:W.cell? (B,60)=some (.slice ad 0 cp):=hM.cells.2.2.1;rw[show(⟨dN m.a (ml []),m.b,m.now⟩:Mw)=m by show(⟨dN m.a ([]),m.b,m.now⟩:Mw)=m;rw[<- hl];rfl];have HM:=aa hM;clear hM hl;go_enter func30,ntmps30
  go_wp2
  refine zI ?_;exact⟨rfl,⟨_,_,_,_,uh HM⟩,zC _ _⟩
 .have hk:=hM.ha;rw[hl]at hk;have hle:=hM.la;rw[hl,List.length_cons]at hle;obtain⟨g,o,cp2,cur,hv1,q1,q2,q3,q4⟩:=hk.fst;clear hv;subst hv1;by_cases h40:r.length+1<40
  .rw [show ml (p::r)=p::p::r from if_pos h40];have d2:(r.length:Int)+1<40:=by omega
   have hg:=(ge.1 q1).1;have HC:Hid (∀y,Below W W y->y.cell? (B,60)=some (.slice (some (g,o)) (r.length+1) (cp2+1))/\y.cell? (g,o)=some (.int .i64 p.code)/\y.cell? (g,o+1)=some (.int .i64 p.id)/\y.cell? (g,o+2)=some (.string p.data)/\y.frozen? (B,60)=false):=aa fun y hy=>by
    have e1:=(hy.block g hg).trans q1;exact⟨(hM.below hy).cells.2.2.1,by rw[cr e1];exact q2,by rw[cr e1];exact q3,by rw[cr e1];exact q4,(hM.below hy).fz _⟩
   have HNw:Hid (∀y,Below W W y->Below W W (y.alloc (.cells #[p.code,p.id,p.data] 85))/\∀ty,∃v' w',(Builtin.append_ #[60,60] ty #[.slice (some (y,0)) 1 1,.slice (some (g,o)) (r.length+1) (cp2+1)]).run prog (y.alloc (.cells #[p.code,p.id,p.data] 85))=.ok v' w'/\(HoldsK w' W v' (p::p::r)/\Below W W w')):=aa fun y hy=>by
    have hya:Below W W (y.alloc (.cells #[p.code,p.id,p.data] 85)):=hy.alloc hy.size _;refine⟨hya,fun ty=>?_⟩;obtain⟨v',w',h1,h2,h3⟩:=fh (base:=y.heap.size) (D:=[p]) (F:=p::r) ty rfl (zD 1) (kH y [p] (by simp)) (hk.below hya) (by simp) (by simp;omega) (by simp);exact⟨v',w',h1,h2.mono hy.size,hya.trans ⟨h3.os,h3.tape,h3.output,h3.size,fun k hk=>h3.block k (Nat.lt_of_lt_of_le hk hya.size) (fun e=>by cases e;have:=hy.size;omega)⟩⟩
   have HF:=aa fun(y9:World) (v9:Value) (k1:HoldsK y9 W v9 (p::p::r)) (k2:Below W W y9)=>show y9.cell? (B,60)=some (.slice (some (g,o)) (r.length+1) (cp2+1))/\y9.frozen? (B,60)=false/\Ml base (y9.setCell (B,60) v9) B ⟨dN m.a (p::p::r),m.b,m.now⟩ ca v9 cb vb/\Below base W (y9.setCell (B,60) v9)from by
    have h2:=hM.below k2;obtain⟨g1,g2⟩:=hM.lineA (Gw.new k2 fun g hg=>(k1.lo g hg).1) (k1.mono hM.bs) (by simp;omega:(p::p::r).length<=40);exact⟨h2.cells.2.2.1,h2.fz _,g1,g2⟩
   obtain⟨c60,_⟩:=uh HC W (zC _ _);have HB0:Hid (Below W W W.drew):=aa (zC _ _).drew;clear hM hk hle q1 q2 q3 q4 hl hg;obtain⟨pc,pi,pd⟩:=p;dsimp only at HC HNw HF;go_enter func30,ntmps30
   go_upto_region 7 with fail
   refine wp_region_held_drew (S:=fun _=>True) (by kernel_rfl) trivial (fun hHeld=>?_);clear c60;generalize W.drew=y0 at HB0|-;refine tq 0 1 2 3 ?_;refine tt 8 9 ?_;refine t2 10 ?_;refine r4 4 11 (fun K hK=>?_) (fun K hK=>?_)
   .obtain ⟨cx,_⟩:=uh HC _ HB0.out;go_simp;refine ro hK trivial fun _=>?_
    clear hK K;clear cx;refine t2 5 ?_;refine r4 6 11 (fun K hK=>?_) (fun K hK=>?_)
    .obtain ⟨_,x0,x1,x2,_⟩:=uh HC _ HB0.out;go_simp;refine ro hK trivial fun _=>?_
     clear hK K;clear x0 x1 x2;refine r4 7 11 (fun K hK=>?_) (fun K hK=>?_)
     .have HN7:=aa (uh HNw _ HB0.out);go_simp;refine ro hK trivial fun _=>?_
      clear hK K;generalize y0.heap.size=N7 at HN7|-;generalize y0.alloc (.cells #[pc,pi,pd] 85)=y7 at HN7|-;have HB7:=aa HN7.out.1;refine r3 11 fun K hK=>?_
      obtain⟨cx,_⟩:=uh HC _ HB7.out;go_simp;refine ro hK trivial fun _=>?_
      clear hK K;clear cx;refine r3 12 fun K hK=>?_
      refine bG _ _ rfl rfl rfl HN7.out.2 ?_;intro v9 y9 hP;obtain⟨k1,k2⟩:=hP;obtain⟨a9,c9,e9⟩:=k1.form;obtain⟨n9,en9⟩ := ex (((⟨pc,pi,pd⟩:Op.Pk)::⟨pc,pi,pd⟩::r).length);rw[en9]at e9;clear en9;subst e9;have H9:=aa (uh HF y9 _ k1 k2);clear k1 k2 HN7 HF;refine ro hK trivial fun _=>?_
      clear hK K;refine tt 13 14 ?_;refine r3 15 fun K hK=>?_
      obtain⟨cx,fx,_⟩:=uh H9;go_simp;refine ro hK trivial fun _=>?_
      clear hK K;refine dn ?_ _;go_wp2
      refine zI ?_;exact⟨rfl,⟨_,_,_,_,H9.out.2.2.1⟩,H9.out.2.2.2⟩
     .obtain ⟨cx,_⟩:=uh HC _ HB0.out;go_simp;refine ro hK trivial fun _=>?_
      clear hK K;clear cx;refine r3 7 fun K hK=>?_
      have HN7:=aa (uh HNw _ HB0.out);go_simp;refine ro hK trivial fun _=>?_
      clear hK K;generalize y0.heap.size=N7 at HN7|-;generalize y0.alloc (.cells #[pc,pi,pd] 85)=y7 at HN7|-;have HB7:=aa HN7.out.1;refine r3 12 fun K hK=>?_
      refine bG _ _ rfl rfl rfl HN7.out.2 ?_;intro v9 y9 hP;obtain⟨k1,k2⟩:=hP;obtain⟨a9,c9,e9⟩:=k1.form;obtain⟨n9,en9⟩ := ex (((⟨pc,pi,pd⟩:Op.Pk)::⟨pc,pi,pd⟩::r).length);rw[en9]at e9;clear en9;subst e9;have H9:=aa (uh HF y9 _ k1 k2);clear k1 k2 HN7 HF;refine ro hK trivial fun _=>?_
      clear hK K;refine tt 13 14 ?_;refine r3 15 fun K hK=>?_
      obtain⟨cx,fx,_⟩:=uh H9;go_simp;refine ro hK trivial fun _=>?_
      clear hK K;refine dn ?_ _;go_wp2
      refine zI ?_;exact⟨rfl,⟨_,_,_,_,H9.out.2.2.1⟩,H9.out.2.2.2⟩
    .obtain ⟨cx,_⟩:=uh HC _ HB0.out;go_simp;refine ro hK trivial fun _=>?_
     clear hK K;clear cx;refine r3 6 fun K hK=>?_
     obtain⟨_,x0,x1,x2,_⟩:=uh HC _ HB0.out;go_simp;refine ro hK trivial fun _=>?_
     clear hK K;clear x0 x1 x2;refine r3 7 fun K hK=>?_
     have HN7:=aa (uh HNw _ HB0.out);go_simp;refine ro hK trivial fun _=>?_
     clear hK K;generalize y0.heap.size=N7 at HN7|-;generalize y0.alloc (.cells #[pc,pi,pd] 85)=y7 at HN7|-;have HB7:=aa HN7.out.1;refine r3 12 fun K hK=>?_
     refine bG _ _ rfl rfl rfl HN7.out.2 ?_;intro v9 y9 hP;obtain⟨k1,k2⟩:=hP;obtain⟨a9,c9,e9⟩:=k1.form;obtain⟨n9,en9⟩ := ex (((⟨pc,pi,pd⟩:Op.Pk)::⟨pc,pi,pd⟩::r).length);rw[en9]at e9;clear en9;subst e9;have H9:=aa (uh HF y9 _ k1 k2);clear k1 k2 HN7 HF;refine ro hK trivial fun _=>?_
     clear hK K;refine tt 13 14 ?_;refine r3 15 fun K hK=>?_
     obtain⟨cx,fx,_⟩:=uh H9;go_simp;refine ro hK trivial fun _=>?_
     clear hK K;refine dn ?_ _;go_wp2
     refine zI ?_;exact⟨rfl,⟨_,_,_,_,H9.out.2.2.1⟩,H9.out.2.2.2⟩
   .obtain ⟨cx,_⟩:=uh HC _ HB0.out;go_simp;refine ro hK trivial fun _=>?_
    clear hK K;clear cx;refine r3 4 fun K hK=>?_
    obtain⟨cx,_⟩:=uh HC _ HB0.out;go_simp;refine ro hK trivial fun _=>?_
    clear hK K;clear cx;refine t2 5 ?_;refine r3 6 fun K hK=>?_
    obtain⟨_,x0,x1,x2,_⟩:=uh HC _ HB0.out;go_simp;refine ro hK trivial fun _=>?_
    clear hK K;clear x0 x1 x2;refine r3 7 fun K hK=>?_
    have HN7:=aa (uh HNw _ HB0.out);go_simp;refine ro hK trivial fun _=>?_
    clear hK K;generalize y0.heap.size=N7 at HN7|-;generalize y0.alloc (.cells #[pc,pi,pd] 85)=y7 at HN7|-;have HB7:=aa HN7.out.1;refine r3 12 fun K hK=>?_
    refine bG _ _ rfl rfl rfl HN7.out.2 ?_;intro v9 y9 hP;obtain⟨k1,k2⟩:=hP;obtain⟨a9,c9,e9⟩:=k1.form;obtain⟨n9,en9⟩ := ex (((⟨pc,pi,pd⟩:Op.Pk)::⟨pc,pi,pd⟩::r).length);rw[en9]at e9;clear en9;subst e9;have H9:=aa (uh HF y9 _ k1 k2);clear k1 k2 HN7 HF;refine ro hK trivial fun _=>?_
    clear hK K;refine tt 13 14 ?_;refine r3 15 fun K hK=>?_
    obtain⟨cx,fx,_⟩:=uh H9;go_simp;refine ro hK trivial fun _=>?_
    clear hK K;refine dn ?_ _;go_wp2
    refine zI ?_;exact⟨rfl,⟨_,_,_,_,H9.out.2.2.1⟩,H9.out.2.2.2⟩
  .rw [show ml (p::r)=p::r from if_neg (by simpa using h40)];have d2:¬((r.length:Int)+1<40):=by omega
   have c60:W.cell? (B,60)=some (.slice (some (g,o)) (r.length+1) (cp2+1)):=hM.cells.2.2.1;rw[show(⟨dN m.a (p::r),m.b,m.now⟩:Mw)=m by rw[<- hl];rfl];have HM:=aa hM;clear hM hk hle q1 q2 q3 q4 hl;go_enter func30,ntmps30
   go_wp2
   refine zI ?_;exact⟨rfl,⟨_,_,_,_,uh HM⟩,zC _ _⟩
theorem Hf(h:ML base B m W):Calls prog 30 #[(B,0),(5:Int)] W fun r W'=>r=.returned (.tuple #[])/\ML base B (⟨m.a,dN m.b (ml m.b.ln),m.now⟩) W'/\Below base W W':=by
 obtain⟨ca,va,cb,vb,hM⟩:=h;obtain⟨ad,cp,hv⟩:=hM.hb.form;rcases hl:m.b.ln with _|⟨p,r⟩
 .rw [hl]at hv;subst hv;have c60:W.cell? (B,61)=some (.slice ad 0 cp):=hM.cells.2.2.2.1;rw[show(⟨m.a,dN m.b (ml []),m.now⟩:Mw)=m by show(⟨m.a,dN m.b ([]),m.now⟩:Mw)=m;rw[<- hl];rfl];have HM:=aa hM;clear hM hl;go_enter func30,ntmps30
  go_wp2
  refine zI ?_;exact⟨rfl,⟨_,_,_,_,uh HM⟩,zC _ _⟩
 .have hk:=hM.hb;rw[hl]at hk;have hle:=hM.lb;rw[hl,List.length_cons]at hle;obtain⟨g,o,cp2,cur,hv1,q1,q2,q3,q4⟩:=hk.fst;clear hv;subst hv1;by_cases h40:r.length+1<40
  .rw [show ml (p::r)=p::p::r from if_pos h40];have d2:(r.length:Int)+1<40:=by omega
   have hg:=(ge.1 q1).1;have HC:Hid (∀y,Below W W y->y.cell? (B,61)=some (.slice (some (g,o)) (r.length+1) (cp2+1))/\y.cell? (g,o)=some (.int .i64 p.code)/\y.cell? (g,o+1)=some (.int .i64 p.id)/\y.cell? (g,o+2)=some (.string p.data)/\y.frozen? (B,61)=false):=aa fun y hy=>by
    have e1:=(hy.block g hg).trans q1;exact⟨(hM.below hy).cells.2.2.2.1,by rw[cr e1];exact q2,by rw[cr e1];exact q3,by rw[cr e1];exact q4,(hM.below hy).fz _⟩
   have HNw:Hid (∀y,Below W W y->Below W W (y.alloc (.cells #[p.code,p.id,p.data] 85))/\∀ty,∃v' w',(Builtin.append_ #[60,60] ty #[.slice (some (y,0)) 1 1,.slice (some (g,o)) (r.length+1) (cp2+1)]).run prog (y.alloc (.cells #[p.code,p.id,p.data] 85))=.ok v' w'/\(HoldsK w' W v' (p::p::r)/\Below W W w')):=aa fun y hy=>by
    have hya:Below W W (y.alloc (.cells #[p.code,p.id,p.data] 85)):=hy.alloc hy.size _;refine⟨hya,fun ty=>?_⟩;obtain⟨v',w',h1,h2,h3⟩:=fh (base:=y.heap.size) (D:=[p]) (F:=p::r) ty rfl (zD 1) (kH y [p] (by simp)) (hk.below hya) (by simp) (by simp;omega) (by simp);exact⟨v',w',h1,h2.mono hy.size,hya.trans ⟨h3.os,h3.tape,h3.output,h3.size,fun k hk=>h3.block k (Nat.lt_of_lt_of_le hk hya.size) (fun e=>by cases e;have:=hy.size;omega)⟩⟩
   have HF:=aa fun(y9:World) (v9:Value) (k1:HoldsK y9 W v9 (p::p::r)) (k2:Below W W y9)=>show y9.cell? (B,61)=some (.slice (some (g,o)) (r.length+1) (cp2+1))/\y9.frozen? (B,61)=false/\Ml base (y9.setCell (B,61) v9) B ⟨m.a,dN m.b (p::p::r),m.now⟩ ca va cb v9/\Below base W (y9.setCell (B,61) v9)from by
    have h2:=hM.below k2;obtain⟨g1,g2⟩:=hM.lineB (Gw.new k2 fun g hg=>(k1.lo g hg).1) (k1.mono hM.bs) (by simp;omega:(p::p::r).length<=40);exact⟨h2.cells.2.2.2.1,h2.fz _,g1,g2⟩
   obtain⟨c60,_⟩:=uh HC W (zC _ _);have HB0:Hid (Below W W W.drew):=aa (zC _ _).drew;clear hM hk hle q1 q2 q3 q4 hl hg;obtain⟨pc,pi,pd⟩:=p;dsimp only at HC HNw HF;go_enter func30,ntmps30
   go_upto_region 15 with fail
   refine wp_region_held_drew (S:=fun _=>True) (by kernel_rfl) trivial (fun hHeld=>?_);clear c60;generalize W.drew=y0 at HB0|-;refine tq 0 1 2 3 ?_;refine tt 8 9 ?_;refine t2 10 ?_;refine r4 4 11 (fun K hK=>?_) (fun K hK=>?_)
   .obtain ⟨cx,_⟩:=uh HC _ HB0.out;go_simp;refine ro hK trivial fun _=>?_
    clear hK K;clear cx;refine t2 5 ?_;refine r4 6 11 (fun K hK=>?_) (fun K hK=>?_)
    .obtain ⟨_,x0,x1,x2,_⟩:=uh HC _ HB0.out;go_simp;refine ro hK trivial fun _=>?_
     clear hK K;clear x0 x1 x2;refine r4 7 11 (fun K hK=>?_) (fun K hK=>?_)
     .have HN7:=aa (uh HNw _ HB0.out);go_simp;refine ro hK trivial fun _=>?_
      clear hK K;generalize y0.heap.size=N7 at HN7|-;generalize y0.alloc (.cells #[pc,pi,pd] 85)=y7 at HN7|-;have HB7:=aa HN7.out.1;refine r3 11 fun K hK=>?_
      obtain⟨cx,_⟩:=uh HC _ HB7.out;go_simp;refine ro hK trivial fun _=>?_
      clear hK K;clear cx;refine r3 12 fun K hK=>?_
      refine bG _ _ rfl rfl rfl HN7.out.2 ?_;intro v9 y9 hP;obtain⟨k1,k2⟩:=hP;obtain⟨a9,c9,e9⟩:=k1.form;obtain⟨n9,en9⟩ := ex (((⟨pc,pi,pd⟩:Op.Pk)::⟨pc,pi,pd⟩::r).length);rw[en9]at e9;clear en9;subst e9;have H9:=aa (uh HF y9 _ k1 k2);clear k1 k2 HN7 HF;refine ro hK trivial fun _=>?_
      clear hK K;refine tt 13 14 ?_;refine r3 15 fun K hK=>?_
      obtain⟨cx,fx,_⟩:=uh H9;go_simp;refine ro hK trivial fun _=>?_
      clear hK K;refine dn ?_ _;go_wp2
      refine zI ?_;exact⟨rfl,⟨_,_,_,_,H9.out.2.2.1⟩,H9.out.2.2.2⟩
     .obtain ⟨cx,_⟩:=uh HC _ HB0.out;go_simp;refine ro hK trivial fun _=>?_
      clear hK K;clear cx;refine r3 7 fun K hK=>?_
      have HN7:=aa (uh HNw _ HB0.out);go_simp;refine ro hK trivial fun _=>?_
      clear hK K;generalize y0.heap.size=N7 at HN7|-;generalize y0.alloc (.cells #[pc,pi,pd] 85)=y7 at HN7|-;have HB7:=aa HN7.out.1;refine r3 12 fun K hK=>?_
      refine bG _ _ rfl rfl rfl HN7.out.2 ?_;intro v9 y9 hP;obtain⟨k1,k2⟩:=hP;obtain⟨a9,c9,e9⟩:=k1.form;obtain⟨n9,en9⟩ := ex (((⟨pc,pi,pd⟩:Op.Pk)::⟨pc,pi,pd⟩::r).length);rw[en9]at e9;clear en9;subst e9;have H9:=aa (uh HF y9 _ k1 k2);clear k1 k2 HN7 HF;refine ro hK trivial fun _=>?_
      clear hK K;refine tt 13 14 ?_;refine r3 15 fun K hK=>?_
      obtain⟨cx,fx,_⟩:=uh H9;go_simp;refine ro hK trivial fun _=>?_
      clear hK K;refine dn ?_ _;go_wp2
      refine zI ?_;exact⟨rfl,⟨_,_,_,_,H9.out.2.2.1⟩,H9.out.2.2.2⟩
    .obtain ⟨cx,_⟩:=uh HC _ HB0.out;go_simp;refine ro hK trivial fun _=>?_
     clear hK K;clear cx;refine r3 6 fun K hK=>?_
     obtain⟨_,x0,x1,x2,_⟩:=uh HC _ HB0.out;go_simp;refine ro hK trivial fun _=>?_
     clear hK K;clear x0 x1 x2;refine r3 7 fun K hK=>?_
     have HN7:=aa (uh HNw _ HB0.out);go_simp;refine ro hK trivial fun _=>?_
     clear hK K;generalize y0.heap.size=N7 at HN7|-;generalize y0.alloc (.cells #[pc,pi,pd] 85)=y7 at HN7|-;have HB7:=aa HN7.out.1;refine r3 12 fun K hK=>?_
     refine bG _ _ rfl rfl rfl HN7.out.2 ?_;intro v9 y9 hP;obtain⟨k1,k2⟩:=hP;obtain⟨a9,c9,e9⟩:=k1.form;obtain⟨n9,en9⟩ := ex (((⟨pc,pi,pd⟩:Op.Pk)::⟨pc,pi,pd⟩::r).length);rw[en9]at e9;clear en9;subst e9;have H9:=aa (uh HF y9 _ k1 k2);clear k1 k2 HN7 HF;refine ro hK trivial fun _=>?_
     clear hK K;refine tt 13 14 ?_;refine r3 15 fun K hK=>?_
     obtain⟨cx,fx,_⟩:=uh H9;go_simp;refine ro hK trivial fun _=>?_
     clear hK K;refine dn ?_ _;go_wp2
     refine zI ?_;exact⟨rfl,⟨_,_,_,_,H9.out.2.2.1⟩,H9.out.2.2.2⟩
   .obtain ⟨cx,_⟩:=uh HC _ HB0.out;go_simp;refine ro hK trivial fun _=>?_
    clear hK K;clear cx;refine r3 4 fun K hK=>?_
    obtain⟨cx,_⟩:=uh HC _ HB0.out;go_simp;refine ro hK trivial fun _=>?_
    clear hK K;clear cx;refine t2 5 ?_;refine r3 6 fun K hK=>?_
    obtain⟨_,x0,x1,x2,_⟩:=uh HC _ HB0.out;go_simp;refine ro hK trivial fun _=>?_
    clear hK K;clear x0 x1 x2;refine r3 7 fun K hK=>?_
    have HN7:=aa (uh HNw _ HB0.out);go_simp;refine ro hK trivial fun _=>?_
    clear hK K;generalize y0.heap.size=N7 at HN7|-;generalize y0.alloc (.cells #[pc,pi,pd] 85)=y7 at HN7|-;have HB7:=aa HN7.out.1;refine r3 12 fun K hK=>?_
    refine bG _ _ rfl rfl rfl HN7.out.2 ?_;intro v9 y9 hP;obtain⟨k1,k2⟩:=hP;obtain⟨a9,c9,e9⟩:=k1.form;obtain⟨n9,en9⟩ := ex (((⟨pc,pi,pd⟩:Op.Pk)::⟨pc,pi,pd⟩::r).length);rw[en9]at e9;clear en9;subst e9;have H9:=aa (uh HF y9 _ k1 k2);clear k1 k2 HN7 HF;refine ro hK trivial fun _=>?_
    clear hK K;refine tt 13 14 ?_;refine r3 15 fun K hK=>?_
    obtain⟨cx,fx,_⟩:=uh H9;go_simp;refine ro hK trivial fun _=>?_
    clear hK K;refine dn ?_ _;go_wp2
    refine zI ?_;exact⟨rfl,⟨_,_,_,_,H9.out.2.2.1⟩,H9.out.2.2.2⟩
  .rw [show ml (p::r)=p::r from if_neg (by simpa using h40)];have d2:¬((r.length:Int)+1<40):=by omega
   have c60:W.cell? (B,61)=some (.slice (some (g,o)) (r.length+1) (cp2+1)):=hM.cells.2.2.2.1;rw[show(⟨m.a,dN m.b (p::r),m.now⟩:Mw)=m by rw[<- hl];rfl];have HM:=aa hM;clear hM hk hle q1 q2 q3 q4 hl;go_enter func30,ntmps30
   go_wp2
   refine zI ?_;exact⟨rfl,⟨_,_,_,_,uh HM⟩,zC _ _⟩
theorem zw(h:ML base B m W)(h0:0<=m.now)(h1:m.now<=1000000):Calls prog 30 #[(B,0),(6:Int)] W fun r W'=>r=.returned (.tuple #[])/\ML base B (z_ m) W'/\Below base W W':=by
 obtain⟨ca,va,cb,vb,hM⟩:=h;have c62:=hM.cells.2.2.2.2;have f62:=hM.fz 62;have HT:=aa (hM.time (m.now+1));clear hM;go_enter func30,ntmps30
 go_upto_region 18 with fail
 clear c62 f62;generalize W.setCell (B,62) (.int .i64 (m.now+1))=W1 at HT|-;go_upto_region 18 with fail
 have h18d:=HT.out.1.below (zC _ _).drew;have CH18:=aa (tO h18d.ea (m.now+1));have CT18:=aa fun q cl vs (hA:AnE W1.drew.heap.size q (dq m.a.e m.a.F1 m.a.F2 (m.now+1)) cl vs) (hfv:∀g,vs.ownBlock=some g->W1.drew.heap.size<=g) (hbq:Below W1.drew.heap.size W1.drew q)=>kI h18d (kD _ _ _ _) hA hfv hbq
 have HS18:Hid (∀q,Below W1.drew.heap.size W1.drew q->q.cell? (B,62)=some (.int .i64 (m.now+1))):=aa fun q hq=>(h18d.below hq).cells.2.2.2.2
 have HZ18:Hid (∀q c' v',Ml base q B ⟨be m.a (dq m.a.e m.a.F1 m.a.F2 (m.now+1)),m.b,m.now+1⟩ c' v' cb vb->Fr B va v' W1.drew q->q.cell? (B,62)=some (.int .i64 (m.now+1))/\Ml base q B ⟨gd m.a (m.now+1),m.b,m.now+1⟩ c' v' cb vb/\Below base W q):=aa fun q c' v' hq fr =>
  ⟨hq.cells.2.2.2.2,hq,HT.out.2.trans (((zC base W1).drew).trans (fr.low h18d.bB (fun g hg=>(h18d.wa.ownB g hg).2.1) h18d.bs))⟩
 have rg18:W1.drew.rangeAt B 0 ca:=h18d.cells.1;have hl18:=h18d.ea.len;have hS18:=uh HS18 W1.drew (zC _ _);clear h18d HT;refine wp_region_held_drew (S:=fun z=>z.cell? (B,62)=some (.int .i64 (m.now+1))) (by kernel_rfl) hS18 (fun hHeld=>?_);refine tq 0 1 2 3 ?_;refine tq 5 6 7 8 ?_;refine r3 4 fun K hK=>?_
 rw[if_pos (by rfl)];refine wp_load_mid 32 (.tmp 200) rfl B 0 rfl ca _ rg18 underlying32 rfl (by rw[hl18];exact aL) ?_;refine ro hK hS18 fun _=>?_
 clear hK K rg18;refine r3 9 fun K hK=>?_
 go_simp;refine CH18.out.mono ?_;rintro r9 q⟨cl,vs,rfl,hA,hfv,hbq⟩;have hS1:=uh HS18 q hbq;have HQ:=aa (uh CT18 q cl vs hA hfv hbq);clear CH18 CT18 hA hfv hbq hS18 HS18;refine ro hK hS1 fun _=>?_
 clear hK K;refine r3 10 fun K hK=>?_
 go_simp;refine HQ.out.mono ?_;rintro e W18⟨rfl,c18,v18,hs,hfr⟩;have HA':=aa (uh HZ18 W18 c18 v18 hs hfr);clear HQ HZ18 hs hfr hS1;refine ro hK HA'.out.1 fun _=>?_
 clear hK K;have HA:=aa HA'.out.2;clear HA';refine dn ?_ _;go_upto_region 19 with fail
 have h19d:=HA.out.1.below (zC _ _).drew;have CH19:=aa (tO h19d.eb (m.now+1));have CT19:=aa fun q cl vs (hA:AnE W18.drew.heap.size q (dq m.b.e m.b.F1 m.b.F2 (m.now+1)) cl vs) (hfv:∀g,vs.ownBlock=some g->W18.drew.heap.size<=g) (hbq:Below W18.drew.heap.size W18.drew q)=>kJ h19d (kD _ _ _ _) hA hfv hbq
 have HS19:Hid (∀q,Below W18.drew.heap.size W18.drew q->q.cell? (B,62)=some (.int .i64 (m.now+1))):=aa fun q hq=>(h19d.below hq).cells.2.2.2.2
 have HZ19:Hid (∀q c' v',Ml base q B ⟨gd m.a (m.now+1),be m.b (dq m.b.e m.b.F1 m.b.F2 (m.now+1)),m.now+1⟩ c18 v18 c' v'->Fr B vb v' W18.drew q->q.cell? (B,62)=some (.int .i64 (m.now+1))/\Ml base q B ⟨gd m.a (m.now+1),gd m.b (m.now+1),m.now+1⟩ c18 v18 c' v'/\Below base W q):=aa fun q c' v' hq fr =>
  ⟨hq.cells.2.2.2.2,hq,HA.out.2.trans (((zC base W18).drew).trans (fr.low h19d.bB (fun g hg=>(h19d.wb.ownB g hg).2.1) h19d.bs))⟩
 have rg19:W18.drew.rangeAt B 30 cb:=h19d.cells.2.1;have hl19:=h19d.eb.len;have hS19:=uh HS19 W18.drew (zC _ _);clear h19d HA;refine wp_region_held_drew (S:=fun z=>z.cell? (B,62)=some (.int .i64 (m.now+1))) (by kernel_rfl) hS19 (fun hHeld=>?_);refine tq 0 1 2 3 ?_;refine tq 5 6 7 8 ?_;refine r3 4 fun K hK=>?_
 rw[if_pos (by rfl)];refine wp_load_mid 32 (.tmp 211) rfl B 30 rfl cb _ rg19 underlying32 rfl (by rw[hl19];exact aL) ?_;refine ro hK hS19 fun _=>?_
 clear hK K rg19;refine r3 9 fun K hK=>?_
 go_simp;refine CH19.out.mono ?_;rintro r9 q⟨cl,vs,rfl,hA,hfv,hbq⟩;have hS1:=uh HS19 q hbq;have HQ:=aa (uh CT19 q cl vs hA hfv hbq);clear CH19 CT19 hA hfv hbq hS19 HS19;refine ro hK hS1 fun _=>?_
 clear hK K;refine r3 10 fun K hK=>?_
 go_simp;refine HQ.out.mono ?_;rintro e W19⟨rfl,c19,v19,hs,hfr⟩;have HB':=aa (uh HZ19 W19 c19 v19 hs hfr);clear HQ HZ19 hs hfr hS1;refine ro hK HB'.out.1 fun _=>?_
 clear hK K;have HB:=aa HB'.out.2;clear HB';refine dn ?_ _;go_wp2
 refine zI ?_;exact⟨rfl,⟨_,_,_,_,HB.out.1⟩,HB.out.2⟩
theorem zx(h:ML base B m W){e:Int}(h0:¬e=0)(h1:¬e=1)(h2:¬e=2)(h3:¬e=3)(h4:¬e=4)(h5:¬e=5)(h6:¬e=6):Calls prog 30 #[(B,0),e] W fun r W'=>r=.returned (.tuple #[])/\ML base B (m) W'/\Below base W W':=by
 have HM:=aa h;clear h;go_enter func30,ntmps30
 go_wp2
 refine zI ?_;exact⟨rfl,uh HM,zC _ _⟩
theorem yi(h:ML base B m W)(n0:0<=m.now)(n1:m.now<=1000000)(e:Int):Calls prog 30 #[(B,0),e] W fun r W'=>r=.returned (.tuple #[])/\ML base B (fQ m e) W'/\Below base W W':=by
 by_cases h0:e=0
 .subst h0;exact zo h
 by_cases h1:e=1
 .subst h1;exact zq h
 by_cases h2:e=2
 .subst h2;exact zu h
 by_cases h3:e=3
 .subst h3;exact zp h
 by_cases h4:e=4
 .subst h4;exact zr h
 by_cases h5:e=5
 .subst h5;exact Hf h
 by_cases h6:e=6
 .subst h6;exact zw h n0 n1
 rw[show fQ m e=m by unfold fQ;rw[if_neg h0,if_neg h1,if_neg h2,if_neg h3,if_neg h4,if_neg h5,if_neg h6]];exact zx h h0 h1 h2 h3 h4 h5 h6
end Go.Proofs.YtjdgiimfpkideaaGreatDoor
