/- MtK MtL -/
import Derived.Test.YtjdgiimfpkideaaGreatDoorS39
import Derived.RangeFuncBound
set_option maxHeartbeats 8000000
set_option maxRecDepth 100000
namespace Go.Proofs.YtjdgiimfpkideaaGreatDoor
open Go.RowKit Go.Proofs.Tryz
structure Mt (base:Nat) (W:World) (B:Nat) (m:Mw) (ca:List Value) (va:Value) (cb:List Value) (vb:Value):Prop where
 row:W.heap[B]?=some (.cells (ca ++ [va] ++ cb ++ [vb] ++ [Value.int .i64 m.now]).toArray 66)
 ea:EnM base W ca m.a
 eb:EnM base W cb m.b
 xx:∀ g,kK ca g→¬ kK cb g
 ha:HoldsK W base va m.a.ln
 hb:HoldsK W base vb m.b.ln
 la:m.a.ln.length≤40
 lb:m.b.ln.length≤40
 sp:∀ g,va.ownBlock=some g→vb.ownBlock≠some g
 lo:Lo base W
 bB:base≤B
def MW (base:Nat) (B:Nat) (m:Mw) (W:World) (va vb:Value):Prop:=∃ ca cb,Mt base W B m ca va cb vb
structure Fw (l B:Nat) (va vb va' vb':Value) (W W':World):Prop where
 os:W'.os=W.os
 tape:W'.tape=W.tape
 output:W'.output=W.output
 size:W.heap.size≤W'.heap.size
 same:∀ k,k<W.heap.size→k≠B→k≠l→va.ownBlock≠some k→vb.ownBlock≠some k→W'.heap[k]?=W.heap[k]?
 own:∀ g,(va'.ownBlock=some g∨vb'.ownBlock=some g)→(va.ownBlock=some g∨vb.ownBlock=some g)∨W.heap.size≤g
theorem Fw.trans {l B:Nat} {va vb va' vb' vc vd:Value} {W W' W'':World} (h:Fw l B va vb va' vb' W W') (k:Fw l B va' vb' vc vd W' W''):Fw l B va vb vc vd W W'' :=
 ⟨k.os.trans h.os,k.tape.trans h.tape,k.output.trans h.output,zE h.size k.size,fun i hi h1 h0 h2 h3=>(k.same i (Nat.lt_of_lt_of_le hi h.size) h1 h0 (fun e=>(h.own i (Or.inl e)).elim (fun e=>e.elim h2 h3) (fun e=>by omega)) (fun e=>(h.own i (Or.inr e)).elim (fun e=>e.elim h2 h3) (fun e=>by omega))).trans (h.same i hi h1 h0 h2 h3),
  fun g hg=>(k.own g hg).elim (h.own g) (fun e=>Or.inr (zE h.size e))⟩
theorem Fw.of_below {l B:Nat} {va vb:Value} {W W':World} (h:Below W.heap.size W W'):Fw l B va vb va vb W W' :=
 ⟨h.os,h.tape,h.output,h.size,fun k hk _ _ _ _=>h.block k hk,fun _ hg=>Or.inl hg⟩
theorem Fw.refl (l B:Nat) (va vb:Value) (W:World):Fw l B va vb va vb W W:=Fw.of_below (zC _ _)
theorem Fw.a {l B:Nat} {va va':Value} (vb:Value) {W W':World} (f:Fr B va va' W W'):Fw l B va vb va' vb W W' :=
 ⟨f.os,f.tape,f.output,f.size,fun k hk h1 _ h2 _=>f.same k hk h1 h2,fun g hg=>hg.elim (fun e=>(f.own g e).imp Or.inl id) (fun e=>Or.inl (Or.inr e))⟩
theorem Fw.b {l B:Nat} (va:Value) {vb vb':Value} {W W':World} (f:Fr B vb vb' W W'):Fw l B va vb va vb' W W' :=
 ⟨f.os,f.tape,f.output,f.size,fun k hk h1 _ _ h3=>f.same k hk h1 h3,fun g hg=>hg.elim (fun e=>Or.inl (Or.inl e)) (fun e=>(f.own g e).imp Or.inr id)⟩
theorem Fw.put {l B:Nat} {va vb va' vb':Value} {W W':World} (h:Fw l B va vb va' vb' W W') (o:Obj):Fw l B va vb va' vb' W (W'.putObj l o) :=
 ⟨h.os,h.tape,h.output,by rw [World.putObj_size];exact h.size,fun k hk h1 h0 h2 h3=>(World.putObj_heap_other h0).trans (h.same k hk h1 h0 h2 h3),h.own⟩
section
variable {base:Nat} {W W':World} {B l:Nat} {m:Mw} {ca cb:List Value} {va vb va' vb':Value}
theorem Mt.sa (h:Mt base W B m ca va cb vb):Sl base 66 W B [] (cb ++ [vb] ++ [Value.int .i64 m.now]) m.a ca va :=
 ⟨⟨by rw [h.row];simp,h.ha,h.la,h.lo.le,by decide⟩,h.ea,by decide⟩
theorem Mt.sb (h:Mt base W B m ca va cb vb):Sl base 66 W B (ca ++ [va]) [Value.int .i64 m.now] m.b cb vb :=
 ⟨⟨by rw [h.row],h.hb,h.lb,h.lo.le,by decide⟩,h.eb,by decide⟩
theorem Mt.lenA (h:Mt base W B m ca va cb vb):(ca ++ [va]).length=31:=by rw [List.length_append,h.ea.len];rfl
theorem Mt.lenB (h:Mt base W B m ca va cb vb):(ca ++ [va] ++ cb).length=61:=by simp [h.ea.len,h.eb.len]
theorem Mt.setA (h:Mt base W B m ca va cb vb) {s':Sd} {ca':List Value} (hs:Sl base 66 W' B [] (cb ++ [vb] ++ [Value.int .i64 m.now]) s' ca' va') (f:Fr B va va' W W') (nb:Nb9 W ca ca'):Mt base W' B ⟨s',m.b,m.now⟩ ca' va' cb vb:=by
 have kb:∀ g,vb.ownBlock=some g→W'.heap[g]?=W.heap[g]?:=fun g hg=>f.same g (h.sb.wr.ownB g hg).2.2.1 (h.sb.wr.ownB g hg).1 (fun e=>h.sp g e hg)
 refine ⟨?_,hs.en,h.eb.keep (h.sa.keepO f),fun g hg e=>(nb g hg).elim (fun e1=>h.xx g e1 e) (fun e1=>by have:=(h.eb.blk g e).2;omega),hs.wr.hk,h.hb.keep fun g _ hg _ _=>kb g hg,hs.wr.le,h.lb,fun g hg e=>?_,h.lo.fr h.sa h.bB f,h.bB⟩
 ·have:=hs.wr.row
  rw [this];simp
 ·rcases f.own g hg with e1 | e1
  ·exact h.sp g e1 e
  ·have:=(h.sb.wr.ownB g e).2.2.1;omega
theorem Mt.setB (h:Mt base W B m ca va cb vb) {s':Sd} {cb':List Value} (hs:Sl base 66 W' B (ca ++ [va]) [Value.int .i64 m.now] s' cb' vb') (f:Fr B vb vb' W W') (nb:Nb9 W cb cb'):Mt base W' B ⟨m.a,s',m.now⟩ ca va cb' vb':=by
 have kb:∀ g,va.ownBlock=some g→W'.heap[g]?=W.heap[g]?:=fun g hg=>f.same g (h.sa.wr.ownB g hg).2.2.1 (h.sa.wr.ownB g hg).1 (fun e=>h.sp g hg e)
 refine ⟨?_,h.ea.keep (h.sb.keepO f),hs.en,fun g hg e=>(nb g e).elim (fun e1=>h.xx g hg e1) (fun e1=>by have:=(h.ea.blk g hg).2;omega),h.ha.keep fun g _ hg _ _=>kb g hg,hs.wr.hk,h.la,hs.wr.le,fun g hg e=>?_,h.lo.fr h.sb h.bB f,h.bB⟩
 ·have:=hs.wr.row
  rw [this]
 ·rcases f.own g e with e1 | e1
  ·exact h.sp g hg e1
  ·have:=(h.sa.wr.ownB g hg).2.2.1;omega
theorem Mt.below (h:Mt base W B m ca va cb vb) (hb:Below W.heap.size W W'):Mt base W' B m ca va cb vb :=
 h.setA (h.sa.below hb) (Fr.of_below hb) (Nb9.refl _ _)
theorem Mt.put (h:Mt base W B m ca va cb vb) {o0:Obj} (hl:W.heap[l]?=some o0) (ho:o0.isCells=false) (hb:base≤l) (o:Obj):Mt base (W.putObj l o) B m ca va cb vb:=by
 have ne:∀ (g:Nat) (cur:Array Value) (T:TypeId),W.heap[g]?=some (.cells cur T)→(W.putObj l o).heap[g]?=W.heap[g]?:=fun g cur T hg=>World.putObj_heap_other fun e=>by rw [e,hl] at hg;cases hg;cases ho
 refine ⟨(ne _ _ _ h.row).trans h.row,h.ea.keep fun g cur hg=>ne g cur _ hg,h.eb.keep fun g cur hg=>ne g cur _ hg,h.xx,h.ha.keep fun g cur _ _ hg=>ne g cur _ hg,h.hb.keep fun g cur _ _ hg=>ne g cur _ hg,h.la,h.lb,h.sp,h.lo.step ⟨rfl,rfl,rfl,by rw [World.putObj_size];exact zD _,fun k hk=>World.putObj_heap_other (by omega)⟩,h.bB⟩
theorem Mt.time (h:Mt base W B m ca va cb vb) (t:Int):Mt base (W.setCell ⟨B,62,none⟩ (.int .i64 t)) B ⟨m.a,m.b,t⟩ ca va cb vb∧Fw l B va vb va vb W (W.setCell ⟨B,62,none⟩ (.int .i64 t)):=by
 have r:W.heap[B]?=some (.cells ((ca ++ [va] ++ cb ++ [vb]) ++ [Value.int .i64 m.now] ++ []).toArray 66):=by rw [List.append_nil];exact h.row
 have hx:=cH [Value.int .i64 m.now] [Value.int .i64 t] _ _ W r rfl;have e:(ca ++ [va] ++ cb ++ [vb]).length=62:=by simp [h.ea.len,h.eb.len]
 rw [e,List.append_nil] at hx;have ot:∀ g,g≠B→(W.setCell ⟨B,62,none⟩ (.int .i64 t)).heap[g]?=W.heap[g]?:=fun g hg=>heap_setCell_other _ _ _ _ hg
 have hT:∀ (g:Nat) (cur:Array Value) (T:TypeId),T≠66→W.heap[g]?=some (.cells cur T)→g≠B:=fun g cur T hT hg e=>by
  rw [e,h.row] at hg;injection hg with hg;injection hg with _ hg;exact hT hg.symm
 have hbl:=(zC base W).setCell (p:=⟨B,62,none⟩) h.bB (.int .i64 t);refine ⟨⟨hx,h.ea.keep fun g cur hg=>ot g (hT g cur _ (by decide) hg),h.eb.keep fun g cur hg=>ot g (hT g cur _ (by decide) hg),h.xx,h.ha.keep fun g cur _ _ hg=>ot g (hT g cur _ (by decide) hg),h.hb.keep fun g cur _ _ hg=>ot g (hT g cur _ (by decide) hg),h.la,h.lb,h.sp,h.lo.step hbl,h.bB⟩,⟨hbl.os,hbl.tape,hbl.output,hbl.size,fun k _ h1 _ _ _=>ot k h1,fun _ hg=>Or.inl hg⟩⟩
theorem Mt.now (h:Mt base W B m ca va cb vb):W.cell? ⟨B,62,none⟩=some (.int .i64 m.now)∧W.frozen? ⟨B,62,none⟩=false:=by
 have r:W.heap[B]?=some (.cells ((ca ++ [va] ++ cb ++ [vb]) ++ [Value.int .i64 m.now] ++ []).toArray 66):=by rw [List.append_nil];exact h.row
 have hx:=bI r;have e:(ca ++ [va] ++ cb ++ [vb]).length=62:=by simp [h.ea.len,h.eb.len]
 rw [e] at hx;exact ⟨hx,aX h.row _⟩
end
end Go.Proofs.YtjdgiimfpkideaaGreatDoor
namespace Go.Proofs.YtjdgiimfpkideaaGreatDoor
open Go.Proofs.Tryz
open Go.RowKit Go.Shelf
attribute [local go_sem] Oper.semAt_some
def FW (B:Nat) (va vb va' vb':Value) (W W':World):Prop:=∀ l,Fw l B va vb va' vb' W W'
theorem FW.trans {B:Nat} {va vb va' vb' vc vd:Value} {W W' W'':World} (h:FW B va vb va' vb' W W') (k:FW B va' vb' vc vd W' W''):FW B va vb vc vd W W'':=fun l=>(h l).trans (k l)
theorem FW.of_below {B:Nat} {va vb:Value} {W W':World} (h:Below W.heap.size W W'):FW B va vb va vb W W':=fun _=>Fw.of_below h
theorem Fw.all {l B:Nat} {va vb va' vb':Value} {W W':World} (h:Fw l B va vb va' vb' W W') (hl:W.heap.size≤l):FW B va vb va' vb' W W':=fun _ =>
 ⟨h.os,h.tape,h.output,h.size,fun k hk h1 _ h2 h3=>h.same k hk h1 (by omega) h2 h3,h.own⟩
theorem Fr.keeps {B n:Nat} {v v':Value} {W W':World} (f:Fr B v v' W W') (hB:∃ c T,W.heap[B]?=some (.cells c T)) (hv:∀ g,v.ownBlock=some g→∃ c T,W.heap[g]?=some (.cells c T)):KeepsFrom n W W' :=
 ⟨f.size,fun k o _ hk ho=>(f.same k (ge.1 hk).1 (fun e=>by
  obtain ⟨c,T,h⟩:=hB;rw [e,h] at hk;cases hk;cases ho) (fun e=>by
  obtain ⟨c,T,h⟩:=hv k e;rw [h] at hk;cases hk;cases ho)).trans hk⟩
theorem eD {n:Nat} {W W':World} (h:Below W.heap.size W W'):KeepsFrom n W W':=⟨h.size,fun k _ _ hk _=>(h.block k (ge.1 hk).1).trans hk⟩
theorem fG (m:Mw):∀ i,i≤m.a.ln.length→(au aI i m).a.ln=m.a.ln.drop i∧(au aI i m).now=m.now
 | 0,_=>⟨rfl,rfl⟩
 | i+1,hi=>by
  obtain ⟨h1,h2⟩:=fG m i (by omega);have h3:m.a.ln.drop i=m.a.ln[i] :: m.a.ln.drop (i+1):=List.drop_eq_getElem_cons (by omega);rw [h3] at h1;show (aI (au aI i m)).a.ln=_∧(aI (au aI i m)).now=_
  generalize au aI i m=u at *;unfold aI;rw [h1];exact ⟨rfl,h2⟩
theorem l8 {u:Mw} {p:Op.Pk} {r:List Op.Pk} (e:u.a.ln=p :: r):aI u=⟨dN u.a r,fk u.b p u.now,u.now⟩:=by
 unfold aI;rw [e]
theorem rj {base:Nat} {W:World} {B:Nat} {m:Mw} {va vb:Value} (h:MW base B m W va vb) {C1 C2 cnt:Nat} (b1:W.heap[C1]?=some (.cells #[.int .i64 (cnt:Int)] 3)) (b2:W.heap[C2]?=some (.cells #[.pointer (some ⟨B,30,none⟩)] 111)) :
  Calls prog 46 #[.pointer (some ⟨B,31,none⟩),.func (.func 88) #[] #[.pointer (some ⟨C1,0,none⟩),.pointer (some ⟨C2,0,none⟩)],.int .i64 m.now] W fun e W'=>e=.returned (.tuple #[])∧∃ va' vb',MW base B (au aI (min cnt m.a.ln.length) m) W' va' vb'∧FW B va vb va' vb' W W':=by
 have hbW:Below W.heap.size W ((W.alloc (.cells #[.pointer (some ⟨B,31,none⟩)] 81)).alloc (.cells #[.int .i64 m.now] 2)):=((zC _ _).alloc (zD _) _).alloc (by simp) _;have s2:=zF (W.alloc (.cells #[.pointer (some ⟨B,31,none⟩)] 81)) (.cells #[.int .i64 m.now] 2);rw [World.size_alloc] at s2;have s1:=(zG (W.alloc (.cells #[.pointer (some ⟨B,31,none⟩)] 81)) (.cells #[.int .i64 m.now] 2) W.heap.size (by simp)).trans (zF W (.cells #[.pointer (some ⟨B,31,none⟩)] 81));obtain ⟨ca,cb,hM⟩:=h;have hM2:=hM.below hbW;have b1':=(hbW.block C1 (ge.1 b1).1).trans b1;have b2':=(hbW.block C2 (ge.1 b2).1).trans b2;clear b1 b2 hM;refine (callsIn_wide (n:=3)).1 ?_;refine callsIn_of_wp_marks func46 rfl trivial ?_ rfl;simp only [ntmps46,List.size_toArray,List.length_cons,List.length_nil,Nat.reduceAdd,Nat.reduceSub,Array.replicate_succ,Array.replicate_zero,List.push_toArray,List.append_toArray,List.nil_append,List.cons_append];gi_wp2
 generalize hWW:(W.alloc (.cells #[.pointer (some ⟨B,31,none⟩)] 81)).alloc (.cells #[.int .i64 m.now] 2)=W2 at *;generalize hs1:W.heap.size=S1 at *;refine lZ (gf:=88) (lb:=#[.pointer (some ⟨C1,0,none⟩),.pointer (some ⟨C2,0,none⟩)]) rfl (enters_of func88 (by kernel_rfl) rfl) (J:=fun y=>∃ va' vb',MW base B (au aI (min cnt m.a.ln.length) m) y va' vb'∧FW B va vb va' vb' W2 y) ?st ?it ?dn
 case st =>
  rintro V l r o hl hV ⟨va',vb',⟨ca',cb',hM'⟩,hf⟩;exact ⟨va',vb',⟨ca',cb',hM'.put hV rfl (zE hM2.lo.le hl) _⟩,((hf l).put _).all hl⟩
 case dn =>
  rintro D y hD ⟨va',vb',⟨ca',cb',hM'⟩,hf⟩ hdf;have hfin:Hid (∃ va' vb',MW base B (au aI (min cnt m.a.ln.length) m) (y.putObj D (.deferred none)) va' vb'∧FW B va vb va' vb' W (y.putObj D (.deferred none))):=aa (by
   refine ⟨va',vb',⟨ca',cb',hM'.put hdf rfl (zE hM2.lo.le hD) _⟩,?_⟩;have h1:=((hf D).put (.deferred none)).all hD;rw [← hs1] at hbW;exact (FW.of_below hbW).trans h1)
  clear hM' hf;gi_wp2
  refine ⟨by simp,.inl ⟨_,_,rfl,run_takeDeferred hdf,?_⟩⟩;exact ⟨_,results_none rfl _ _ _,rfl,uh hfin⟩
 case it =>
  intro fn l D W1 R hR hl hD hb1 hz1 hrec;have hnB:∀ (g:Nat) (o:Obj),W2.heap[g]?=some o→(∀ c,o≠.cells c 66)→g≠B:=fun g o hg ho e=>by
   rw [e,hM2.row] at hg;cases hg;exact ho _ rfl
  have hnO:∀ (g:Nat) (o:Obj),W2.heap[g]?=some o→(∀ c,o≠.cells c 85)→va.ownBlock≠some g∧vb.ownBlock≠some g:=fun g o hg ho=>by
   refine ⟨fun e=>?_,fun e=>?_⟩
   ·obtain ⟨_,_,_,c,h2⟩:=hM2.sa.wr.ownB g e;rw [hg] at h2;cases h2;exact ho _ rfl
   ·obtain ⟨_,_,_,c,h2⟩:=hM2.sb.wr.ownB g e;rw [hg] at h2;cases h2;exact ho _ rfl
  have kp:∀ (g:Nat) (x:Value) (T:TypeId),T≠66→T≠85→W2.heap[g]?=some (.cells #[x] T)→∀ y va' vb',Fw l B va vb va' vb' W2 y→y.heap[g]?=some (.cells #[x] T):=fun g x T t1 t2 hg y va' vb' hf =>
   (hf.same g (ge.1 hg).1 (hnB g _ hg (fun c e=>by cases e;exact t1 rfl)) (by have:=(ge.1 hg).1;omega) (hnO g _ hg (fun c e=>by cases e;exact t2 rfl)).1 (hnO g _ hg (fun c e=>by cases e;exact t2 rfl)).2).trans hg
  refine CallsIn.mono (rh (base:=base) (T:=66) (l:=l) (B:=B) (k:=30) (C1:=C1) (C2:=C2) (m0:=m.a.ln.length) (cnt:=cnt) (W:=W1) (n:=2) (by omega) (fun i y=>i≤m.a.ln.length∧RecAt l R D .ready y∧∃ va' vb',MW base B (au aI i m) y va' vb'∧Fw l B va vb va' vb' W2 y) ?hI ?hdr ?h0) ?fin
  case fin =>
   rintro e y ⟨hv,_,hr,va',vb',h1,h2⟩;exact ⟨hv,⟨va',vb',h1,h2.all hl⟩,hr⟩
  case h0=>exact ⟨Nat.zero_le _,hrec,va,vb,⟨ca,cb,hM2.below hb1⟩,Fw.of_below hb1⟩
  case hdr =>
   rintro i y ⟨h1,h2,va',vb',⟨ca',cb',hM'⟩,hf⟩;exact ⟨h1,⟨h2.lp,h2.df⟩,va',vb',⟨ca',cb',hM'.below (zC _ _).drew⟩,hf.trans (Fw.of_below (zC _ _).drew)⟩
  case hI =>
   rintro i y ⟨hi,hr,va',vb',⟨ca',cb',hM'⟩,hf⟩;obtain ⟨hln,hnow⟩:=fG m i hi;refine ⟨kp C1 _ _ (by decide) (by decide) b1' y va' vb' hf,kp C2 _ _ (by decide) (by decide) b2' y va' vb' hf,_,_,va',(au aI i m).a.ln,hM'.ea.len,hM'.sa.wr,by rw [hln,List.length_drop];omega,?_⟩;intro p r z v2 eL hWz hfz;subst hR;have hcB:∃ c T,y.heap[B]?=some (.cells c T):=⟨_,_,hM'.row⟩;have hrz:RecAt l _ D .ready z:=hr.keep (hfz.keeps (n:=W2.heap.size) hcB (fun g hg=>(hM'.sa.wr.ownB g hg).2.2.2.imp fun c h=>⟨_,h⟩)) hl hD;have hMz:=hM'.setA (hM'.sa.line hfz hWz) hfz (Nb9.refl _ _);have hfZ:Fw l B va vb v2 vb' W2 z:=hf.trans (Fw.a _ hfz);have h1q:i+1≤m.a.ln.length:=by
    have:=congrArg List.length hln
    rw [eL,List.length_drop,List.length_cons] at this;omega
   have hst:au aI (i+1) m=⟨dN (au aI i m).a r,fk (au aI i m).b p (au aI i m).now,(au aI i m).now⟩:=l8 eL;refine YieldAt.mono (lX (B:=W2.heap.size) (J:=fun y'=>i+1≤m.a.ln.length∧∃ va3 vb3,MW base B (au aI (i+1) m) y' va3 vb3∧Fw l B va vb va3 vb3 W2 y') hrz rfl hl hD ?hJ ?wk) ?mo
   case mo =>
    rintro e z' ⟨rfl,⟨h1,h2⟩,h3⟩;exact ⟨rfl,h1,h3,h2⟩
   case hJ =>
    rintro V r' o hV ⟨h1,va3,vb3,⟨ca3,cb3,hM3⟩,hf3⟩;exact ⟨h1,va3,vb3,⟨ca3,cb3,hM3.put hV rfl (zE hM2.lo.le hl) _⟩,hf3.put _⟩
   case wk =>
    have hb4:Below z.heap.size z (z.alloc (.cells #[.int .i64 p.code,.int .i64 p.id,.string p.data] 85)):=(zC _ _).alloc (zD _) _;have hN4:=zF z (.cells #[.int .i64 p.code,.int .i64 p.id,.string p.data] 85);have hlz:l<z.heap.size:=(ge.1 hrz.lp).1;have hl4:=(hb4.block l hlz).trans hrz.lp;have HH:Hid (∀ o:Obj,∃ ca3 va3 cb3 vb3,Mt base ((z.alloc (.cells #[.int .i64 p.code,.int .i64 p.id,.string p.data] 85)).putObj l o) B ⟨dN (au aI i m).a r,(au aI i m).b,(au aI i m).now⟩ ca3 va3 cb3 vb3∧Fw l B va vb va3 vb3 W2 ((z.alloc (.cells #[.int .i64 p.code,.int .i64 p.id,.string p.data] 85)).putObj l o)∧((z.alloc (.cells #[.int .i64 p.code,.int .i64 p.id,.string p.data] 85)).putObj l o).heap[z.heap.size]?=some (.cells #[.int .i64 p.code,.int .i64 p.id,.string p.data] 85)∧∀ g,(va3.ownBlock=some g∨vb3.ownBlock=some g)→g<z.heap.size):=aa fun o =>
     ⟨_,_,_,_,(hMz.below hb4).put hl4 rfl (zE hM2.lo.le hl) o,(hfZ.trans (Fw.of_below hb4)).put o,(World.putObj_heap_other (by omega)).trans hN4,fun g hg=>hg.elim (fun e=>(hMz.sa.wr.ownB g e).2.2.1) (fun e=>(hMz.sb.wr.ownB g e).2.2.1)⟩
    have HK9:Hid (KeepsFrom W2.heap.size z (z.alloc (.cells #[.int .i64 p.code,.int .i64 p.id,.string p.data] 85))):=aa (eD hb4);have HS1:=aa (kp S1 _ _ (by decide) (by decide) s1);have HS2:=aa (kp (S1+1) _ _ (by decide) (by decide) s2);rw [← hnow] at HS2;have HST:=aa hst;clear hb4 hN4 hl4 hst hMz hfZ hWz hfz hM' hf hrz hr hrec kp hnB hnO hcB hM2 hb1 b1' b2' s1 s2 hbW hWW hz1;gi_wp2
    refine ⟨uh HK9,?_⟩;intro W3 hW3 hr3;obtain ⟨ca3,va3,cb3,vb3,hM3,hf3,hN3,hown⟩:=uh HH (.loop (fF fn _ _ _ _ D .busy));rw [← hW3] at hM3 hf3 hN3;clear HH HK9 hW3 hr3;have g1:=gP (uh HS1 _ _ _ hf3);have g2:=gP (uh HS2 _ _ _ hf3);have hd3:Below W3.heap.size W3 W3.drew:=(zC _ _).drew;have hM4:=hM3.below hd3;have hlx:=hM3.lenA;have rg:W3.drew.rangeAt B 31 cb3:=by
     have:=aS hM4.sb.row
     rw [hlx] at this;exact this
    have hl9:=hM4.eb.len;have CH:=aa (tK hM4.eb hM4.lo p (au aI i m).now);have CF:=aa fun q cl vs (hA:AnE W3.drew.heap.size q (bn (au aI i m).b.e (au aI i m).b.F1 (au aI i m).b.F2 p (au aI i m).now) cl vs) (hfv:∀ g,vs.ownBlock=some g→W3.drew.heap.size≤g) (hbq:Below W3.drew.heap.size W3.drew q)=>th hM4.sb (by decide) (iF _ _ _ _ _) hA hfv hbq
    rw [hlx] at CF;have hSm:∀ q,Below W3.heap.size W3 q→q.cell? ⟨S1,0,none⟩=some (.pointer (some ⟨B,31,none⟩))∧q.cell? ⟨S1+1,0,none⟩=some (.int .i64 (au aI i m).now)∧q.cell? ⟨z.heap.size,0,none⟩=some (.int .i64 p.code)∧q.cell? ⟨z.heap.size,1,none⟩=some (.int .i64 p.id)∧q.cell? ⟨z.heap.size,2,none⟩=some (.string p.data):=fun q hq=>by
     have h3:=(hq.block _ (ge.1 hN3).1).trans hN3;exact ⟨(hq.cell (p:=⟨S1,0,none⟩) (World.block_lt_of_cell? _ _ g1)).trans g1,(hq.cell (p:=⟨S1+1,0,none⟩) (World.block_lt_of_cell? _ _ g2)).trans g2,by rw [cr h3];rfl,by rw [cr h3];rfl,by rw [cr h3];rfl⟩
    have HSm:=aa hSm;have HFIN:Hid (∀ W' cb' v3,Sl base 66 W' B (ca3 ++ [va3]) [Value.int .i64 (au aI i m).now] (fk (au aI i m).b p (au aI i m).now) cb' v3→Fr B vb3 v3 W3.drew W'→Nb9 W3.drew cb3 cb'→(W'.cell? ⟨S1,0,none⟩=some (.pointer (some ⟨B,31,none⟩))∧W'.cell? ⟨S1+1,0,none⟩=some (.int .i64 (au aI i m).now)∧W'.cell? ⟨z.heap.size,0,none⟩=some (.int .i64 p.code)∧W'.cell? ⟨z.heap.size,1,none⟩=some (.int .i64 p.id)∧W'.cell? ⟨z.heap.size,2,none⟩=some (.string p.data))∧KeepsFrom W2.heap.size W3 W'∧∃ va3 vb3,MW base B (au aI (i+1) m) W' va3 vb3∧Fw l B va vb va3 vb3 W2 W'):=aa fun W' cb' v3 hs hfr hnb=>by
     have hN0:W3.drew.heap[z.heap.size]?=_:=hN3;have e3:W'.heap[z.heap.size]?=_:=(hfr.same _ (ge.1 hN0).1 (fun e=>by
      rw [e,hM4.row] at hN0;injection hN0 with e1;injection e1 with _ e1;exact absurd e1 (by decide)) (fun e=>by have:=hown _ (Or.inr e);omega)).trans hN0
     have kx:∀ (g:Nat) (x:Value) (T:TypeId),T≠66→T≠85→W3.heap[g]?=some (.cells #[x] T)→W'.cell? ⟨g,0,none⟩=some x:=fun g x T t1 t2 hg=>by
      have hg0:W3.drew.heap[g]?=_:=hg;have:=(hfr.same g (ge.1 hg0).1 (fun e=>by
       rw [e,hM4.row] at hg0;injection hg0 with e1;injection e1 with _ e1;exact t1 e1.symm) (fun e=>by
       obtain ⟨_,_,_,c,h2⟩:=hM4.sb.wr.ownB g e;rw [hg0] at h2;cases h2;exact t2 rfl)).trans hg0
      exact gP this
     refine ⟨⟨kx S1 _ _ (by decide) (by decide) (uh HS1 _ _ _ hf3),kx (S1+1) _ _ (by decide) (by decide) (uh HS2 _ _ _ hf3),by rw [cr e3];rfl,by rw [cr e3];rfl,by rw [cr e3];rfl⟩,(eD hd3).trans (hfr.keeps ⟨_,_,hM4.row⟩ (fun g hg=>(hM4.sb.wr.ownB g hg).2.2.2.imp fun c h=>⟨_,h⟩)),va3,v3,?_,hf3.trans ((Fw.of_below hd3).trans (Fw.b _ hfr))⟩;rw [uh HST];exact ⟨_,_,hM4.setB hs hfr hnb⟩
    clear hSm hd3 hM4 hM3 hf3 g1 g2 hN3 HST HS1 HS2 hown hlx;generalize z.heap.size=N at *;unfold fk at HFIN;generalize bn (au aI i m).b.e (au aI i m).b.F1 (au aI i m).b.F2 p (au aI i m).now=EO9 at *;rw [hnow] at CH CF HSm HFIN;clear hnow;obtain ⟨pc,pi,pd⟩:=p;dsimp only at CH HSm HFIN;gi_wp2
    refine gO (S:=fun w=>w.cell? ⟨S1,0,none⟩=some (.pointer (some ⟨B,31,none⟩))∧w.cell? ⟨S1+1,0,none⟩=some (.int .i64 m.now)∧w.cell? ⟨N,0,none⟩=some (.int .i64 pc)∧w.cell? ⟨N,1,none⟩=some (.int .i64 pi)∧w.cell? ⟨N,2,none⟩=some (.string pd)) (by kernel_rfl) (by kernel_rfl) ?_ ?_
    ·rintro ⟨a,w,h⟩;cases h.1
    have hS0:=uh HSm W3.drew (zC _ _).drew;refine tq 0 1 2 3 ?_;refine tt 5 6 ?_;refine r3 4 fun K hK=>?_
    rw [if_pos (by rfl)];refine wp_load_mid 32 (.tmp 12) rfl B 31 rfl cb3 _ rg underlying32 rfl (by rw [hl9];exact aL) ?_;refine ro hK hS0 fun _=>?_
    clear hK K;refine r3 7 fun K hK=>?_
    go_simp;refine (uh CH).mono ?_;rintro r q ⟨cl,vs,rfl,hA,hfv,hbq⟩;have hS1:=uh HSm q ((zC W3.heap.size W3).drew.trans hbq);have HQ:=aa (uh CF q cl vs hA hfv hbq);clear CH CF hA hfv hbq hS0;refine ro hK hS1 fun _=>?_
    clear hK K;refine r3 8 fun K hK=>?_
    go_simp;refine (uh HQ).mono ?_;rintro e W' ⟨rfl,cb',v3,hs,hfr,hnb⟩;obtain ⟨hS2,hk9,hj9⟩:=uh HFIN W' cb' v3 hs hfr hnb;refine ro hK hS2 fun _=>?_
    clear hK K;refine dn ?_ _;exact ⟨rfl,hk9,h1q,hj9⟩
theorem fH (m:Mw):∀ i,i≤m.b.ln.length→(au aN i m).b.ln=m.b.ln.drop i∧(au aN i m).now=m.now
 | 0,_=>⟨rfl,rfl⟩
 | i+1,hi=>by
  obtain ⟨h1,h2⟩:=fH m i (by omega);have h3:m.b.ln.drop i=m.b.ln[i] :: m.b.ln.drop (i+1):=List.drop_eq_getElem_cons (by omega);rw [h3] at h1;show (aN (au aN i m)).b.ln=_∧(aN (au aN i m)).now=_
  generalize au aN i m=u at *;unfold aN;rw [h1];exact ⟨rfl,h2⟩
theorem l9 {u:Mw} {p:Op.Pk} {r:List Op.Pk} (e:u.b.ln=p :: r):aN u=⟨fk u.a p u.now,dN u.b r,u.now⟩:=by
 unfold aN;rw [e]
theorem rk {base:Nat} {W:World} {B:Nat} {m:Mw} {va vb:Value} (h:MW base B m W va vb) {C1 C2 cnt:Nat} (b1:W.heap[C1]?=some (.cells #[.int .i64 (cnt:Int)] 3)) (b2:W.heap[C2]?=some (.cells #[.pointer (some ⟨B,61,none⟩)] 111)) :
  Calls prog 46 #[.pointer (some ⟨B,0,none⟩),.func (.func 88) #[] #[.pointer (some ⟨C1,0,none⟩),.pointer (some ⟨C2,0,none⟩)],.int .i64 m.now] W fun e W'=>e=.returned (.tuple #[])∧∃ va' vb',MW base B (au aN (min cnt m.b.ln.length) m) W' va' vb'∧FW B va vb va' vb' W W':=by
 have hbW:Below W.heap.size W ((W.alloc (.cells #[.pointer (some ⟨B,0,none⟩)] 81)).alloc (.cells #[.int .i64 m.now] 2)):=((zC _ _).alloc (zD _) _).alloc (by simp) _;have s2:=zF (W.alloc (.cells #[.pointer (some ⟨B,0,none⟩)] 81)) (.cells #[.int .i64 m.now] 2);rw [World.size_alloc] at s2;have s1:=(zG (W.alloc (.cells #[.pointer (some ⟨B,0,none⟩)] 81)) (.cells #[.int .i64 m.now] 2) W.heap.size (by simp)).trans (zF W (.cells #[.pointer (some ⟨B,0,none⟩)] 81));obtain ⟨ca,cb,hM⟩:=h;have hM2:=hM.below hbW;have b1':=(hbW.block C1 (ge.1 b1).1).trans b1;have b2':=(hbW.block C2 (ge.1 b2).1).trans b2;clear b1 b2 hM;refine (callsIn_wide (n:=3)).1 ?_;refine callsIn_of_wp_marks func46 rfl trivial ?_ rfl;simp only [ntmps46,List.size_toArray,List.length_cons,List.length_nil,Nat.reduceAdd,Nat.reduceSub,Array.replicate_succ,Array.replicate_zero,List.push_toArray,List.append_toArray,List.nil_append,List.cons_append];gi_wp2
 generalize hWW:(W.alloc (.cells #[.pointer (some ⟨B,0,none⟩)] 81)).alloc (.cells #[.int .i64 m.now] 2)=W2 at *;generalize hs1:W.heap.size=S1 at *;refine lZ (gf:=88) (lb:=#[.pointer (some ⟨C1,0,none⟩),.pointer (some ⟨C2,0,none⟩)]) rfl (enters_of func88 (by kernel_rfl) rfl) (J:=fun y=>∃ va' vb',MW base B (au aN (min cnt m.b.ln.length) m) y va' vb'∧FW B va vb va' vb' W2 y) ?st ?it ?dn
 case st =>
  rintro V l r o hl hV ⟨va',vb',⟨ca',cb',hM'⟩,hf⟩;exact ⟨va',vb',⟨ca',cb',hM'.put hV rfl (zE hM2.lo.le hl) _⟩,((hf l).put _).all hl⟩
 case dn =>
  rintro D y hD ⟨va',vb',⟨ca',cb',hM'⟩,hf⟩ hdf;have hfin:Hid (∃ va' vb',MW base B (au aN (min cnt m.b.ln.length) m) (y.putObj D (.deferred none)) va' vb'∧FW B va vb va' vb' W (y.putObj D (.deferred none))):=aa (by
   refine ⟨va',vb',⟨ca',cb',hM'.put hdf rfl (zE hM2.lo.le hD) _⟩,?_⟩;have h1:=((hf D).put (.deferred none)).all hD;rw [← hs1] at hbW;exact (FW.of_below hbW).trans h1)
  clear hM' hf;gi_wp2
  refine ⟨by simp,.inl ⟨_,_,rfl,run_takeDeferred hdf,?_⟩⟩;exact ⟨_,results_none rfl _ _ _,rfl,uh hfin⟩
 case it =>
  intro fn l D W1 R hR hl hD hb1 hz1 hrec;have hnB:∀ (g:Nat) (o:Obj),W2.heap[g]?=some o→(∀ c,o≠.cells c 66)→g≠B:=fun g o hg ho e=>by
   rw [e,hM2.row] at hg;cases hg;exact ho _ rfl
  have hnO:∀ (g:Nat) (o:Obj),W2.heap[g]?=some o→(∀ c,o≠.cells c 85)→va.ownBlock≠some g∧vb.ownBlock≠some g:=fun g o hg ho=>by
   refine ⟨fun e=>?_,fun e=>?_⟩
   ·obtain ⟨_,_,_,c,h2⟩:=hM2.sa.wr.ownB g e;rw [hg] at h2;cases h2;exact ho _ rfl
   ·obtain ⟨_,_,_,c,h2⟩:=hM2.sb.wr.ownB g e;rw [hg] at h2;cases h2;exact ho _ rfl
  have kp:∀ (g:Nat) (x:Value) (T:TypeId),T≠66→T≠85→W2.heap[g]?=some (.cells #[x] T)→∀ y va' vb',Fw l B va vb va' vb' W2 y→y.heap[g]?=some (.cells #[x] T):=fun g x T t1 t2 hg y va' vb' hf =>
   (hf.same g (ge.1 hg).1 (hnB g _ hg (fun c e=>by cases e;exact t1 rfl)) (by have:=(ge.1 hg).1;omega) (hnO g _ hg (fun c e=>by cases e;exact t2 rfl)).1 (hnO g _ hg (fun c e=>by cases e;exact t2 rfl)).2).trans hg
  refine CallsIn.mono (rh (base:=base) (T:=66) (l:=l) (B:=B) (k:=61) (C1:=C1) (C2:=C2) (m0:=m.b.ln.length) (cnt:=cnt) (W:=W1) (n:=2) (by omega) (fun i y=>i≤m.b.ln.length∧RecAt l R D .ready y∧∃ va' vb',MW base B (au aN i m) y va' vb'∧Fw l B va vb va' vb' W2 y) ?hI ?hdr ?h0) ?fin
  case fin =>
   rintro e y ⟨hv,_,hr,va',vb',h1,h2⟩;exact ⟨hv,⟨va',vb',h1,h2.all hl⟩,hr⟩
  case h0=>exact ⟨Nat.zero_le _,hrec,va,vb,⟨ca,cb,hM2.below hb1⟩,Fw.of_below hb1⟩
  case hdr =>
   rintro i y ⟨h1,h2,va',vb',⟨ca',cb',hM'⟩,hf⟩;exact ⟨h1,⟨h2.lp,h2.df⟩,va',vb',⟨ca',cb',hM'.below (zC _ _).drew⟩,hf.trans (Fw.of_below (zC _ _).drew)⟩
  case hI =>
   rintro i y ⟨hi,hr,va',vb',⟨ca',cb',hM'⟩,hf⟩;obtain ⟨hln,hnow⟩:=fH m i hi;refine ⟨kp C1 _ _ (by decide) (by decide) b1' y va' vb' hf,kp C2 _ _ (by decide) (by decide) b2' y va' vb' hf,_,_,vb',(au aN i m).b.ln,hM'.lenB,hM'.sb.wr,by rw [hln,List.length_drop];omega,?_⟩;intro p r z v2 eL hWz hfz;subst hR;have hcB:∃ c T,y.heap[B]?=some (.cells c T):=⟨_,_,hM'.row⟩;have hrz:RecAt l _ D .ready z:=hr.keep (hfz.keeps (n:=W2.heap.size) hcB (fun g hg=>(hM'.sb.wr.ownB g hg).2.2.2.imp fun c h=>⟨_,h⟩)) hl hD;have hMz:=hM'.setB (hM'.sb.line hfz hWz) hfz (Nb9.refl _ _);have hfZ:Fw l B va vb va' v2 W2 z:=hf.trans (Fw.b _ hfz);have h1q:i+1≤m.b.ln.length:=by
    have:=congrArg List.length hln
    rw [eL,List.length_drop,List.length_cons] at this;omega
   have hst:au aN (i+1) m=⟨fk (au aN i m).a p (au aN i m).now,dN (au aN i m).b r,(au aN i m).now⟩:=l9 eL;refine YieldAt.mono (lX (B:=W2.heap.size) (J:=fun y'=>i+1≤m.b.ln.length∧∃ va3 vb3,MW base B (au aN (i+1) m) y' va3 vb3∧Fw l B va vb va3 vb3 W2 y') hrz rfl hl hD ?hJ ?wk) ?mo
   case mo =>
    rintro e z' ⟨rfl,⟨h1,h2⟩,h3⟩;exact ⟨rfl,h1,h3,h2⟩
   case hJ =>
    rintro V r' o hV ⟨h1,va3,vb3,⟨ca3,cb3,hM3⟩,hf3⟩;exact ⟨h1,va3,vb3,⟨ca3,cb3,hM3.put hV rfl (zE hM2.lo.le hl) _⟩,hf3.put _⟩
   case wk =>
    have hb4:Below z.heap.size z (z.alloc (.cells #[.int .i64 p.code,.int .i64 p.id,.string p.data] 85)):=(zC _ _).alloc (zD _) _;have hN4:=zF z (.cells #[.int .i64 p.code,.int .i64 p.id,.string p.data] 85);have hlz:l<z.heap.size:=(ge.1 hrz.lp).1;have hl4:=(hb4.block l hlz).trans hrz.lp;have HH:Hid (∀ o:Obj,∃ ca3 va3 cb3 vb3,Mt base ((z.alloc (.cells #[.int .i64 p.code,.int .i64 p.id,.string p.data] 85)).putObj l o) B ⟨(au aN i m).a,dN (au aN i m).b r,(au aN i m).now⟩ ca3 va3 cb3 vb3∧Fw l B va vb va3 vb3 W2 ((z.alloc (.cells #[.int .i64 p.code,.int .i64 p.id,.string p.data] 85)).putObj l o)∧((z.alloc (.cells #[.int .i64 p.code,.int .i64 p.id,.string p.data] 85)).putObj l o).heap[z.heap.size]?=some (.cells #[.int .i64 p.code,.int .i64 p.id,.string p.data] 85)∧∀ g,(va3.ownBlock=some g∨vb3.ownBlock=some g)→g<z.heap.size):=aa fun o =>
     ⟨_,_,_,_,(hMz.below hb4).put hl4 rfl (zE hM2.lo.le hl) o,(hfZ.trans (Fw.of_below hb4)).put o,(World.putObj_heap_other (by omega)).trans hN4,fun g hg=>hg.elim (fun e=>(hMz.sa.wr.ownB g e).2.2.1) (fun e=>(hMz.sb.wr.ownB g e).2.2.1)⟩
    have HK9:Hid (KeepsFrom W2.heap.size z (z.alloc (.cells #[.int .i64 p.code,.int .i64 p.id,.string p.data] 85))):=aa (eD hb4);have HS1:=aa (kp S1 _ _ (by decide) (by decide) s1);have HS2:=aa (kp (S1+1) _ _ (by decide) (by decide) s2);rw [← hnow] at HS2;have HST:=aa hst;clear hb4 hN4 hl4 hst hMz hfZ hWz hfz hM' hf hrz hr hrec kp hnB hnO hcB hM2 hb1 b1' b2' s1 s2 hbW hWW hz1;gi_wp2
    refine ⟨uh HK9,?_⟩;intro W3 hW3 hr3;obtain ⟨ca3,va3,cb3,vb3,hM3,hf3,hN3,hown⟩:=uh HH (.loop (fF fn _ _ _ _ D .busy));rw [← hW3] at hM3 hf3 hN3;clear HH HK9 hW3 hr3;have g1:=gP (uh HS1 _ _ _ hf3);have g2:=gP (uh HS2 _ _ _ hf3);have hd3:Below W3.heap.size W3 W3.drew:=(zC _ _).drew;have hM4:=hM3.below hd3;have hlx:=(rfl:([]:List Value).length=0);have rg:W3.drew.rangeAt B 0 ca3:=by
     have:=aS hM4.sa.row
     rw [hlx] at this;exact this
    have hl9:=hM4.ea.len;have CH:=aa (tK hM4.ea hM4.lo p (au aN i m).now);have CF:=aa fun q cl vs (hA:AnE W3.drew.heap.size q (bn (au aN i m).a.e (au aN i m).a.F1 (au aN i m).a.F2 p (au aN i m).now) cl vs) (hfv:∀ g,vs.ownBlock=some g→W3.drew.heap.size≤g) (hbq:Below W3.drew.heap.size W3.drew q)=>th hM4.sa (by decide) (iF _ _ _ _ _) hA hfv hbq
    rw [hlx] at CF;have hSm:∀ q,Below W3.heap.size W3 q→q.cell? ⟨S1,0,none⟩=some (.pointer (some ⟨B,0,none⟩))∧q.cell? ⟨S1+1,0,none⟩=some (.int .i64 (au aN i m).now)∧q.cell? ⟨z.heap.size,0,none⟩=some (.int .i64 p.code)∧q.cell? ⟨z.heap.size,1,none⟩=some (.int .i64 p.id)∧q.cell? ⟨z.heap.size,2,none⟩=some (.string p.data):=fun q hq=>by
     have h3:=(hq.block _ (ge.1 hN3).1).trans hN3;exact ⟨(hq.cell (p:=⟨S1,0,none⟩) (World.block_lt_of_cell? _ _ g1)).trans g1,(hq.cell (p:=⟨S1+1,0,none⟩) (World.block_lt_of_cell? _ _ g2)).trans g2,by rw [cr h3];rfl,by rw [cr h3];rfl,by rw [cr h3];rfl⟩
    have HSm:=aa hSm;have HFIN:Hid (∀ W' cb' v3,Sl base 66 W' B ([]:List Value) (cb3 ++ [vb3] ++ [Value.int .i64 (au aN i m).now]) (fk (au aN i m).a p (au aN i m).now) cb' v3→Fr B va3 v3 W3.drew W'→Nb9 W3.drew ca3 cb'→(W'.cell? ⟨S1,0,none⟩=some (.pointer (some ⟨B,0,none⟩))∧W'.cell? ⟨S1+1,0,none⟩=some (.int .i64 (au aN i m).now)∧W'.cell? ⟨z.heap.size,0,none⟩=some (.int .i64 p.code)∧W'.cell? ⟨z.heap.size,1,none⟩=some (.int .i64 p.id)∧W'.cell? ⟨z.heap.size,2,none⟩=some (.string p.data))∧KeepsFrom W2.heap.size W3 W'∧∃ va3 vb3,MW base B (au aN (i+1) m) W' va3 vb3∧Fw l B va vb va3 vb3 W2 W'):=aa fun W' cb' v3 hs hfr hnb=>by
     have hN0:W3.drew.heap[z.heap.size]?=_:=hN3;have e3:W'.heap[z.heap.size]?=_:=(hfr.same _ (ge.1 hN0).1 (fun e=>by
      rw [e,hM4.row] at hN0;injection hN0 with e1;injection e1 with _ e1;exact absurd e1 (by decide)) (fun e=>by have:=hown _ (Or.inl e);omega)).trans hN0
     have kx:∀ (g:Nat) (x:Value) (T:TypeId),T≠66→T≠85→W3.heap[g]?=some (.cells #[x] T)→W'.cell? ⟨g,0,none⟩=some x:=fun g x T t1 t2 hg=>by
      have hg0:W3.drew.heap[g]?=_:=hg;have:=(hfr.same g (ge.1 hg0).1 (fun e=>by
       rw [e,hM4.row] at hg0;injection hg0 with e1;injection e1 with _ e1;exact t1 e1.symm) (fun e=>by
       obtain ⟨_,_,_,c,h2⟩:=hM4.sa.wr.ownB g e;rw [hg0] at h2;cases h2;exact t2 rfl)).trans hg0
      exact gP this
     refine ⟨⟨kx S1 _ _ (by decide) (by decide) (uh HS1 _ _ _ hf3),kx (S1+1) _ _ (by decide) (by decide) (uh HS2 _ _ _ hf3),by rw [cr e3];rfl,by rw [cr e3];rfl,by rw [cr e3];rfl⟩,(eD hd3).trans (hfr.keeps ⟨_,_,hM4.row⟩ (fun g hg=>(hM4.sa.wr.ownB g hg).2.2.2.imp fun c h=>⟨_,h⟩)),v3,vb3,?_,hf3.trans ((Fw.of_below hd3).trans (Fw.a _ hfr))⟩;rw [uh HST];exact ⟨_,_,hM4.setA hs hfr hnb⟩
    clear hSm hd3 hM4 hM3 hf3 g1 g2 hN3 HST HS1 HS2 hown hlx;generalize z.heap.size=N at *;unfold fk at HFIN;generalize bn (au aN i m).a.e (au aN i m).a.F1 (au aN i m).a.F2 p (au aN i m).now=EO9 at *;rw [hnow] at CH CF HSm HFIN;clear hnow;obtain ⟨pc,pi,pd⟩:=p;dsimp only at CH HSm HFIN;gi_wp2
    refine gO (S:=fun w=>w.cell? ⟨S1,0,none⟩=some (.pointer (some ⟨B,0,none⟩))∧w.cell? ⟨S1+1,0,none⟩=some (.int .i64 m.now)∧w.cell? ⟨N,0,none⟩=some (.int .i64 pc)∧w.cell? ⟨N,1,none⟩=some (.int .i64 pi)∧w.cell? ⟨N,2,none⟩=some (.string pd)) (by kernel_rfl) (by kernel_rfl) ?_ ?_
    ·rintro ⟨a,w,h⟩;cases h.1
    have hS0:=uh HSm W3.drew (zC _ _).drew;refine tq 0 1 2 3 ?_;refine tt 5 6 ?_;refine r3 4 fun K hK=>?_
    rw [if_pos (by rfl)];refine wp_load_mid 32 (.tmp 12) rfl B 0 rfl ca3 _ rg underlying32 rfl (by rw [hl9];exact aL) ?_;refine ro hK hS0 fun _=>?_
    clear hK K;refine r3 7 fun K hK=>?_
    go_simp;refine (uh CH).mono ?_;rintro r q ⟨cl,vs,rfl,hA,hfv,hbq⟩;have hS1:=uh HSm q ((zC W3.heap.size W3).drew.trans hbq);have HQ:=aa (uh CF q cl vs hA hfv hbq);clear CH CF hA hfv hbq hS0;refine ro hK hS1 fun _=>?_
    clear hK K;refine r3 8 fun K hK=>?_
    go_simp;refine (uh HQ).mono ?_;rintro e W' ⟨rfl,cb',v3,hs,hfr,hnb⟩;obtain ⟨hS2,hk9,hj9⟩:=uh HFIN W' cb' v3 hs hfr hnb;refine ro hK hS2 fun _=>?_
    clear hK K;refine dn ?_ _;exact ⟨rfl,hk9,h1q,hj9⟩
end Go.Proofs.YtjdgiimfpkideaaGreatDoor
