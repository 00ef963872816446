/- DrawOp DrawOps -/
import Derived.Test.YtahpjlbaagkdoaaGreatDoorS35
set_option maxHeartbeats 4000000
set_option maxRecDepth 100000
namespace Go.Proofs.YtahpjlbaagkdoaaGreatDoor
open Go.RowKit Go.Proofs.Tryz
def okU32:Value→Bool
 | .int .i64 n=>decide (0≤n∧n≤4294967295)
 | _=>false
theorem lit_u32 {w:World} {g:Nat} {cs:Array Value} {T:TypeId} (h:w.heap[g]?=some (.cells cs T)) (ha:∀ v ∈ cs.toList,okU32 v=true) (r:Nat) (hr:r<cs.size) :
  ∃ x:Int,w.cell? ⟨g,r,none⟩=some (.int .i64 x)∧0≤x∧x≤4294967295:=by
 have h1:=ha cs[r] (by simp);unfold okU32 at h1;split at h1
 ·rename_i n hn
  have h2:=of_decide_eq_true h1;exact ⟨n,by rw [cell_of_row w g r cs T (0,0) h,Array.getElem?_eq_getElem hr,hn],h2.1,h2.2⟩
 ·cases h1
theorem row2o {w:World} {B:Nat} {x0 x1:Value} {T:TypeId} (h:w.heap[B]?=some (.cells #[x0,x1] T)) :
  w.cell? ⟨B,0,none⟩=some x0∧w.cell? ⟨B,1,none⟩=some x1∧w.frozen? ⟨B,0,none⟩=false∧w.frozen? ⟨B,1,none⟩=false :=
 ⟨by rw [cr h];rfl,by rw [cr h];rfl,frz h _,frz h _⟩
structure Ost (w W:World) (B:Nat) (sl:Value) (n rb xb:Nat) (kd:Int) (dt:ByteArray):Prop where
 r:W.heap[rb]?=some (.cells #[.int .i64 0,.string ⟨#[]⟩] 116)
 x:W.heap[xb]?=some (.cells #[.int .i64 kd,.string dt] 116)
 s:Src W B sl n
 g:Nigh B w W
theorem Ost.step {w W W':World} {B:Nat} {sl:Value} {n rb xb:Nat} {kd:Int} {dt:ByteArray} (h:Ost w W B sl n rb xb kd dt) (hn:Nigh B W W') (hs:Src W' B sl n) (h1:rb≠B) (h2:xb≠B):Ost w W' B sl n rb xb kd dt :=
 ⟨(hn.block rb (ge.1 h.r).1 h1).trans h.r,(hn.block xb (ge.1 h.x).1 h2).trans h.x,hs,h.g.trans hn⟩
theorem Ost.set {w W:World} {B:Nat} {sl:Value} {n rb xb:Nat} {kd:Int} {dt:ByteArray} (h:Ost w W B sl n rb xb kd dt) (t:ByteArray) (h1:rb≠xb) (h2:xb≠B) (h3:w.heap.size≤xb):Ost w (W.setCell ⟨xb,1,none⟩ (.string t)) B sl n rb xb kd t :=
 ⟨(Below.heap_setCell _ ⟨xb,1,none⟩ _ rb h1).trans h.r,by rw [heap_setCell_same _ _ 1 _ _ _ h.x];rfl,h.s.same (Below.heap_setCell _ ⟨xb,1,none⟩ _ B (Ne.symm h2)),h.g.setCell ⟨xb,1,none⟩ _ h3⟩
theorem infoOpt:(prog.info? 116).map (·.size)=some 2:=by kernel_rfl
theorem loadO {W:World} {E:Nat} {x0 x1:Value} (h:W.heap[E]?=some (.cells #[x0,x1] 116)):(loadVar 116 ⟨E,0,none⟩).run prog W=.ok (.agg #[x0,x1]) W :=
 run_loadVar_row (P:=prog) _ _ 116 116 #[x0,x1] (0,0) _ h underlying116 rfl infoOpt
theorem start2a (w:World) (a b:Obj):((w.alloc a).alloc b).heap.size=w.heap.size+1+1∧((w.alloc a).alloc b).heap[w.heap.size]?=some a∧((w.alloc a).alloc b).heap[w.heap.size+1]?=some b∧Below w.heap.size w ((w.alloc a).alloc b):=by
 have s1:(w.alloc a).heap.size=w.heap.size+1:=by simp
 have e2:=heap_alloc_new (w.alloc a) b;rw [s1] at e2;refine ⟨by simp,?_,e2,((Below.refl _ _).alloc (Nat.le_refl _) _).alloc (by omega) _⟩;rw [Below.heap_alloc _ _ _ (by omega)];exact heap_alloc_new w a
theorem src_option (w:World) (B:Nat) (sl:Value) (n:Nat) (hn:n≤maxLen) (hS:Src w B sl n) (hD:Dat w B sl n) :
  Calls prog 69 #[.pointer (some ⟨B,0,none⟩)] w fun e w'=>∃ (kd:Int) (dt:ByteArray),e=.returned (.agg #[.int .i64 kd,.string dt])∧Src w' B sl n∧Nigh B w w':=by
 have hBw:=hS.lt;have HS:=hide hS;have HD:=hide hD;clear hS hD;have DB:Hid (∀ W,Nigh B w W→Dat W B sl n):=hide fun W h=>(uh HD).below (h.below (by omega))
 go_enter func69,ntmps69
 go_wp2_with fail
 have hn0:Nigh B w ((w.alloc (.cells #[.int .i64 0,.string ⟨#[]⟩] 116)).alloc (.cells #[.int .i64 1,.int .i64 2,.int .i64 5,.int .i64 7,.int .i64 8,.int .i64 9,.int .i64 3,.int .i64 1,.int .i64 9] 2)):=((Nigh.refl _ _).alloc _).alloc _;have hS0:Src ((w.alloc (.cells #[.int .i64 0,.string ⟨#[]⟩] 116)).alloc (.cells #[.int .i64 1,.int .i64 2,.int .i64 5,.int .i64 7,.int .i64 8,.int .i64 9,.int .i64 3,.int .i64 1,.int .i64 9] 2)) B sl n:=(uh HS).same (by rw [Below.heap_alloc _ _ _ (by simp;omega),Below.heap_alloc _ _ _ hBw]);refine (src_n _ B sl n 9 (by decide) hn hS0 (uh DB _ hn0)).mono ?_;rintro e w1 ⟨r,rfl,hr,hS1,ht1⟩;have hr2:r<9:=by omega
 obtain ⟨hsz0,q0,q1,_⟩:=start2a w (.cells #[.int .i64 0,.string ⟨#[]⟩] 116) (.cells #[.int .i64 1,.int .i64 2,.int .i64 5,.int .i64 7,.int .i64 8,.int .i64 9,.int .i64 3,.int .i64 1,.int .i64 9] 2);have hlist:=(ht1.block (w.heap.size+1) (by omega)).trans q1;have hres:=(ht1.block w.heap.size (by omega)).trans q0;obtain ⟨kd,hkd,_,_⟩:=lit_cell hlist (by decide) r (by simpa using hr2);have hn1:Nigh B w w1:=hn0.trans (Nigh.of_touch ht1);have hs1:=ht1.size;have HR:=hide (And.intro hres (And.intro hS1 hn1));have hlw:w.heap.size+2≤w1.heap.size:=by rw [hs1,hsz0];omega
 clear hS0 hn0 ht1 hr hlist hres hS1 hn1 HS hs1 q0 q1 hsz0;have hne1:¬ (w.heap.size+1=w1.heap.size):=by omega
 go_upto_if 12 with fail
 refine gen_world (fun q=>Ost w q B sl n w.heap.size w1.heap.size kd ⟨#[]⟩∧w1.heap.size<q.heap.size)
  ⟨⟨(Below.heap_alloc _ _ _ (by omega)).trans (uh HR).1,heap_alloc_new w1 _,(uh HR).2.1.same (Below.heap_alloc _ _ _ (by omega)),(uh HR).2.2.alloc _⟩,by simp⟩ ?_
 rintro q ⟨hq,hlq⟩;have hBq:B<q.heap.size:=by omega
 have HQ:=hide hq;clear HR hkd hq;have FIN:Hid (∀ (W:World) (t:ByteArray),Ost w W B sl n w.heap.size w1.heap.size kd t→Src ((W.setCell ⟨w.heap.size,0,none⟩ (.int .i64 kd)).setCell ⟨w.heap.size,1,none⟩ (.string t)) B sl n∧Nigh B w ((W.setCell ⟨w.heap.size,0,none⟩ (.int .i64 kd)).setCell ⟨w.heap.size,1,none⟩ (.string t))∧(loadVar 116 ⟨w.heap.size,0,none⟩).run prog ((W.setCell ⟨w.heap.size,0,none⟩ (.int .i64 kd)).setCell ⟨w.heap.size,1,none⟩ (.string t))=.ok (.agg #[.int .i64 kd,.string t]) ((W.setCell ⟨w.heap.size,0,none⟩ (.int .i64 kd)).setCell ⟨w.heap.size,1,none⟩ (.string t))):=by
  refine hide fun W t h=>⟨h.s.same ?_,(h.g.setCell _ _ (Nat.le_refl _)).setCell _ _ (Nat.le_refl _),?_⟩
  ·rw [Below.heap_setCell _ ⟨w.heap.size,1,none⟩ _ B (by show B≠w.heap.size;omega),Below.heap_setCell _ ⟨w.heap.size,0,none⟩ _ B (by show B≠w.heap.size;omega)]
  ·exact loadO (heap_setCell_same _ _ 1 _ _ _ (heap_setCell_same _ _ 0 _ _ _ h.r))
 by_cases k1:kd=1
 ·subst k1;go_wp2_with fail
  have hnq:Nigh B w (q.alloc (.cells #[.int .i64 64,.int .i64 300,.int .i64 63,.int .i64 301,.int .i64 100,.int .i64 5000] 2)):=(uh HQ).g.alloc _;have hsq:Src (q.alloc (.cells #[.int .i64 64,.int .i64 300,.int .i64 63,.int .i64 301,.int .i64 100,.int .i64 5000] 2)) B sl n:=(uh HQ).s.same (Below.heap_alloc _ _ _ hBq);refine (src_n _ B sl n 6 (by decide) hn hsq (uh DB _ hnq)).mono ?_;rintro e w2 ⟨r2,rfl,hr2,hS2,ht2⟩;have hr2':r2<6:=by omega
  obtain ⟨v2,hv2,hv0,hv1⟩:=lit_u32 ((ht2.block q.heap.size (by omega)).trans (heap_alloc_new q _)) (by decide) r2 (by simpa using hr2');have hO2:=((uh HQ).step ((Nigh.refl _ _).alloc _) hsq (by omega) (by omega)).step (Nigh.of_touch ht2) hS2 (by omega) (by omega);have HO2:=hide hO2;have hB2:=hS2.lt;clear hnq hsq hr2 hS2 ht2 hO2;go_wp2_with fail
  refine (put5 v2 2 w2 (by decide) hv0 hv1).mono ?_;rintro e w3 ⟨t3,rfl,_,hb3⟩;have hO3:=(uh HO2).step (Nigh.of_below hb3) ((uh HO2).s.same (hb3.block B hB2)) (by omega) (by omega);obtain ⟨x0,x1,f0,f1⟩:=row2o hO3.x;have HO3:=hide hO3;clear hO3 hb3 HO2;have hOT:=(uh HO3).set t3 (by omega) (by omega) (by omega);have HO:=hide hOT;generalize hdt:t3=dt at *;clear hOT HO3 hdt;go_wp2_with fail
  refine (src_one _ B sl n 10 (by decide) hn (uh HO).s (uh DB _ (uh HO).g)).mono ?_;rintro e w4 ⟨b4,rfl,hS4,ht4⟩;have hO4:=(uh HO).step (Nigh.of_touch ht4) hS4 (by omega) (by omega);have HO4:=hide hO4;clear hO4 hS4 ht4 HO;cases b4
  ·obtain ⟨x0,x1,_,_⟩:=row2o (uh HO4).x;obtain ⟨y0,y1,f0,f1⟩:=row2o (uh HO4).r;have hfin:=uh FIN _ _ (uh HO4);have HF:=hide hfin;clear hfin FIN HO4;go_wp2
   refine bodyPost_ret (v:=.agg #[.int .i64 _,.string dt]) (by simp [results,results69,asAddr,(uh HF).2.2];rfl) rfl ⟨_,dt,rfl,(uh HF).1,(uh HF).2.1⟩
  ·go_wp2_with fail
   refine (src_n _ B sl n 6 (by decide) hn (uh HO4).s (uh DB _ (uh HO4).g)).mono ?_;rintro e w5 ⟨r5,rfl,hr5,hS5,ht5⟩;have hO5:=(uh HO4).step (Nigh.of_touch ht5) hS5 (by omega) (by omega);have HO5:=hide hO5;have hr5':r5<100000:=by omega
   clear hO5 hS5 ht5 HO4 hr5;go_wp2_with fail
   refine (src_bytes_n _ B sl n r5 hr5' hn (uh HO5).s (uh DB _ (uh HO5).g)).mono ?_;rintro e w6 ⟨xs,rfl,_,hS6,hn6⟩;have hO6:=(uh HO5).step hn6 hS6 (by omega) (by omega);generalize strOfNums xs=t6 at *;obtain ⟨x0,x1,f0,f1⟩:=row2o hO6.x;have hO7:=hO6.set t6 (by omega) (by omega) (by omega);have HO7:=hide hO7;clear hO6 hn6 hS6 HO5 hO7;go_upto_region 13 with fail
   refine gen_world (fun q=>Ost w q B sl n w.heap.size w1.heap.size _ t6) (uh HO7) ?_;clear x0 x1 f0 f1 HO7;rintro q2 hO7;obtain ⟨x0,x1,_,_⟩:=row2o hO7.x;obtain ⟨y0,y1,f0,f1⟩:=row2o hO7.r;have HF:=hide (uh FIN _ _ hO7);clear FIN hO7;go_wp2
   refine bodyPost_ret (v:=.agg #[.int .i64 _,.string t6]) (by simp [results,results69,asAddr,(uh HF).2.2];rfl) rfl ⟨_,t6,rfl,(uh HF).1,(uh HF).2.1⟩
 ·have e1:(kd == 1)=false:=beq_eq_false_iff_ne.2 k1;by_cases k2:kd=2
  ·subst k2;go_wp2_with fail
   have hnq:Nigh B w (q.alloc (.cells #[.int .i64 0,.int .i64 4294967295,.int .i64 131072,.int .i64 655360] 2)):=(uh HQ).g.alloc _;have hsq:Src (q.alloc (.cells #[.int .i64 0,.int .i64 4294967295,.int .i64 131072,.int .i64 655360] 2)) B sl n:=(uh HQ).s.same (Below.heap_alloc _ _ _ hBq);refine (src_n _ B sl n 4 (by decide) hn hsq (uh DB _ hnq)).mono ?_;rintro e w2 ⟨r2,rfl,hr2,hS2,ht2⟩;have hr2':r2<4:=by omega
   obtain ⟨v2,hv2,hv0,hv1⟩:=lit_u32 ((ht2.block q.heap.size (by omega)).trans (heap_alloc_new q _)) (by decide) r2 (by simpa using hr2');have hO2:=((uh HQ).step ((Nigh.refl _ _).alloc _) hsq (by omega) (by omega)).step (Nigh.of_touch ht2) hS2 (by omega) (by omega);have HO2:=hide hO2;have hB2:=hS2.lt;clear hnq hsq hr2 hS2 ht2 hO2;go_wp2_with fail
   refine (put5 v2 4 w2 (by decide) hv0 hv1).mono ?_;rintro e w3 ⟨t3,rfl,_,hb3⟩;have hO3:=(uh HO2).step (Nigh.of_below hb3) ((uh HO2).s.same (hb3.block B hB2)) (by omega) (by omega);obtain ⟨x0,x1,f0,f1⟩:=row2o hO3.x;have HO3:=hide hO3;clear hO3 hb3 HO2;have hOT:=(uh HO3).set t3 (by omega) (by omega) (by omega);have HO:=hide hOT;generalize hdt:t3=dt at *;clear hOT HO3 hdt;go_wp2_with fail
   refine (src_one _ B sl n 10 (by decide) hn (uh HO).s (uh DB _ (uh HO).g)).mono ?_;rintro e w4 ⟨b4,rfl,hS4,ht4⟩;have hO4:=(uh HO).step (Nigh.of_touch ht4) hS4 (by omega) (by omega);have HO4:=hide hO4;clear hO4 hS4 ht4 HO;cases b4
   ·obtain ⟨x0,x1,_,_⟩:=row2o (uh HO4).x;obtain ⟨y0,y1,f0,f1⟩:=row2o (uh HO4).r;have hfin:=uh FIN _ _ (uh HO4);have HF:=hide hfin;clear hfin FIN HO4;go_wp2
    refine bodyPost_ret (v:=.agg #[.int .i64 _,.string dt]) (by simp [results,results69,asAddr,(uh HF).2.2];rfl) rfl ⟨_,dt,rfl,(uh HF).1,(uh HF).2.1⟩
   ·go_wp2_with fail
    refine (src_n _ B sl n 6 (by decide) hn (uh HO4).s (uh DB _ (uh HO4).g)).mono ?_;rintro e w5 ⟨r5,rfl,hr5,hS5,ht5⟩;have hO5:=(uh HO4).step (Nigh.of_touch ht5) hS5 (by omega) (by omega);have HO5:=hide hO5;have hr5':r5<100000:=by omega
    clear hO5 hS5 ht5 HO4 hr5;go_wp2_with fail
    refine (src_bytes_n _ B sl n r5 hr5' hn (uh HO5).s (uh DB _ (uh HO5).g)).mono ?_;rintro e w6 ⟨xs,rfl,_,hS6,hn6⟩;have hO6:=(uh HO5).step hn6 hS6 (by omega) (by omega);generalize strOfNums xs=t6 at *;obtain ⟨x0,x1,f0,f1⟩:=row2o hO6.x;have hO7:=hO6.set t6 (by omega) (by omega) (by omega);have HO7:=hide hO7;clear hO6 hn6 hS6 HO5 hO7;go_upto_region 13 with fail
    refine gen_world (fun q=>Ost w q B sl n w.heap.size w1.heap.size _ t6) (uh HO7) ?_;clear x0 x1 f0 f1 HO7;rintro q2 hO7;obtain ⟨x0,x1,_,_⟩:=row2o hO7.x;obtain ⟨y0,y1,f0,f1⟩:=row2o hO7.r;have HF:=hide (uh FIN _ _ hO7);clear FIN hO7;go_wp2
    refine bodyPost_ret (v:=.agg #[.int .i64 _,.string t6]) (by simp [results,results69,asAddr,(uh HF).2.2];rfl) rfl ⟨_,t6,rfl,(uh HF).1,(uh HF).2.1⟩
  ·have e2:(kd == 2)=false:=beq_eq_false_iff_ne.2 k2;by_cases k5:kd=5
   ·subst k5;go_wp2_with fail
    have hnq:Nigh B w (q.alloc (.cells #[.int .i64 0,.int .i64 5,.int .i64 77,.int .i64 4294967295,.int .i64 1073741824] 2)):=(uh HQ).g.alloc _;have hsq:Src (q.alloc (.cells #[.int .i64 0,.int .i64 5,.int .i64 77,.int .i64 4294967295,.int .i64 1073741824] 2)) B sl n:=(uh HQ).s.same (Below.heap_alloc _ _ _ hBq);refine (src_n _ B sl n 5 (by decide) hn hsq (uh DB _ hnq)).mono ?_;rintro e w2 ⟨r2,rfl,hr2,hS2,ht2⟩;have hr2':r2<5:=by omega
    obtain ⟨v2,hv2,hv0,hv1⟩:=lit_u32 ((ht2.block q.heap.size (by omega)).trans (heap_alloc_new q _)) (by decide) r2 (by simpa using hr2');have hO2:=((uh HQ).step ((Nigh.refl _ _).alloc _) hsq (by omega) (by omega)).step (Nigh.of_touch ht2) hS2 (by omega) (by omega);have HO2:=hide hO2;have hB2:=hS2.lt;clear hnq hsq hr2 hS2 ht2 hO2;go_wp2_with fail
    refine (put5 v2 4 w2 (by decide) hv0 hv1).mono ?_;rintro e w3 ⟨t3,rfl,_,hb3⟩;have hO3:=(uh HO2).step (Nigh.of_below hb3) ((uh HO2).s.same (hb3.block B hB2)) (by omega) (by omega);obtain ⟨x0,x1,f0,f1⟩:=row2o hO3.x;have HO3:=hide hO3;clear hO3 hb3 HO2;have hOT:=(uh HO3).set t3 (by omega) (by omega) (by omega);have HO:=hide hOT;generalize hdt:t3=dt at *;clear hOT HO3 hdt;go_wp2_with fail
    refine (src_one _ B sl n 10 (by decide) hn (uh HO).s (uh DB _ (uh HO).g)).mono ?_;rintro e w4 ⟨b4,rfl,hS4,ht4⟩;have hO4:=(uh HO).step (Nigh.of_touch ht4) hS4 (by omega) (by omega);have HO4:=hide hO4;clear hO4 hS4 ht4 HO;cases b4
    ·obtain ⟨x0,x1,_,_⟩:=row2o (uh HO4).x;obtain ⟨y0,y1,f0,f1⟩:=row2o (uh HO4).r;have hfin:=uh FIN _ _ (uh HO4);have HF:=hide hfin;clear hfin FIN HO4;go_wp2
     refine bodyPost_ret (v:=.agg #[.int .i64 _,.string dt]) (by simp [results,results69,asAddr,(uh HF).2.2];rfl) rfl ⟨_,dt,rfl,(uh HF).1,(uh HF).2.1⟩
    ·go_wp2_with fail
     refine (src_n _ B sl n 6 (by decide) hn (uh HO4).s (uh DB _ (uh HO4).g)).mono ?_;rintro e w5 ⟨r5,rfl,hr5,hS5,ht5⟩;have hO5:=(uh HO4).step (Nigh.of_touch ht5) hS5 (by omega) (by omega);have HO5:=hide hO5;have hr5':r5<100000:=by omega
     clear hO5 hS5 ht5 HO4 hr5;go_wp2_with fail
     refine (src_bytes_n _ B sl n r5 hr5' hn (uh HO5).s (uh DB _ (uh HO5).g)).mono ?_;rintro e w6 ⟨xs,rfl,_,hS6,hn6⟩;have hO6:=(uh HO5).step hn6 hS6 (by omega) (by omega);generalize strOfNums xs=t6 at *;obtain ⟨x0,x1,f0,f1⟩:=row2o hO6.x;have hO7:=hO6.set t6 (by omega) (by omega) (by omega);have HO7:=hide hO7;clear hO6 hn6 hS6 HO5 hO7;go_upto_region 13 with fail
     refine gen_world (fun q=>Ost w q B sl n w.heap.size w1.heap.size _ t6) (uh HO7) ?_;clear x0 x1 f0 f1 HO7;rintro q2 hO7;obtain ⟨x0,x1,_,_⟩:=row2o hO7.x;obtain ⟨y0,y1,f0,f1⟩:=row2o hO7.r;have HF:=hide (uh FIN _ _ hO7);clear FIN hO7;go_wp2
     refine bodyPost_ret (v:=.agg #[.int .i64 _,.string t6]) (by simp [results,results69,asAddr,(uh HF).2.2];rfl) rfl ⟨_,t6,rfl,(uh HF).1,(uh HF).2.1⟩
   ·have e5:(kd == 5)=false:=beq_eq_false_iff_ne.2 k5;by_cases k9:kd=9
    ·subst k9;go_wp2_with fail
     have hnq:Nigh B w (q.alloc (.cells #[.int .i64 2,.int .i64 4,.int .i64 1,.int .i64 6] 2)):=(uh HQ).g.alloc _;have hsq:Src (q.alloc (.cells #[.int .i64 2,.int .i64 4,.int .i64 1,.int .i64 6] 2)) B sl n:=(uh HQ).s.same (Below.heap_alloc _ _ _ hBq);refine (src_n _ B sl n 4 (by decide) hn hsq (uh DB _ hnq)).mono ?_;rintro e w2 ⟨r2,rfl,hr2,hS2,ht2⟩;have hr2':r2<4:=by omega
     obtain ⟨v2,hv2,hv0,hv1⟩:=lit_u32 ((ht2.block q.heap.size (by omega)).trans (heap_alloc_new q _)) (by decide) r2 (by simpa using hr2');have hO2:=((uh HQ).step ((Nigh.refl _ _).alloc _) hsq (by omega) (by omega)).step (Nigh.of_touch ht2) hS2 (by omega) (by omega);have HO2:=hide hO2;have hB2:=hS2.lt;clear hnq hsq hr2 hS2 ht2 hO2;go_wp2_with fail
     refine (put5 v2 1 w2 (by decide) hv0 hv1).mono ?_;rintro e w3 ⟨t3,rfl,_,hb3⟩;have hO3:=(uh HO2).step (Nigh.of_below hb3) ((uh HO2).s.same (hb3.block B hB2)) (by omega) (by omega);obtain ⟨x0,x1,f0,f1⟩:=row2o hO3.x;have HO3:=hide hO3;clear hO3 hb3 HO2;have hOT:=(uh HO3).set t3 (by omega) (by omega) (by omega);have HO:=hide hOT;generalize hdt:t3=dt at *;clear hOT HO3 hdt;go_wp2_with fail
     refine (src_one _ B sl n 10 (by decide) hn (uh HO).s (uh DB _ (uh HO).g)).mono ?_;rintro e w4 ⟨b4,rfl,hS4,ht4⟩;have hO4:=(uh HO).step (Nigh.of_touch ht4) hS4 (by omega) (by omega);have HO4:=hide hO4;clear hO4 hS4 ht4 HO;cases b4
     ·obtain ⟨x0,x1,_,_⟩:=row2o (uh HO4).x;obtain ⟨y0,y1,f0,f1⟩:=row2o (uh HO4).r;have hfin:=uh FIN _ _ (uh HO4);have HF:=hide hfin;clear hfin FIN HO4;go_wp2
      refine bodyPost_ret (v:=.agg #[.int .i64 _,.string dt]) (by simp [results,results69,asAddr,(uh HF).2.2];rfl) rfl ⟨_,dt,rfl,(uh HF).1,(uh HF).2.1⟩
     ·go_wp2_with fail
      refine (src_n _ B sl n 6 (by decide) hn (uh HO4).s (uh DB _ (uh HO4).g)).mono ?_;rintro e w5 ⟨r5,rfl,hr5,hS5,ht5⟩;have hO5:=(uh HO4).step (Nigh.of_touch ht5) hS5 (by omega) (by omega);have HO5:=hide hO5;have hr5':r5<100000:=by omega
      clear hO5 hS5 ht5 HO4 hr5;go_wp2_with fail
      refine (src_bytes_n _ B sl n r5 hr5' hn (uh HO5).s (uh DB _ (uh HO5).g)).mono ?_;rintro e w6 ⟨xs,rfl,_,hS6,hn6⟩;have hO6:=(uh HO5).step hn6 hS6 (by omega) (by omega);generalize strOfNums xs=t6 at *;obtain ⟨x0,x1,f0,f1⟩:=row2o hO6.x;have hO7:=hO6.set t6 (by omega) (by omega) (by omega);have HO7:=hide hO7;clear hO6 hn6 hS6 HO5 hO7;go_upto_region 13 with fail
      refine gen_world (fun q=>Ost w q B sl n w.heap.size w1.heap.size _ t6) (uh HO7) ?_;clear x0 x1 f0 f1 HO7;rintro q2 hO7;obtain ⟨x0,x1,_,_⟩:=row2o hO7.x;obtain ⟨y0,y1,f0,f1⟩:=row2o hO7.r;have HF:=hide (uh FIN _ _ hO7);clear FIN hO7;go_wp2
      refine bodyPost_ret (v:=.agg #[.int .i64 _,.string t6]) (by simp [results,results69,asAddr,(uh HF).2.2];rfl) rfl ⟨_,t6,rfl,(uh HF).1,(uh HF).2.1⟩
    ·have e9:(kd == 9)=false:=beq_eq_false_iff_ne.2 k9;have HO:=HQ;generalize hdt:(⟨#[]⟩:ByteArray)=dt at HO;clear HQ hdt;go_wp2_with fail
     refine (src_one _ B sl n 10 (by decide) hn (uh HO).s (uh DB _ (uh HO).g)).mono ?_;rintro e w4 ⟨b4,rfl,hS4,ht4⟩;have hO4:=(uh HO).step (Nigh.of_touch ht4) hS4 (by omega) (by omega);have HO4:=hide hO4;clear hO4 hS4 ht4 HO;cases b4
     ·obtain ⟨x0,x1,_,_⟩:=row2o (uh HO4).x;obtain ⟨y0,y1,f0,f1⟩:=row2o (uh HO4).r;have hfin:=uh FIN _ _ (uh HO4);have HF:=hide hfin;clear hfin FIN HO4;go_wp2
      refine bodyPost_ret (v:=.agg #[.int .i64 _,.string dt]) (by simp [results,results69,asAddr,(uh HF).2.2];rfl) rfl ⟨_,dt,rfl,(uh HF).1,(uh HF).2.1⟩
     ·go_wp2_with fail
      refine (src_n _ B sl n 6 (by decide) hn (uh HO4).s (uh DB _ (uh HO4).g)).mono ?_;rintro e w5 ⟨r5,rfl,hr5,hS5,ht5⟩;have hO5:=(uh HO4).step (Nigh.of_touch ht5) hS5 (by omega) (by omega);have HO5:=hide hO5;have hr5':r5<100000:=by omega
      clear hO5 hS5 ht5 HO4 hr5;go_wp2_with fail
      refine (src_bytes_n _ B sl n r5 hr5' hn (uh HO5).s (uh DB _ (uh HO5).g)).mono ?_;rintro e w6 ⟨xs,rfl,_,hS6,hn6⟩;have hO6:=(uh HO5).step hn6 hS6 (by omega) (by omega);generalize strOfNums xs=t6 at *;obtain ⟨x0,x1,f0,f1⟩:=row2o hO6.x;have hO7:=hO6.set t6 (by omega) (by omega) (by omega);have HO7:=hide hO7;clear hO6 hn6 hS6 HO5 hO7;go_upto_region 13 with fail
      refine gen_world (fun q=>Ost w q B sl n w.heap.size w1.heap.size _ t6) (uh HO7) ?_;clear x0 x1 f0 f1 HO7;rintro q2 hO7;obtain ⟨x0,x1,_,_⟩:=row2o hO7.x;obtain ⟨y0,y1,f0,f1⟩:=row2o hO7.r;have HF:=hide (uh FIN _ _ hO7);clear FIN hO7;go_wp2
      refine bodyPost_ret (v:=.agg #[.int .i64 _,.string t6]) (by simp [results,results69,asAddr,(uh HF).2.2];rfl) rfl ⟨_,t6,rfl,(uh HF).1,(uh HF).2.1⟩
structure Osts (w W:World) (B:Nat) (sl:Value) (n:Nat) (v:Value) (F:List Op.Opt):Prop where
 o:W.ownsRow w.heap.size 116 2 v F.length (ocells F)
 s:Src W B sl n
 g:Nigh B w W
theorem own_nigh {W W':World} {B base:Nat} {e:TypeId} {size:Nat} {v:Value} {n:Nat} {xs:List Value} (h:W.ownsRow base e size v n xs) (hn:Nigh B W W') (hB:B<base):W'.ownsRow base e size v n xs :=
 ⟨h.1,h.2.imp id fun ⟨g,cap,cur,h1,h2,h3,h4⟩=>⟨g,cap,cur,h1,h2,(hn.block g (ge.1 h3).1 (by omega)).trans h3,h4⟩⟩
theorem Osts.step {w W W':World} {B:Nat} {sl:Value} {n:Nat} {v:Value} {F:List Op.Opt} (h:Osts w W B sl n v F) (hn:Nigh B W W') (hs:Src W' B sl n) (hB:B<w.heap.size):Osts w W' B sl n v F :=
 ⟨own_nigh h.o hn hB,hs,h.g.trans hn⟩
theorem Osts.grow {w W W':World} {B:Nat} {sl:Value} {n:Nat} {v v':Value} {F:List Op.Opt} {kd:Int} {dt:ByteArray} (h:Osts w W B sl n v F) (ho:W'.ownsRow w.heap.size 116 2 v' (F.length+1) (ocells (F ++ [⟨kd,dt⟩]))) (hg:(W.alloc (.cells #[.int .i64 kd,.string dt] 116)).grownBy W' v.ownBlock) (hB:B<w.heap.size):Osts w W' B sl n v' (F ++ [⟨kd,dt⟩]):=by
 have hlt:=h.s.lt;refine ⟨by simpa using ho,h.s.same ?_,(h.g.alloc _).grown hg (fun q hq=>(World.ownsRow.lt h.o q hq).1)⟩;rw [hg.block B (by simp;omega) (fun e=>by have:=World.ownsRow.lt h.o B e.symm;omega)];exact Below.heap_alloc _ _ _ hlt
def vlen:Value→Nat
 | .slice _ n _=>n
 | _=>0
theorem src_options (w:World) (B:Nat) (sl:Value) (n:Nat) (hn:n≤maxLen) (hS:Src w B sl n) (hD:Dat w B sl n) :
  Calls prog 32 #[.pointer (some ⟨B,0,none⟩)] w fun e w'=>∃ (F:List Op.Opt) (ad:Option Addr) (cp:Nat),e=.returned (.slice ad F.length cp)∧F.length≤100∧Osts w w' B sl n (.slice ad F.length cp) F:=by
 obtain ⟨ui,hi1,hi2,hi3,hi4⟩:=u8info;have hBw:=hS.lt;have HD:=hide hD;have DB:Hid (∀ W,Nigh B w W→Dat W B sl n):=hide fun W h=>(uh HD).below (h.below (by omega))
 have H0:Hid (Osts w (w.alloc (.cells #[] 116)) B sl n (.slice (some ⟨w.heap.size,0,none⟩) 0 0) []):=hide ⟨World.ownsRow_lit w #[] 0 (by omega) (Nat.zero_le _) rfl,hS.same (Below.heap_alloc _ _ _ hBw),(Nigh.refl _ _).alloc _⟩;clear hS hD;go_enter func32,ntmps32
 go_wp2_with fail
 refine (src_n _ B sl n 6 (by decide) hn (uh H0).s (uh DB _ (uh H0).g)).mono ?_;rintro e w1 ⟨r,rfl,hr,hS1,ht1⟩;have H1:=hide ((uh H0).step (Nigh.of_touch ht1) hS1 hBw);have hr6:r≤6:=by omega
 clear hr hS1 ht1 H0;go_wp2_with fail
 go_loopw [3,4] (fun x y wr=>∃ (k:Nat) (F:List Op.Opt),y=.int .i64 k∧F.length+k≤6∧(∃ a c,x=.slice a F.length c)∧Osts w wr B sl n x F) (fun _ y _=>(intOf y).toNat)
 case atStart=>exact ⟨r,[],rfl,by simpa using hr6,⟨_,_,rfl⟩,uh H1⟩
 case round =>
  obtain ⟨k,F,rfl,hk,⟨a,c,rfl⟩,hO⟩:=hrel;have HO:=hide hO;have hbs:=hO.g.size;clear hO H1;rcases k with _ | k
  ·have d1:¬ ((0:Int)<((0:Nat):Int)):=by omega
   have hF:F.length≤6:=by omega
   clear hk;go_wp2_with fail
   refine (src_one _ B sl n 20 (by decide) hn (uh HO).s (uh DB _ (uh HO).g)).mono ?_;rintro e w2 ⟨b2,rfl,hS2,ht2⟩;have H2:=hide ((uh HO).step (Nigh.of_touch ht2) hS2 hBw);clear hS2 ht2 HO hbs;cases b2
   ·go_wp2
    go_ret
    exact ⟨F,a,c,rfl,by omega,uh H2⟩
   ·go_wp2_with fail
    refine (src_n _ B sl n 3 (by decide) hn (uh H2).s (uh DB _ (uh H2).g)).mono ?_;rintro e w3 ⟨q,rfl,hq,hS3,ht3⟩;have H3:=hide ((uh H2).step (Nigh.of_touch ht3) hS3 hBw);have hs3:=(uh H3).g.size;have hB3:=hS3.lt;clear hq hS3 ht3 H2;by_cases q0:q=0
    ·subst q0;go_wp2_with fail
     have hn4:Nigh B w (w3.alloc (.cells #[.int .i64 0,.int .i64 255,.int .i64 256] 2)):=(uh H3).g.alloc _;have hS4:Src (w3.alloc (.cells #[.int .i64 0,.int .i64 255,.int .i64 256] 2)) B sl n:=(uh H3).s.same (Below.heap_alloc _ _ _ hB3);refine (src_n _ B sl n 3 (by decide) hn hS4 (uh DB _ hn4)).mono ?_;rintro e w5 ⟨r5,rfl,hr5,hS5,ht5⟩;have hr5':r5<3:=by omega
     obtain ⟨kd,hkd,_,_⟩:=lit_cell ((ht5.block w3.heap.size (by omega)).trans (heap_alloc_new w3 _)) (by decide) r5 (by simpa using hr5');have H5:=hide (((uh H3).step ((Nigh.refl _ _).alloc _) hS4 hBw).step (Nigh.of_touch ht5) hS5 hBw);have hs5:=(uh H5).g.size;clear hn4 hS4 hr5 hS5 ht5 H3
     go_wp2_with (first
      | (at_builtin;refine append_opt rfl _ _ rfl w.heap.size (.slice a F.length c) F F.length rfl rfl (uh H5).o kd ⟨#[]⟩ rfl (by omega) hs5 ?_;rintro v6 w6 ho6 hg6;obtain ⟨a6,c6,rfl⟩:=own_form ho6;have H6:=hide ((uh H5).grow ho6 hg6 hBw);clear ho6 hg6 H5))
     go_ret
     exact ⟨F ++ [⟨kd,⟨#[]⟩⟩],a6,c6,by simp,by simp;omega,by simpa using uh H6⟩
    ·have e0:((q:Int) == 0)=false:=beq_eq_false_iff_ne.2 (by omega);by_cases q1:q=1
     ·subst q1;go_wp2_with fail
      refine (src_n _ B sl n 2 (by decide) hn (uh H3).s (uh DB _ (uh H3).g)).mono ?_;rintro e w5 ⟨r5,rfl,hr5,hS5,ht5⟩;have hr5':r5<2:=by omega
      have H5:=hide ((uh H3).step (Nigh.of_touch ht5) hS5 hBw);have hs5:=(uh H5).g.size;have hB5:=hS5.lt;clear hr5 hS5 ht5 H3
      go_wp2_with (first
       | (at_make;refine wpList_make_full w5 rfl _ _ 22 rfl w5.heap.size 5 ui (.int .u8 0) 1 underlying22 hi1 hi2 hi3 .i64 .i64 _ _ (20+r5) rfl rfl (by go_num) (by go_num) (by rw [hi4];omega) (by unfold maxLen;omega) (Nat.le_refl _) ?_;rintro w6 ho6 hg6;rw [made_zeroL] at ho6;have hcv:=conv_own ho6;have hb6:Below w5.heap.size w5 w6:=(Below.refl _ _).grown hg6 (Nat.le_refl _) (fun k hk=>by cases hk);have H6:=hide ((uh H5).step (Nigh.of_below hb6) ((uh H5).s.same (hb6.block B hB5)) hBw);have hs6:=(uh H6).g.size;clear ho6 hg6 hb6 H5)
       | (at_builtin;refine append_opt rfl _ _ rfl w.heap.size (.slice a F.length c) F F.length rfl rfl (uh H6).o 3 _ rfl (by omega) hs6 ?_;rintro v7 w7 ho7 hg7;obtain ⟨a7,c7,rfl⟩:=own_form ho7;have H7:=hide ((uh H6).grow ho7 hg7 hBw);clear ho7 hg7 H6))
      go_ret
      exact ⟨F ++ [⟨3,_⟩],a7,c7,by simp,by simp;omega,by simpa using uh H7⟩
     ·have e1:((q:Int) == 1)=false:=beq_eq_false_iff_ne.2 (by omega);go_wp2_with fail
      go_loopw [3] (fun x wr=>∃ (G:List Op.Opt),G.length≤22∧(∃ a c,x=.slice a G.length c)∧Osts w wr B sl n x G) (fun x _=>30 - vlen x)
      case atStart=>exact ⟨F,by omega,⟨_,_,rfl⟩,uh H3⟩
      case round =>
       obtain ⟨G,hG,⟨a',c',rfl⟩,hO'⟩:=hrel;have HO':=hide hO';clear hO' H3;go_wp2_with fail
       refine (src_n _ B sl n 3 (by decide) hn (uh HO').s (uh DB _ (uh HO').g)).mono ?_;rintro e w5 ⟨r5,rfl,hr5,hS5,ht5⟩;have hr5':r5<3:=by omega
       have H5:=hide ((uh HO').step (Nigh.of_touch ht5) hS5 hBw);have hs5:=(uh H5).g.size;clear hr5 hS5 ht5 HO';by_cases hlt:G.length<19+r5
       ·have d2:(G.length:Int)<19+(r5:Int):=by omega
        go_wp2_with (first
         | (at_builtin;refine append_opt rfl _ _ rfl w.heap.size (.slice a' G.length c') G G.length rfl rfl (uh H5).o 3 ⟨#[]⟩ rfl (by omega) hs5 ?_;rintro v6 w6 ho6 hg6;obtain ⟨a6,c6,rfl⟩:=own_form ho6;have H6:=hide ((uh H5).grow ho6 hg6 hBw);clear ho6 hg6 H5))
        go_roundw
        case rel=>exact ⟨G ++ [⟨3,⟨#[]⟩⟩],by simp;omega,⟨a6,c6,by simp⟩,uh H6⟩
        case measure=>simp [vlen];omega
       ·have d2:¬ ((G.length:Int)<19+(r5:Int)):=by omega
        go_wp2
        go_ret
        exact ⟨G,a',c',rfl,by omega,uh H5⟩
  ·have d1:(0:Int)<((k+1:Nat):Int):=by omega
   go_wp2_with fail
   refine (src_option _ B sl n hn (uh HO).s (uh DB _ (uh HO).g)).mono ?_;rintro e w2 ⟨kd,dt,rfl,hS2,hn2⟩;have H2:=hide ((uh HO).step hn2 hS2 hBw);have hs2:=(uh H2).g.size;clear hS2 hn2 HO
   go_wp2_with (first
    | (at_builtin;refine append_opt rfl _ _ rfl w.heap.size (.slice a F.length c) F F.length rfl rfl (uh H2).o kd dt rfl (by omega) hs2 ?_;rintro v6 w6 ho6 hg6;obtain ⟨a6,c6,rfl⟩:=own_form ho6;have H6:=hide ((uh H2).grow ho6 hg6 hBw);clear ho6 hg6 H2))
   go_roundw
   case rel=>exact ⟨k,F ++ [⟨kd,dt⟩],by go_num,by simp;omega,⟨a6,c6,by simp⟩,uh H6⟩
   case measure=>simp [intOf]
end Go.Proofs.YtahpjlbaagkdoaaGreatDoor
