/- DrawPut DrawPk SrcPi -/
import Derived.Test.YtahpjlbaagkdoaaGreatDoorS33
set_option maxHeartbeats 4000000
namespace Go.Proofs.YtahpjlbaagkdoaaGreatDoor
open Go.RowKit Go.Proofs.Tryz
theorem map_set (xs:List Int) (k:Nat) (z:Int):((xs.map (Value.int .u8)).toArray.setIfInBounds k (.int .u8 z))=((xs.set k z).map (Value.int .u8)).toArray:=by
 simp [List.map_set]
theorem made_zeroL (n:Nat):(madeCells (Value.int .u8 0).cells (n*1)).toList=(List.replicate n (0:Int)).map (Value.int .u8):=by
 apply List.ext_getElem
 ·simp [madeCells,Value.cells]
 ·intro i h1 h2;simp [madeCells,Value.cells,Nat.mod_one]
theorem row_own {w:World} {g n:Nat} {xs:List Int} (h:w.heap[g]?=some (.cells (xs.map (Value.int .u8)).toArray 5)) (hn:xs.length=n) (hm:n≤1000):w.ownsRow g 5 1 (.slice (some ⟨g,0,none⟩) n n) n (xs.map (Value.int .u8)) :=
 ⟨by simp [hn],Or.inr ⟨g,n,_,rfl,Nat.le_refl _,h,Nat.le_refl _,by unfold maxLen;omega,by simp [hn],by rw [List.toList_toArray,Nat.mul_one,List.take_of_length_le (by simp [hn])]⟩⟩
theorem put5 (z:Int) (n:Nat) (w:World) (hn:n≤8) (hz:0≤z) (hz2:z≤4294967295) :
  Calls prog 106 #[.int .i64 z,.int .i64 n] w fun e w'=>∃ t:ByteArray,e=.returned (.string t)∧t.size=n∧Below w.heap.size w w':=by
 obtain ⟨ui,hi1,hi2,hi3,hi4⟩:=u8info;go_enter func106,ntmps106
 go_wp2_with (first
  | (at_make;refine wpList_make_full w rfl _ _ 22 rfl w.heap.size 5 ui (.int .u8 0) 1 underlying22 hi1 hi2 hi3 .i64 .i64 _ _ n rfl rfl rfl rfl (by rw [hi4];omega) (by unfold maxLen;omega) (Nat.le_refl _) ?_;rintro w1 ho1 hg1;rw [made_zeroL] at ho1;have HO1:=hide ho1;have HG1:=hide hg1;clear ho1 hg1))
 have hb1:Below w.heap.size w w1:=(Below.refl _ _).grown (uh HG1) (Nat.le_refl _) (fun k hk=>by cases hk);have hc1:w1.heap[w.heap.size]?=some (.cells ((List.replicate n (0:Int)).map (Value.int .u8)).toArray 5):=by
  rcases (uh HO1).2 with ⟨k,_⟩ | ⟨g',cap,cur,k1,_,k3,_,_,k6,k7⟩
  ·cases k
  ·simp only [Value.slice.injEq,Option.some.injEq,Addr.mk.injEq,true_and,and_true] at k1;obtain ⟨rfl,rfl⟩:=k1;have hcur:cur=((List.replicate n (0:Int)).map (Value.int .u8)).toArray:=by
    apply Array.ext'
    rw [List.toList_toArray,← k7,List.take_of_length_le (by rw [Array.length_toList,k6];omega)]
   rw [k3,hcur]
 have HC:=hide (And.intro hc1 hb1);clear HO1 HG1 hb1 hc1;go_loopw [0,6] (fun x y wr=>∃ (j:Nat) (q:Int) (xs:List Int),j≤n∧y=.int .i64 ((j:Int) - 1)∧x=.int .i64 q∧0≤q∧q≤4294967295∧xs.length=n∧wr.heap[w.heap.size]?=some (.cells (xs.map (Value.int .u8)).toArray 5)∧Below w.heap.size w wr) (fun _ y _=>((intOf y)+1).toNat)
 case atStart=>exact ⟨n,z,List.replicate n 0,Nat.le_refl _,rfl,rfl,hz,hz2,by simp,(uh HC).1,(uh HC).2⟩
 case round =>
  obtain ⟨j,q,xs,hj,rfl,rfl,hq0,hq1,hxs,hc,hb⟩:=hrel;clear HC;rcases j with _ | j
  ·have hcv:=conv_own (row_own hc hxs (by omega));have d1:¬ ((0:Int)≤((0:Nat):Int) - 1):=by omega
   go_wp2
   go_ret
   exact ⟨_,rfl,by rw [strOfNums_size,hxs],hb⟩
  ·rw [show ((j+1:Nat):Int) - 1=(j:Int) by omega];have d1:(0:Int)≤(j:Int):=by omega
   have d2:(j:Int)<(n:Int):=by omega
   obtain ⟨y0,hy0⟩:∃ y,wr.cell? ⟨w.heap.size,j,none⟩=some y:=⟨.int .u8 (xs[j]'(by omega)),by rw [cr hc];simp⟩;have f0:wr.frozen? ⟨w.heap.size,j,none⟩=false:=frz hc _;have HH:=hide hc;have hbs:=hb.size;clear hc;go_wp2
   go_roundw
   case rel =>
    refine ⟨j,q / 256,xs.set j (q % 256),by omega,by go_num,rfl,by omega,by omega,by rw [List.length_set];exact hxs,?_,hb.setCell (p:=⟨w.heap.size,j,none⟩) (Nat.le_refl _) _⟩;rw [heap_setCell_same _ _ j _ _ _ (uh HH),map_set]
   case measure=>simp [intOf]
theorem row3d {w:World} {B:Nat} {x0 x1 x2:Value} {T:TypeId} (h:w.heap[B]?=some (.cells #[x0,x1,x2] T)) :
  w.cell? ⟨B,0,none⟩=some x0∧w.cell? ⟨B,1,none⟩=some x1∧w.cell? ⟨B,2,none⟩=some x2∧w.frozen? ⟨B,0,none⟩=false∧w.frozen? ⟨B,1,none⟩=false∧w.frozen? ⟨B,2,none⟩=false :=
 ⟨by rw [cr h];rfl,by rw [cr h];rfl,by rw [cr h];rfl,frz h _,frz h _,frz h _⟩
theorem infoPkt:(prog.info? 35).map (·.size)=some 3:=by kernel_rfl
theorem loadP {W:World} {E:Nat} {x0 x1 x2:Value} (h:W.heap[E]?=some (.cells #[x0,x1,x2] 35)):(loadVar 35 ⟨E,0,none⟩).run prog W=.ok (.agg #[x0,x1,x2]) W :=
 run_loadVar_row (P:=prog) _ _ 35 35 #[x0,x1,x2] (0,0) _ h underlying35 rfl infoPkt
structure Pst (w W:World) (B:Nat) (sl:Value) (n rb xb:Nat) (c i:Int) (t:ByteArray):Prop where
 r:W.heap[rb]?=some (.cells #[.int .i64 0,.int .i64 0,.string ⟨#[]⟩] 35)
 x:W.heap[xb]?=some (.cells #[.int .i64 c,.int .i64 i,.string t] 35)
 s:Src W B sl n
 g:Nigh B w W
theorem Pst.step {w W W':World} {B:Nat} {sl:Value} {n rb xb:Nat} {c i:Int} {t:ByteArray} (h:Pst w W B sl n rb xb c i t) (hn:Nigh B W W') (hs:Src W' B sl n) (h1:rb≠B) (h2:xb≠B):Pst w W' B sl n rb xb c i t :=
 ⟨(hn.block rb (ge.1 h.r).1 h1).trans h.r,(hn.block xb (ge.1 h.x).1 h2).trans h.x,hs,h.g.trans hn⟩
theorem Pst.set0 {w W:World} {B:Nat} {sl:Value} {n rb xb:Nat} {c i:Int} {t:ByteArray} (h:Pst w W B sl n rb xb c i t) (y:Int) (h1:rb≠xb) (h2:xb≠B) (h3:w.heap.size≤xb):Pst w (W.setCell ⟨xb,0,none⟩ (.int .i64 y)) B sl n rb xb y i t :=
 ⟨(Below.heap_setCell _ ⟨xb,0,none⟩ _ rb h1).trans h.r,by rw [heap_setCell_same _ _ 0 _ _ _ h.x];rfl,h.s.same (Below.heap_setCell _ ⟨xb,0,none⟩ _ B (Ne.symm h2)),h.g.setCell ⟨xb,0,none⟩ _ h3⟩
theorem Pst.set1 {w W:World} {B:Nat} {sl:Value} {n rb xb:Nat} {c i:Int} {t:ByteArray} (h:Pst w W B sl n rb xb c i t) (y:Int) (h1:rb≠xb) (h2:xb≠B) (h3:w.heap.size≤xb):Pst w (W.setCell ⟨xb,1,none⟩ (.int .i64 y)) B sl n rb xb c y t :=
 ⟨(Below.heap_setCell _ ⟨xb,1,none⟩ _ rb h1).trans h.r,by rw [heap_setCell_same _ _ 1 _ _ _ h.x];rfl,h.s.same (Below.heap_setCell _ ⟨xb,1,none⟩ _ B (Ne.symm h2)),h.g.setCell ⟨xb,1,none⟩ _ h3⟩
theorem Pst.set2 {w W:World} {B:Nat} {sl:Value} {n rb xb:Nat} {c i:Int} {t:ByteArray} (h:Pst w W B sl n rb xb c i t) (y:ByteArray) (h1:rb≠xb) (h2:xb≠B) (h3:w.heap.size≤xb):Pst w (W.setCell ⟨xb,2,none⟩ (.string y)) B sl n rb xb c i y :=
 ⟨(Below.heap_setCell _ ⟨xb,2,none⟩ _ rb h1).trans h.r,by rw [heap_setCell_same _ _ 2 _ _ _ h.x];rfl,h.s.same (Below.heap_setCell _ ⟨xb,2,none⟩ _ B (Ne.symm h2)),h.g.setCell ⟨xb,2,none⟩ _ h3⟩
theorem src_some (w:World) (B:Nat) (sl:Value) (n:Nat) (hn:n≤maxLen) (hS:Src w B sl n) (hD:Dat w B sl n) :
  Calls prog 30 #[.pointer (some ⟨B,0,none⟩)] w fun e w'=>∃ p:Op.Pk,e=.returned (.agg #[.int .i64 p.code,.int .i64 p.id,.string p.data])∧p.data.size≤251∧Src w' B sl n∧Nigh B w w':=by
 obtain ⟨ui,hi1,hi2,hi3,hi4⟩:=u8info;have hBw:=hS.lt;have HD:=hide hD;have DB:Hid (∀ W,Nigh B w W→Dat W B sl n):=hide fun W h=>(uh HD).below (h.below (by omega))
 have hn0:Nigh B w (w.alloc (.cells #[.int .i64 0,.int .i64 0,.string ⟨#[]⟩] 35)):=(Nigh.refl _ _).alloc _;have hS0:Src (w.alloc (.cells #[.int .i64 0,.int .i64 0,.string ⟨#[]⟩] 35)) B sl n:=hS.same (Below.heap_alloc _ _ _ hBw);have hr0:=heap_alloc_new w (.cells #[.int .i64 0,.int .i64 0,.string ⟨#[]⟩] 35);have H0:=hide (And.intro hr0 (And.intro hS0 hn0));have hBne:w.heap.size≠B:=by omega
 clear hS hD hn0 hS0 hr0;go_enter func30,ntmps30
 go_wp2_with fail
 refine (src_n _ B sl n 12 (by decide) hn (uh H0).2.1 (uh DB _ (uh H0).2.2)).mono ?_;rintro e w1 ⟨r1,rfl,hr1,hS1,ht1⟩;have H1:=hide (And.intro ((ht1.block w.heap.size hBne).trans (uh H0).1) (And.intro hS1 ((uh H0).2.2.trans (Nigh.of_touch ht1))));clear hS1 ht1 H0;go_wp2_with fail
 refine (src_n _ B sl n 5 (by decide) hn (uh H1).2.1 (uh DB _ (uh H1).2.2)).mono ?_;rintro e w2 ⟨r2,rfl,hr2,hS2,ht2⟩;have H2:=hide (And.intro ((ht2.block w.heap.size hBne).trans (uh H1).1) (And.intro hS2 ((uh H1).2.2.trans (Nigh.of_touch ht2))));clear hS2 ht2 H1;go_wp2_with fail
 refine (src_n _ B sl n 9 (by decide) hn (uh H2).2.1 (uh DB _ (uh H2).2.2)).mono ?_;rintro e w3 ⟨r3,rfl,hr3,hS3,ht3⟩;have H3:=hide (And.intro ((ht3.block w.heap.size hBne).trans (uh H2).1) (And.intro hS3 ((uh H2).2.2.trans (Nigh.of_touch ht3))));clear hS3 ht3 H2;have hr3':r3<100:=by omega
 have hr1':r1<12:=by omega
 go_wp2_with fail
 refine (src_bytes_n _ B sl n r3 (by omega) hn (uh H3).2.1 (uh DB _ (uh H3).2.2)).mono ?_;rintro e w4 ⟨xs,rfl,hxl,hS4,hn4⟩;have hlt3:w.heap.size<w3.heap.size:=(ge.1 (uh H3).1).1;have H4:=hide (And.intro ((hn4.block w.heap.size hlt3 hBne).trans (uh H3).1) (And.intro hS4 ((uh H3).2.2.trans hn4)));have hts:(strOfNums xs).size≤251:=by rw [strOfNums_size];omega
 generalize strOfNums xs=t at *;have hlt4:w.heap.size<w4.heap.size:=Nat.lt_of_lt_of_le hlt3 hn4.size;have hB4:=hS4.lt;have HT:=hide hts;clear hS4 hn4 H3 hxl hr3 hr2 hr1 hts;have FIN:Hid (∀ (W:World) (c i:Int) (t:ByteArray),Pst w W B sl n w.heap.size w4.heap.size c i t→Src (((W.setCell ⟨w.heap.size,0,none⟩ (.int .i64 c)).setCell ⟨w.heap.size,1,none⟩ (.int .i64 i)).setCell ⟨w.heap.size,2,none⟩ (.string t)) B sl n∧Nigh B w (((W.setCell ⟨w.heap.size,0,none⟩ (.int .i64 c)).setCell ⟨w.heap.size,1,none⟩ (.int .i64 i)).setCell ⟨w.heap.size,2,none⟩ (.string t))∧(loadVar 35 ⟨w.heap.size,0,none⟩).run prog (((W.setCell ⟨w.heap.size,0,none⟩ (.int .i64 c)).setCell ⟨w.heap.size,1,none⟩ (.int .i64 i)).setCell ⟨w.heap.size,2,none⟩ (.string t))=.ok (.agg #[.int .i64 c,.int .i64 i,.string t]) (((W.setCell ⟨w.heap.size,0,none⟩ (.int .i64 c)).setCell ⟨w.heap.size,1,none⟩ (.int .i64 i)).setCell ⟨w.heap.size,2,none⟩ (.string t))):=by
  refine hide fun W c i t h=>⟨h.s.same ?_,((h.g.setCell _ _ (Nat.le_refl _)).setCell _ _ (Nat.le_refl _)).setCell _ _ (Nat.le_refl _),?_⟩
  ·rw [Below.heap_setCell _ ⟨w.heap.size,2,none⟩ _ B (Ne.symm hBne),Below.heap_setCell _ ⟨w.heap.size,1,none⟩ _ B (Ne.symm hBne),Below.heap_setCell _ ⟨w.heap.size,0,none⟩ _ B (Ne.symm hBne)]
  ·exact loadP (heap_setCell_same _ _ 2 _ _ _ (heap_setCell_same _ _ 1 _ _ _ (heap_setCell_same _ _ 0 _ _ _ h.r)))
 have hX4:Pst w (w4.alloc (.cells #[.int .i64 (1+(r1:Int)),.int .i64 r2,.string t] 35)) B sl n w.heap.size w4.heap.size (1+(r1:Int)) r2 t:=⟨(Below.heap_alloc _ _ _ hlt4).trans (uh H4).1,heap_alloc_new w4 _,(uh H4).2.1.same (Below.heap_alloc _ _ _ hB4),(uh H4).2.2.alloc _⟩;have HX4:=hide hX4;clear hX4 H4;go_wp2_with fail
 refine (src_one _ B sl n 15 (by decide) hn (uh HX4).s (uh DB _ (uh HX4).g)).mono ?_;rintro e w5 ⟨b5,rfl,hS5,ht5⟩;have hX:=(uh HX4).step (Nigh.of_touch ht5) hS5 (by omega) (by omega);clear hS5 ht5 HX4;cases b5
 ·obtain ⟨x0,x1,x2,_,_,_⟩:=row3d hX.x;obtain ⟨y0,y1,y2,f0,f1,f2⟩:=row3d hX.r;have HF:=hide (uh FIN _ _ _ _ hX);have hts:=uh HT;clear FIN hX;go_wp2
  refine bodyPost_ret (v:=.agg #[.int .i64 _,.int .i64 _,.string _]) (by simp [results,results30,asAddr,(uh HF).2.2];first | exact ⟨rfl,rfl⟩ | exact ⟨rfl,rfl,rfl⟩ | rfl) rfl ⟨⟨_,_,_⟩,rfl,hts,(uh HF).1,(uh HF).2.1⟩
 ·have HX:=hide hX;clear hX;go_wp2_with fail
  refine (src_n _ B sl n 3 (by decide) hn (uh HX).s (uh DB _ (uh HX).g)).mono ?_;rintro e w6 ⟨q,rfl,hq,hS6,ht6⟩;have HX6:=hide ((uh HX).step (Nigh.of_touch ht6) hS6 (by omega) (by omega));have hB6:=hS6.lt;clear hS6 ht6 HX hq;by_cases q0:q=0
  ·subst q0;go_wp2_with fail
   have hsq:Src (w6.alloc (.cells #[.int .i64 (-1),.int .i64 255,.int .i64 256] 2)) B sl n:=(uh HX6).s.same (Below.heap_alloc _ _ _ hB6);have hnq:Nigh B w (w6.alloc (.cells #[.int .i64 (-1),.int .i64 255,.int .i64 256] 2)):=(uh HX6).g.alloc _;refine (src_n _ B sl n 3 (by decide) hn hsq (uh DB _ hnq)).mono ?_;rintro e w7 ⟨r7,rfl,hr7,hS7,ht7⟩;have hr7':r7<3:=by omega
   obtain ⟨y,hy,_,_⟩:=lit_cell ((ht7.block w6.heap.size (by omega)).trans (heap_alloc_new w6 _)) (by decide) r7 (by simpa using hr7');have hX7:=((uh HX6).step ((Nigh.refl _ _).alloc _) hsq (by omega) (by omega)).step (Nigh.of_touch ht7) hS7 (by omega) (by omega);obtain ⟨x0,x1,x2,f0,f1,f2⟩:=row3d hX7.x;have HX8:=hide (hX7.set0 y (by omega) (by omega) (by omega));clear hX7 hsq hnq hr7 hS7 ht7 HX6;go_upto_region 9 with fail
   refine gen_world (fun q=>Pst w q B sl n w.heap.size w4.heap.size _ _ t) (uh HX8) ?_;clear x0 x1 x2 f0 f1 f2 HX8;rintro q2 hX;obtain ⟨x0,x1,x2,_,_,_⟩:=row3d hX.x;obtain ⟨y0,y1,y2,f0,f1,f2⟩:=row3d hX.r;have HF:=hide (uh FIN _ _ _ _ hX);have hts:=uh HT;clear FIN hX;go_wp2
   refine bodyPost_ret (v:=.agg #[.int .i64 _,.int .i64 _,.string _]) (by simp [results,results30,asAddr,(uh HF).2.2];first | exact ⟨rfl,rfl⟩ | exact ⟨rfl,rfl,rfl⟩ | rfl) rfl ⟨⟨_,_,_⟩,rfl,hts,(uh HF).1,(uh HF).2.1⟩
  ·have e0:((q:Int) == 0)=false:=beq_eq_false_iff_ne.2 (by omega);by_cases q1:q=1
   ·subst q1;go_wp2_with fail
    have hsq:Src (w6.alloc (.cells #[.int .i64 (-1),.int .i64 255,.int .i64 256] 2)) B sl n:=(uh HX6).s.same (Below.heap_alloc _ _ _ hB6);have hnq:Nigh B w (w6.alloc (.cells #[.int .i64 (-1),.int .i64 255,.int .i64 256] 2)):=(uh HX6).g.alloc _;refine (src_n _ B sl n 3 (by decide) hn hsq (uh DB _ hnq)).mono ?_;rintro e w7 ⟨r7,rfl,hr7,hS7,ht7⟩;have hr7':r7<3:=by omega
    obtain ⟨y,hy,_,_⟩:=lit_cell ((ht7.block w6.heap.size (by omega)).trans (heap_alloc_new w6 _)) (by decide) r7 (by simpa using hr7');have hX7:=((uh HX6).step ((Nigh.refl _ _).alloc _) hsq (by omega) (by omega)).step (Nigh.of_touch ht7) hS7 (by omega) (by omega);obtain ⟨x0,x1,x2,f0,f1,f2⟩:=row3d hX7.x;have HX8:=hide (hX7.set1 y (by omega) (by omega) (by omega));clear hX7 hsq hnq hr7 hS7 ht7 HX6;go_upto_region 9 with fail
    refine gen_world (fun q=>Pst w q B sl n w.heap.size w4.heap.size _ _ t) (uh HX8) ?_;clear x0 x1 x2 f0 f1 f2 HX8;rintro q2 hX;obtain ⟨x0,x1,x2,_,_,_⟩:=row3d hX.x;obtain ⟨y0,y1,y2,f0,f1,f2⟩:=row3d hX.r;have HF:=hide (uh FIN _ _ _ _ hX);have hts:=uh HT;clear FIN hX;go_wp2
    refine bodyPost_ret (v:=.agg #[.int .i64 _,.int .i64 _,.string _]) (by simp [results,results30,asAddr,(uh HF).2.2];first | exact ⟨rfl,rfl⟩ | exact ⟨rfl,rfl,rfl⟩ | rfl) rfl ⟨⟨_,_,_⟩,rfl,hts,(uh HF).1,(uh HF).2.1⟩
   ·have e1:((q:Int) == 1)=false:=beq_eq_false_iff_ne.2 (by omega);go_wp2_with fail
    refine (src_n _ B sl n 3 (by decide) hn (uh HX6).s (uh DB _ (uh HX6).g)).mono ?_;rintro e w7 ⟨r7,rfl,hr7,hS7,ht7⟩;have hr7':r7<3:=by omega
    have HX7:=hide ((uh HX6).step (Nigh.of_touch ht7) hS7 (by omega) (by omega));have hB7:=hS7.lt;clear hr7 hS7 ht7 HX6 HT
    go_upto_region 9 with (first
     | (at_make;refine wpList_make_full w7 rfl _ _ 22 rfl w7.heap.size 5 ui (.int .u8 0) 1 underlying22 hi1 hi2 hi3 .i64 .i64 _ _ (249+r7) rfl rfl (by go_num) (by go_num) (by rw [hi4];omega) (by unfold maxLen;omega) (Nat.le_refl _) ?_;rintro w8 ho8 hg8;rw [made_zeroL] at ho8;have hcv:=conv_own ho8;have hb8:Below w7.heap.size w7 w8:=(Below.refl _ _).grown hg8 (Nat.le_refl _) (fun k hk=>by cases hk);have hX8:=(uh HX7).step (Nigh.of_below hb8) ((uh HX7).s.same (hb8.block B hB7)) (by omega) (by omega);have HT:Hid ((strOfNums (List.replicate (249+r7) 0)).size≤251):=hide (by rw [strOfNums_size,List.length_replicate];omega);obtain ⟨x0,x1,x2,f0,f1,f2⟩:=row3d hX8.x;have HX8:=hide (hX8.set2 (strOfNums (List.replicate (249+r7) 0)) (by omega) (by omega) (by omega));clear hX8 ho8 hg8 hb8 HX7))
    refine gen_world (fun q=>Pst w q B sl n w.heap.size w4.heap.size _ _ (strOfNums (List.replicate (249+r7) 0))) (uh HX8) ?_;clear x0 x1 x2 f0 f1 f2 HX8 hcv;generalize strOfNums (List.replicate (249+r7) 0)=t9 at *;rintro q2 hX;obtain ⟨x0,x1,x2,_,_,_⟩:=row3d hX.x;obtain ⟨y0,y1,y2,f0,f1,f2⟩:=row3d hX.r;have HF:=hide (uh FIN _ _ _ _ hX);have hts:=uh HT;clear FIN hX;go_wp2
    refine bodyPost_ret (v:=.agg #[.int .i64 _,.int .i64 _,.string _]) (by simp [results,results30,asAddr,(uh HF).2.2];first | exact ⟨rfl,rfl⟩ | exact ⟨rfl,rfl,rfl⟩ | rfl) rfl ⟨⟨_,_,_⟩,rfl,hts,(uh HF).1,(uh HF).2.1⟩
theorem holdsT_at {w:World} {v:Value} {L:List ByteArray} (h:HoldsT w v L) (r:Nat) (hr:r<L.length):∃ g cp,v=.slice (some ⟨g,0,none⟩) L.length cp∧w.cell? ⟨g,r,none⟩=some (.string L[r])∧g<w.heap.size:=by
 rcases h with ⟨_,_,_,e⟩ | ⟨g,cp,cur,e,q1,q2,q3⟩
 ·rw [e] at hr;exact absurd hr (Nat.not_lt_zero _)
 ·exact ⟨g,cp,e,by rw [cr q1,q3 r hr];exact scells_get L r _ (List.getElem?_eq_getElem hr),(ge.1 q1).1⟩
theorem src_pick (w:World) (B:Nat) (sl:Value) (n:Nat) (v:Value) (L:List ByteArray) (hn:n≤maxLen) (hS:Src w B sl n) (hD:Dat w B sl n) (hL:HoldsT w v L) (h0:0<L.length) (h1:L.length≤1000) (hv:v.ownBlock≠some B) :
  Calls prog 28 #[.pointer (some ⟨B,0,none⟩),v] w fun e w'=>∃ t,e=.returned (.string t)∧t ∈ L∧Src w' B sl n∧Touch B w w':=by
 have C:=hide (src_n w B sl n L.length (by omega) hn hS hD);have HL:=hide fun r hr=>holdsT_at hL r hr
 obtain ⟨ad,cp,rfl⟩:=hL.form;clear hL hS hD;go_enter func28,ntmps28
 go_wp2_with fail
 refine (uh C).mono ?_;rintro e w1 ⟨r,rfl,hr,hS1,ht1⟩;have hr':r<L.length:=by omega
 have hri:(r:Int)<(L.length:Int):=by omega
 obtain ⟨g,cp',e,k0,_⟩:=uh HL r hr';cases e;have hgB:g≠B:=fun e=>hv (by rw [e];rfl)
 have k1:w1.cell? ⟨g,r,none⟩=some (.string L[r]):=by
  rw [← k0];unfold World.cell?;rw [ht1.block g hgB]
 have HM:=hide (List.getElem_mem hr');have H1:=hide (And.intro hS1 ht1);generalize L[r]=t at *;clear k0 HL C hS1 ht1 hr hgB;go_wp2
 go_ret
 exact ⟨t,rfl,uh HM,(uh H1).1,(uh H1).2⟩
end Go.Proofs.YtahpjlbaagkdoaaGreatDoor
