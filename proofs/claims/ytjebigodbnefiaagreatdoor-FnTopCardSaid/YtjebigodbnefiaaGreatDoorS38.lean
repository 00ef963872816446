/- EndNi DkJ DkK HoldF FmB OptMath BlS -/
import Derived.Test.YtjebigodbnefiaaGreatDoorS32
import Derived.Test.YtjebigodbnefiaaGreatDoorS37
set_option maxHeartbeats 8000000
set_option maxRecDepth 100000
namespace Go.Proofs.YtjebigodbnefiaaGreatDoor
open Go.RowKit Go.Proofs.Tryz
theorem jC (m a g:Int) (p c d:Bool) (w:World):Calls prog 38 #[.agg #[.int .i64 m,.int .i64 a,.int .i64 g,.bool p,.bool c,.bool d]] w fun r w'=>r=.returned (.agg (aA (eP m a g p c d) (.slice none 0 0) (.slice none 0 0)))∧Below w.heap.size w w':=by
 have C:=aa fun v=>dm m a g p c d v
 obtain ⟨_,hA,hR,hb⟩:=br w (.cells #[.int .i64 m,.int .i64 a,.int .i64 g,.bool p,.bool c,.bool d] 35) (.cells #[.int .i64 0,.int .i64 0,.int .i64 0,.bool false,.bool false,.bool false,.int .i64 0,.int .i64 0,.int .i64 0,.bool false,.bool false,.bool false,.int .i64 0,.int .i64 0,.int .i64 0,.int .i64 0,.int .i64 0,.slice none 0 0,.slice none 0 0,.bool false,.int .i64 0,.int .i64 0,.bool false,.bool false,.bool false,.int .i64 0,.int .i64 0,.bool false,.bool false,.bool false] 72);have H0:=aa (zA hA (zA hR hb));clear hA hR hb;unfold eP;cases hq:aK m a g
 ·rw [if_neg (by decide)];rw [hq] at C;show Calls prog 38 #[.agg #[.int .i64 m,.int .i64 a,.int .i64 g,.bool p,.bool c,.bool d]] w fun r w'=>r=.returned (.agg #[.int .i64 0,.int .i64 0,.int .i64 0,.bool false,.bool false,.bool false,.int .i64 0,.int .i64 0,.int .i64 0,.bool false,.bool false,.bool false,.int .i64 0,.int .i64 0,.int .i64 0,.int .i64 0,.int .i64 0,.slice none 0 0,.slice none 0 0,.bool false,.int .i64 0,.int .i64 0,.bool false,.bool false,.bool false,.int .i64 0,.int .i64 0,.bool false,.bool false,.bool false])∧Below w.heap.size w w'
  go_enter func38,ntmps38
  go_wp2_with fail
  refine (uh C _).mono ?_;rintro r w1 ⟨rfl,hb1⟩;obtain ⟨hA,hR,hb⟩:=uh H0;have hR1:=(hb1.block (w.heap.size+1) (by simp)).trans hR;have hB1:=hb.trans (hb1.mono hb.size);have H1:=aa (zA hR1 hB1);clear hA hR hb hR1 hB1 hb1 H0 C;go_upto_region 2 with fail
  apply wp_region_lit
  refine wpList_buildTo rfl 72 _ rfl (some 6) rfl #[.int .i64 0,.int .i64 0,.int .i64 0,.bool false,.bool false,.bool false,.int .i64 0,.int .i64 0,.int .i64 0,.bool false,.bool false,.bool false,.int .i64 0,.int .i64 0,.int .i64 0,.int .i64 0,.int .i64 0,.slice none 0 0,.slice none 0 0,.bool false,.int .i64 0,.int .i64 0,.bool false,.bool false,.bool false,.int .i64 0,.int .i64 0,.bool false,.bool false,.bool false] (by as_aux_lemma=>kernel_rfl) ?_;refine wpList_store_rowTo rfl 72 (.tmp 2) (.tmp 6) rfl rfl (w.heap.size+1) #[.int .i64 0,.int .i64 0,.int .i64 0,.bool false,.bool false,.bool false,.int .i64 0,.int .i64 0,.int .i64 0,.bool false,.bool false,.bool false,.int .i64 0,.int .i64 0,.int .i64 0,.int .i64 0,.int .i64 0,.slice none 0 0,.slice none 0 0,.bool false,.int .i64 0,.int .i64 0,.bool false,.bool false,.bool false,.int .i64 0,.int .i64 0,.bool false,.bool false,.bool false] rfl rfl 72 _ (uh H1).1 aL rfl (by kernel_rfl) ?_;apply wpList_nil
  simp only [Act.put,List.setIfInBounds_toArray,List.set_cons_zero,List.set_cons_succ];go_wp2
  exact bodyPost_ret (v:=.agg #[.int .i64 0,.int .i64 0,.int .i64 0,.bool false,.bool false,.bool false,.int .i64 0,.int .i64 0,.int .i64 0,.bool false,.bool false,.bool false,.int .i64 0,.int .i64 0,.int .i64 0,.int .i64 0,.int .i64 0,.slice none 0 0,.slice none 0 0,.bool false,.int .i64 0,.int .i64 0,.bool false,.bool false,.bool false,.int .i64 0,.int .i64 0,.bool false,.bool false,.bool false]) (by simp [results,results38,asAddr,ja (setRow_heap w1 (w.heap.size+1) _ #[.int .i64 0,.int .i64 0,.int .i64 0,.bool false,.bool false,.bool false,.int .i64 0,.int .i64 0,.int .i64 0,.bool false,.bool false,.bool false,.int .i64 0,.int .i64 0,.int .i64 0,.int .i64 0,.int .i64 0,.slice none 0 0,.slice none 0 0,.bool false,.int .i64 0,.int .i64 0,.bool false,.bool false,.bool false,.int .i64 0,.int .i64 0,.bool false,.bool false,.bool false] _ _ (uh H1).1)]) rfl ⟨rfl,am (uh H1).2 (by omega) _⟩
 ·rw [if_pos rfl];rw [hq] at C;show Calls prog 38 #[.agg #[.int .i64 m,.int .i64 a,.int .i64 g,.bool p,.bool c,.bool d]] w fun r w'=>r=.returned (.agg #[.int .i64 m,.int .i64 a,.int .i64 g,.bool p,.bool c,.bool d,.int .i64 m,.int .i64 a,.int .i64 g,.bool p,.bool c,.bool d,.int .i64 0,.int .i64 0,.int .i64 (-1),.int .i64 0,.int .i64 0,.slice none 0 0,.slice none 0 0,.bool false,.int .i64 0,.int .i64 0,.bool false,.bool false,.bool false,.int .i64 0,.int .i64 0,.bool false,.bool false,.bool false])∧Below w.heap.size w w'
  go_enter func38,ntmps38
  go_wp2_with fail
  refine (uh C _).mono ?_;rintro r w1 ⟨rfl,hb1⟩;obtain ⟨hA,hR,hb⟩:=uh H0;have hA1:=(hb1.block w.heap.size (by simp;omega)).trans hA;have hR1:=(hb1.block (w.heap.size+1) (by simp)).trans hR;have hB1:=hb.trans (hb1.mono hb.size);have H1:=aa (zA hA1 (zA hR1 hB1));clear hA hR hb hA1 hR1 hB1 hb1 H0 C;go_upto_region 3 with fail
  apply wp_region_lit
  refine wpList_load_row rfl 35 (.tmp 1) rfl w.heap.size rfl 35 #[.int .i64 m,.int .i64 a,.int .i64 g,.bool p,.bool c,.bool d] (0,0) _ (uh H1).1 underlying35 rfl (by kernel_rfl) ?_;refine wpList_load_row rfl 35 (.tmp 1) rfl w.heap.size rfl 35 #[.int .i64 m,.int .i64 a,.int .i64 g,.bool p,.bool c,.bool d] (0,0) _ (uh H1).1 underlying35 rfl (by kernel_rfl) ?_;refine wpList_buildTo rfl 72 _ rfl (some 9) rfl #[.int .i64 m,.int .i64 a,.int .i64 g,.bool p,.bool c,.bool d,.int .i64 m,.int .i64 a,.int .i64 g,.bool p,.bool c,.bool d,.int .i64 0,.int .i64 0,.int .i64 (-1),.int .i64 0,.int .i64 0,.slice none 0 0,.slice none 0 0,.bool false,.int .i64 0,.int .i64 0,.bool false,.bool false,.bool false,.int .i64 0,.int .i64 0,.bool false,.bool false,.bool false] (by as_aux_lemma=>kernel_rfl) ?_;refine wpList_store_rowTo rfl 72 (.tmp 2) (.tmp 9) rfl rfl (w.heap.size+1) #[.int .i64 m,.int .i64 a,.int .i64 g,.bool p,.bool c,.bool d,.int .i64 m,.int .i64 a,.int .i64 g,.bool p,.bool c,.bool d,.int .i64 0,.int .i64 0,.int .i64 (-1),.int .i64 0,.int .i64 0,.slice none 0 0,.slice none 0 0,.bool false,.int .i64 0,.int .i64 0,.bool false,.bool false,.bool false,.int .i64 0,.int .i64 0,.bool false,.bool false,.bool false] rfl rfl 72 _ (uh H1).2.1 aL rfl (by kernel_rfl) ?_;apply wpList_nil
  simp only [Act.put,List.setIfInBounds_toArray,List.set_cons_zero,List.set_cons_succ];go_wp2
  exact bodyPost_ret (v:=.agg #[.int .i64 m,.int .i64 a,.int .i64 g,.bool p,.bool c,.bool d,.int .i64 m,.int .i64 a,.int .i64 g,.bool p,.bool c,.bool d,.int .i64 0,.int .i64 0,.int .i64 (-1),.int .i64 0,.int .i64 0,.slice none 0 0,.slice none 0 0,.bool false,.int .i64 0,.int .i64 0,.bool false,.bool false,.bool false,.int .i64 0,.int .i64 0,.bool false,.bool false,.bool false]) (by simp [results,results38,asAddr,ja (setRow_heap w1 (w.heap.size+1) _ #[.int .i64 m,.int .i64 a,.int .i64 g,.bool p,.bool c,.bool d,.int .i64 m,.int .i64 a,.int .i64 g,.bool p,.bool c,.bool d,.int .i64 0,.int .i64 0,.int .i64 (-1),.int .i64 0,.int .i64 0,.slice none 0 0,.slice none 0 0,.bool false,.int .i64 0,.int .i64 0,.bool false,.bool false,.bool false,.int .i64 0,.int .i64 0,.bool false,.bool false,.bool false] _ _ (uh H1).2.1)]) rfl ⟨rfl,am (uh H1).2.2 (by omega) _⟩
theorem xS (b n c:Nat) (L:List ByteArray) (x:ByteArray) (bl:Bool) (w:World) (hrow:w.heap[b]?=some (.cells (L.map Value.string).toArray 9)) (hn:L.length=n) (h0:Lib.containsS L ⟨#[]⟩=false) (hf:L[0]?=some x) (hx:Lib.containsS em x=true) (hq:(x.toList == [108,105,110,101])=bl) (hl:n=if bl then 1 else 2) :
  Calls prog 82 #[.slice (some ⟨b,0,none⟩) n c] w fun e w'=>e=.returned (.bool true)∧Below w.heap.size w w':=by
 have hn2:n≤2:=by rw [hl];split<;>omega
 have hn1:1≤n:=by rw [hl];split<;>omega
 have C1:=aa fun (W:World) (hW:W.heap[b]?=some (.cells (L.map Value.string).toArray 9))=>Av b n c L ⟨#[]⟩ W hn.symm (by omega) hW
 rw [h0] at C1;have C2:=aa fun (W:World) (g:Nat) (hW:W.heap[g]?=some (.cells (em.map Value.string).toArray 9))=>Av g 6 6 em x W rfl (by decide) hW
 rw [hx] at C2;have HR:=aa hrow;have c0:∀ W:World,W.heap[b]?=some (.cells (L.map Value.string).toArray 9)→W.cell? ⟨b,0,none⟩=some (.string x):=fun W hW=>by
  rw [cr hW,List.getElem?_toArray,List.getElem?_map,hf];rfl
 have HC:=aa c0;have hlt:=(ge.1 hrow).1;have d1:(0:Int)<(n:Int):=by omega
 have d3:0<n:=by omega
 have HL:=aa hl;clear c0 hrow hf hx h0 hn hl;go_enter func82,ntmps82
 go_upto_region 1 with fail
 refine wp_region_held_drew (S:=fun q=>q.heap[b]?=some (.cells (L.map Value.string).toArray 9)∧q.cell? ⟨b,0,none⟩=some (.string x)) (by kernel_rfl) ⟨uh HR,uh HC _ (uh HR)⟩ (fun hHeld=>?_);have HB:Hid (Below w.heap.size w w.drew):=aa (zC _ _).drew;have HY:Hid (w.drew.heap[b]?=some (.cells (L.map Value.string).toArray 9)):=HR;generalize w.drew=y at *;refine t2 0 ?_;refine r3 1 fun K hK=>?_
 go_simp;refine (uh C1 y (uh HY)).mono ?_;rintro e y1 ⟨rfl,hy1⟩;replace hy1:=hy1.symm;subst hy1;go_wp2_with fail
 refine ro hK ⟨uh HY,uh HC _ (uh HY)⟩ fun _=>?_
 clear hK K;have C3:=aa fun W=>zp W
 have HB2:=aa ((uh HB).trans (((zC y.heap.size y).alloc (zD _) (.cells (em.map Value.string).toArray 9)).mono (uh HB).size));have HY2:=aa ((zG y (.cells (em.map Value.string).toArray 9) b (ge.1 (uh HY)).1).trans (uh HY));have HW2:=aa (zF y (.cells (em.map Value.string).toArray 9));refine t2 2 ?_;refine tt 4 5 ?_;refine t2 6 ?_;refine r3 3 fun K hK=>?_
 go_simp;refine (uh C3 y).mono ?_;rintro e y2 ⟨rfl,hy2⟩;replace hy2:=hy2.symm;generalize y.alloc (.cells (em.map Value.string).toArray 9)=y3 at *;subst hy2;go_wp2_with fail
 refine ro hK ⟨uh HY2,uh HC _ (uh HY2)⟩ fun _=>?_
 clear hK K;refine r3 7 fun K hK=>?_
 go_simp;refine (uh C2 y3 y.heap.size (uh HW2)).mono ?_;rintro e y4 ⟨rfl,hy4⟩;replace hy4:=hy4.symm;subst hy4;go_wp2_with fail
 refine ro hK ⟨uh HY2,uh HC _ (uh HY2)⟩ fun _=>?_
 clear hK K;refine tt 8 9 ?_;refine dn ?_ _;have k0:=uh HC _ (uh HY2);cases bl
 ·have e2:n=2:=uh HL;subst e2;go_wp2
  go_ret
  exact ⟨rfl,uh HB2⟩
 ·have e1:n=1:=uh HL;subst e1;go_wp2
  go_ret
  exact ⟨rfl,uh HB2⟩
theorem uw (T:TypeId) (v:Value) (w:World):Calls prog 84 #[.nilIface,.iface T v] w fun e w'=>e=.returned (.bool false)∧Below w.heap.size w w':=by
 have he:=run_eql_iface_nil_left (P:=prog) (ti:=91) w T v underlying91;go_enter func84,ntmps84
 go_wp2
 go_ret
 exact ⟨rfl,zC _ _⟩
def HoldsF (w:World) (v:Value) (F:List Hd.Fd):Prop :=
 (∃ ad cp,v=.slice ad 0 cp∧F=[])∨∃ g cp cur,v=.slice (some ⟨g,0,none⟩) F.length cp∧w.heap[g]?=some (.cells cur 141)∧F.length*2≤cur.size∧∀ j,j<F.length*2→cur[j]?=(cj F)[j]?
theorem HoldsF.own {w:World} {base:Nat} {v:Value} {F:List Hd.Fd} (h:w.ownsRow base 141 2 v F.length (cj F)):HoldsF w v F:=by
 rcases h.2 with ⟨h1,h2⟩ | ⟨g,cap,cur,h1,_,h3,h4,_,h6,h7⟩
 ·exact Or.inl ⟨_,_,h1,List.eq_nil_of_length_eq_zero h2⟩
 ·refine Or.inr ⟨g,cap,cur,h1,h3,by rw [h6];omega,fun j hj=>?_⟩;rw [← h7,List.getElem?_take,if_pos hj,Array.getElem?_toList]
theorem HoldsF.same {w w':World} {v:Value} {F:List Hd.Fd} (h:HoldsF w v F) (hb:∀ g,v.ownBlock=some g→w'.heap[g]?=w.heap[g]?):HoldsF w' v F :=
 h.imp id fun ⟨g,cp,cur,h1,h2,h3⟩=>⟨g,cp,cur,h1,(hb g (by rw [h1];rfl)).trans h2,h3⟩
theorem HoldsF.lt {w:World} {v:Value} {F:List Hd.Fd} (h:HoldsF w v F) (hF:F≠[]):∃ g,v.ownBlock=some g∧g<w.heap.size:=by
 rcases h with ⟨_,_,_,e⟩ | ⟨g,cp,cur,h1,h2,_⟩
 ·exact absurd e hF
 ·exact ⟨g,by rw [h1];rfl,(ge.1 h2).1⟩
theorem HoldsF.below {w w':World} {v:Value} {F:List Hd.Fd} (h:HoldsF w v F) (hb:Below w.heap.size w w'):HoldsF w' v F :=
 h.imp id fun ⟨g,cp,cur,h1,h2,h3⟩=>⟨g,cp,cur,h1,(hb.block g (ge.1 h2).1).trans h2,h3⟩
theorem HoldsF.form {w:World} {v:Value} {F:List Hd.Fd} (h:HoldsF w v F):∃ ad cp,v=.slice ad F.length cp:=by
 rcases h with ⟨ad,cp,h1,h2⟩ | ⟨g,cp,cur,h1,_⟩
 ·exact ⟨ad,cp,by rw [h1,h2];rfl⟩
 ·exact ⟨_,_,h1⟩
theorem oR (t:ByteArray):t.data.toList.length=t.size:=by rw [Array.length_toList];rfl
theorem qS {p:Op.Pk} (h:Op.pok p=true) (x:List UInt8) (hx:x.length≤100):Op.pread (Op.ptold p ++ x)=⟨p,0⟩:=by
 obtain ⟨a,b,e1,e2,e3,e4⟩:=nF h;have hhi:(UInt8.ofNat ((p.data.size+4) / 256)).toNat=(p.data.size+4) / 256:=by simp;omega
 have hlo:(UInt8.ofNat (p.data.size+4)).toNat=p.data.size+4:=by simp;omega
 have hd:=oR p.data;unfold Op.ptold;rw [if_pos h,e4];show Op.pread (a :: b :: UInt8.ofNat ((p.data.size+4) / 256) :: UInt8.ofNat (p.data.size+4) :: (p.data.data.toList ++ x))=_
 rw [Op.pread_good (by rw [List.length_append,hd];omega) (by rw [hhi,hlo,List.length_append,hd];omega),hhi,hlo];have hn:256*((p.data.size+4) / 256)+(p.data.size+4) - 4=p.data.size:=by omega
 rw [hn,List.take_left' hd,← e1,← e2];rfl
abbrev Bl (b:Nat) (t:ByteArray) (q:World):Prop:=Lib.IsBuilderF 87 5 b b (Lib.byteCells t.data.toList) q
theorem rG (b:Nat) (t s:ByteArray) (q:World) (h:Bl b t q) (hs:t.size+s.size≤1000000) (hb:b≤q.heap.size) :
  Calls prog 40 #[.pointer (some ⟨b,0,none⟩),.string s] q fun e q'=>e=.returned (.tuple #[.int .i64 s.size,.nilIface])∧Bl b (t ++ s) q'∧Below b q q'∧Lib.OthersKept 5 (some b) q q':=by
 refine (Any.Builder_WriteString_k Tryz.bld166 Tryz.bldX166 b b (Lib.byteCells t.data.toList) s q h (by rw [Lib.byteCells_length,Array.length_toList];show t.size+_≤_;omega) hb).mono ?_;rintro e q' ⟨rfl,h1,h2,h3⟩;refine ⟨rfl,?_,h2,h3⟩;have e:Lib.byteCells (t ++ s).data.toList=Lib.byteCells t.data.toList ++ Lib.strCells s:=by rw [Lib.strCells_eq,← Lib.byteCells_append];congr 1
 unfold Bl;rw [e];exact Or.inr h1
theorem wC (b:Nat) (t:ByteArray) (q:World) (h:Bl b t q) (hb:b≤q.heap.size) :
  Calls prog 42 #[.pointer (some ⟨b,0,none⟩)] q fun e q'=>e=.returned (.string t)∧Below b q q':=by
 refine (Any.Builder_String_any_k Tryz.bld169 Tryz.bldX169 b b t.data.toList q h hb).mono ?_;rintro e q' ⟨rfl,_,h2,_⟩;exact ⟨rfl,h2⟩
end Go.Proofs.YtjebigodbnefiaaGreatDoor
