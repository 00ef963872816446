/- HrM WkC OptsOf HrK LwD -/
import Derived.Test.YtjdgiimfpkideaaGreatDoorS25
import Derived.Lib.SliceRun
set_option maxHeartbeats 8000000
set_option maxRecDepth 100000
namespace Go.Proofs.YtjdgiimfpkideaaGreatDoor
open Go.RowKit Go.Proofs.Tryz
abbrev kd (o:Op.Opt):Int × Nat:=(o.kind,o.data.size)
theorem oF {m a g:Nat} {o:Op.Opt} (n:Nat) (h:bN o.kind=some o.data.size):(nI m a g o.kind n).size=o.data.size:=by
 unfold bN at h;unfold nI;by_cases h1:o.kind=1
 ·rw [if_pos h1] at h ⊢;injection h
 rw [if_neg h1] at h ⊢;by_cases h2:o.kind=2
 ·rw [if_pos h2] at h ⊢;injection h
 rw [if_neg h2] at h ⊢;by_cases h5:o.kind=5
 ·rw [if_pos h5] at h ⊢;injection h
 rw [if_neg h5] at h ⊢;by_cases h7:o.kind=7
 ·rw [if_pos h7] at h ⊢;injection h
 rw [if_neg h7] at h ⊢;by_cases h8:o.kind=8
 ·rw [if_pos h8] at h ⊢;injection h
 rw [if_neg h8] at h ⊢;by_cases h9:o.kind=9
 ·rw [if_pos h9] at h;injection h
 rw [if_neg h9] at h;cases h
theorem uO (m a g:Nat) (p c d:Bool) (o:Op.Opt):kd (one m a g p c d o).2=kd o:=by
 unfold one;split
 ·next h =>
  show (o.kind,ByteArray.size (if _ then _ else _))=_
  split
  ·rw [oF _ h]
  ·rfl
 ·rfl
theorem sr (m a g:Nat) (p c d:Bool) (l:List Op.Opt) (o:Op.Opt):kd (gB m a g p c d l o).2=kd o:=by
 unfold gB;split
 ·rfl
 ·exact uO _ _ _ _ _ _ _
theorem uP (m a g:Nat) (p c d:Bool) (L:List Op.Opt) (n:Nat) (hn:n≤L.length):(dL m a g p c d L n).map (fun v=>kd v.2)=(L.take n).map kd:=by
 induction n with
 | zero=>rfl
 | succ n ih =>
  rw [fw,List.map_append,ih (by omega),List.take_succ_eq_append_getElem (by omega),List.map_append,gC _ _ _ _ _ _ _ _ (by omega)];show _ ++ [kd _]=_ ++ [kd _]
  rw [sr]
theorem nJ (m a g:Nat) (p c d:Bool) (L:List Op.Opt):(b_ m a g p c d L).map (fun v=>kd v.2)=L.map kd:=by
 have h:=uP m a g p c d L L.length (zD _);rw [List.take_length] at h;exact h
theorem pQ (F:List Op.Opt):(Op.bytes F).length=((F.map kd).map fun x=>x.2+2).sum:=by
 induction F with
 | nil=>rfl
 | cons o F ih =>
  have e1:(Op.one o).length=2+o.data.size:=by unfold Op.one;rw [List.length_append];show 2+o.data.data.toList.length=_;rfl
  rw [Op.bytes_cons,List.length_append,ih,e1];simp;omega
theorem tG (F:List Op.Opt):F.all Op.ok=(F.map kd).all fun x=>decide (1≤x.1∧x.1≤255∧x.2≤20):=by
 rw [List.all_map];rfl
theorem su {l m:List (Int × Nat)} (h:l.Sublist m):(l.map fun x=>x.2+2).sum≤(m.map fun x=>x.2+2).sum:=by
 induction h with
 | slnil=>exact zD _
 | cons a _ ih=>simp only [List.map_cons,List.sum_cons];omega
 | cons_cons a _ ih=>simp only [List.map_cons,List.sum_cons];omega
theorem lC {F G:List Op.Opt} (h:(F.map kd).Sublist (G.map kd)) (hG:cC G=true):cC F=true:=by
 unfold cC Op.right at hG ⊢;simp only [Bool.and_eq_true,decide_eq_true_eq] at hG ⊢;obtain ⟨⟨h1,h2⟩,h3⟩:=hG;rw [pQ] at h3;rw [tG] at h2;have hl:=h.length_le;rw [List.length_map,List.length_map] at hl;refine ⟨⟨by omega,?_⟩,?_⟩
 ·rw [tG];exact List.all_eq_true.2 fun x hx=>List.all_eq_true.1 h2 x (h.subset hx)
 ·rw [pQ];exact zE (su h) h3
theorem pR (x:Int) (V:List (Int × Op.Opt)):((fl x V).map kd).Sublist (V.map fun v=>kd v.2):=by
 unfold fl;rw [List.map_map];exact List.filter_sublist.map _
theorem sx (m a g:Nat) (p c d:Bool) {L:List Op.Opt} (h:cC L=true) (x:Int):cC (fl x (b_ m a g p c d L))=true:=by
 refine lC ?_ h;have:=pR x (b_ m a g p c d L)
 rw [nJ] at this;exact this
def gX (F A:List Op.Opt):List Op.Opt:=F.filter fun o=>A.any fun x=>x.kind == o.kind
theorem sy {F:List Op.Opt} (h:cC F=true) (A:List Op.Opt):cC (gX F A)=true:=lC (List.filter_sublist.map _) h
theorem oG (l:List (Int × Op.Opt)) (m:Int):m≤l.foldl (fun m v=>max m v.1) m∧∀ v ∈ l,v.1≤l.foldl (fun m v=>max m v.1) m:=by
 induction l generalizing m with
 | nil=>exact ⟨Int.le_refl _,fun v hv=>by simp at hv⟩
 | cons a l ih =>
  obtain ⟨h1,h2⟩:=ih (max m a.1);refine ⟨by simp only [List.foldl_cons];omega,fun v hv=>?_⟩;rcases List.mem_cons.1 hv with rfl | hv
  ·simp only [List.foldl_cons];omega
  ·exact h2 v hv
theorem ww {l:List (Int × Op.Opt)} {v:Int × Op.Opt} (h:v ∈ l):v.1≤mx l:=(oG l 2).2 v h
theorem sB (m a g:Nat) (p c d:Bool) (L:List Op.Opt) (h:mx (b_ m a g p c d L)=3):L.Pairwise fun x y=>x.kind≠y.kind:=by
 refine List.pairwise_iff_getElem.2 fun i j hi hj hij e=>?_
 have hm:eO m a g p c d L j ∈ b_ m a g p c d L:=List.mem_map.2 ⟨j,List.mem_range.2 hj,rfl⟩;have h4:=ww hm;rw [h,gC _ _ _ _ _ _ _ _ hj] at h4;have hw:cQ L[j].kind (L.take j)=true:=by
  refine List.any_eq_true.2 ⟨L[i],?_,by simpa using e⟩;exact List.mem_take_iff_getElem.2 ⟨i,by omega,rfl⟩
 unfold gB at h4;rw [if_pos hw] at h4;exact absurd (show (4:Int)≤3 from h4) (by decide)
def lE (F A:List Op.Opt):List Op.Opt:=F.flatMap fun o=>(A.filter fun x=>x.kind == o.kind).map fun _=>o
theorem uQ {A:List Op.Opt} (h:A.Pairwise fun x y=>x.kind≠y.kind) (o:Op.Opt):((A.filter fun x=>x.kind == o.kind).map fun _=>o)=if (A.any fun x=>x.kind == o.kind)=true then [o] else []:=by
 induction A with
 | nil=>rfl
 | cons x A ih =>
  have h2:=List.pairwise_cons.1 h;by_cases e:x.kind=o.kind
  ·have hn:(A.filter fun x=>x.kind == o.kind)=[]:=List.filter_eq_nil_iff.2 fun y hy hk=>h2.1 y hy (e.trans (by simpa using hk:y.kind=o.kind).symm)
   have he:(x.kind == o.kind)=true:=by simpa using e
   rw [List.filter_cons,hn,List.any_cons];rw [he];rfl
  ·have he:(x.kind == o.kind)=false:=by simpa using e
   rw [List.filter_cons,List.any_cons];rw [he,Bool.false_or];exact ih h2.2
theorem sC {F A:List Op.Opt} (h:A.Pairwise fun x y=>x.kind≠y.kind):lE F A=gX F A:=by
 unfold lE gX;induction F with
 | nil=>rfl
 | cons o F ih =>
  rw [List.flatMap_cons,ih,uQ h,List.filter_cons];split
  ·rfl
  ·rfl
theorem uR (m a g:Nat) (p c d:Bool) (L:List Op.Opt) (h:mx (b_ m a g p c d L)=3) (x:Int):(fl x (b_ m a g p c d L)).Pairwise fun x y=>x.kind≠y.kind:=by
 have h1:=pR x (b_ m a g p c d L);rw [nJ] at h1;have h2:(L.map kd).Pairwise fun x y=>x.1≠y.1:=List.pairwise_map.2 (sB m a g p c d L h)
 have h3:((fl x (b_ m a g p c d L)).map kd).Pairwise fun x y=>x.1≠y.1:=List.Pairwise.sublist h1 h2
 rw [List.pairwise_map] at h3;exact h3
abbrev xf:Array Value:=#[.int .i64 0,.int .i64 0,.int .i64 0,.bool false,.bool false,.bool false,.int .i64 0,.int .i64 0,.int .i64 0,.bool false,.bool false,.bool false,.int .i64 0,.int .i64 0,.int .i64 0,.int .i64 0,.int .i64 0,.slice none 0 0,.slice none 0 0,.bool false,.int .i64 0,.int .i64 0,.bool false,.bool false,.bool false,.int .i64 0,.int .i64 0,.bool false,.bool false,.bool false]
theorem nN (e:En) (a1 a2:Option Addr) (n1 n2 m1 m2:Nat):(aA e (.slice a1 n1 m1) (.slice a2 n2 m2)).all (·.oneCell')=true:=by kernel_rfl
theorem bH (w:World) (g k:Nat) (cs:Array Value) (h:k≠g):(w.setRow g cs).heap[k]?=w.heap[k]?:=by
  unfold World.setRow;simp [Array.getElem?_modify,Ne.symm h]
theorem qi (z:World):(z.alloc (.cells #[] 105)).ownsRow z.heap.size 105 2 (.slice (some ⟨z.heap.size,0,none⟩) ([]:List Op.Opt).length 0) ([]:List Op.Opt).length (aj []) :=
  World.ownsRow_made z #[] 0 (zD _) (Nat.zero_le _) rfl
theorem xg (e:En) (x1 x2:Option Addr) (y1 y2:Nat) (F1 F2:List Op.Opt) (w:World) (l1:F1.length≤1048576) (l2:F2.length≤1048576) (h1:HoldsO w (.slice x1 F1.length y1) F1) (h2:HoldsO w (.slice x2 F2.length y2) F2) :
    Calls prog 68 #[.agg (aA e (.slice x1 F1.length y1) (.slice x2 F2.length y2))] w fun r w'=>∃ v1 v2,r=.returned (.agg (aA e v1 v2))∧w'.ownsRow w.heap.size 105 2 v1 F1.length (aj F1)∧w'.ownsRow w.heap.size 105 2 v2 F2.length (aj F2)∧Ap v1 v2∧Below w.heap.size w w':=by
  have HH:=aa (zA h1 h2);clear h1 h2;obtain ⟨n1,e1⟩:∃ n,F1.length=n:=⟨_,rfl⟩;obtain ⟨n2,e2⟩:∃ n,F2.length=n:=⟨_,rfl⟩;rw [e1] at HH l1 ⊢;rw [e2] at HH l2 ⊢;have hst:=br w (.cells (aA e (.slice x1 n1 y1) (.slice x2 n2 y2)) 32) (.cells xf 32);have HST:=aa hst;clear hst;obtain ⟨A,hA⟩:∃ A,w.heap.size=A:=⟨_,rfl⟩;go_enter func68,ntmps68
  go_upto_region 1 with fail
  refine ab (fun z=>z.heap[A]?=some (.cells (aA e (.slice x1 n1 y1) (.slice x2 n2 y2)) 32)∧z.heap[A+1]?=some (.cells xf 32)∧Below A w z) ?_ ?_
  · obtain ⟨_,b,c,d⟩:=uh HST
    rw [hA] at b c d;exact ⟨b,c,d⟩
  clear HST;rintro z ⟨za,zb,zl⟩;have hzA:A+1<z.heap.size:=(ge.1 zb).1;have bz:Below z.heap.size z (z.alloc (.cells #[] 105)):=(zC _ _).alloc (zD _) _;have za1:=(bz.block A (by omega)).trans za;have c17:(z.alloc (.cells #[] 105)).cell? ⟨A,17,none⟩=some (.slice x1 n1 y1):=by rw [cr za1];rfl
  have hzs:A+1+1≤z.heap.size:=hzA;have HO:=aa (qi z);have HZ:=aa (zA za (zA zb zl));have HM:Hid (HoldsO (z.alloc (.cells #[] 105)) (.slice x1 n1 y1) F1):=aa (((uh HH).1.below zl hA.symm).below bz rfl);clear za zb za1 bz
  go_upto_region 2 with (first
    | (at_builtin;refine fM rfl _ _ rfl z.heap.size (.slice (some ⟨z.heap.size,0,none⟩) 0 0) (.slice x1 n1 y1) [] F1 rfl rfl (uh HO) (uh HM) (Nat.zero_le _) (by omega) (by simp) ?_;rintro v6 w6 ho6 hg6
       have a6:=(hg6.block A (by simp;omega) (fun e=>by have e':_=z.heap.size:=Option.some.inj e;omega)).trans ((zG _ _ _ (by omega)).trans (uh HZ).1);have b6:=(hg6.block (A+1) (by simp;omega) (fun e=>by have e':_=z.heap.size:=Option.some.inj e;omega)).trans ((zG _ _ _ (by omega)).trans (uh HZ).2.1);have k6:w6.cell? ⟨A,17,none⟩=some (.slice x1 n1 y1):=by rw [cr a6];rfl
       have f6:w6.frozen? ⟨A,17,none⟩=false:=aX a6 17;have H6:=aa (zA a6 (zA b6 (zA ho6 hg6)));obtain ⟨a0,c0,hv6⟩:=af ho6;rw [List.nil_append,e1] at hv6;subst hv6;clear a6 b6 ho6 hg6))
  refine ab (fun q=>q.heap[A]?=some (.cells (aA e (.slice a0 n1 c0) (.slice x2 n2 y2)) 32)∧q.heap[A+1]?=some (.cells xf 32)∧q.ownsRow z.heap.size 105 2 (.slice a0 n1 c0) n1 (aj F1)∧Below A w q) ?_ ?_
  · obtain ⟨a6,b6,ho6,hg6⟩:=uh H6
    rw [List.nil_append,e1] at ho6;have hno:(Value.slice a0 n1 c0).ownBlock≠some A:=fun e=>by have:=(ho6.lt A e).1;omega
    have hk:∀ k,k≠A→(w6.setCell ⟨A,17,none⟩ (.slice a0 n1 c0)).heap[k]?=w6.heap[k]?:=fun k hk=>heap_setCell_other w6 _ _ _ hk
    refine ⟨zH w6 A 17 _ _ (.slice a0 n1 c0) a6,(hk (A+1) (by omega)).trans b6,ak ho6 fun g hg=>hk g fun e=>hno (e ▸ hg),?_⟩;refine Below.setCell (p:=⟨A,17,none⟩) ?_ (zD _) _;have hl:=(uh HZ).2.2;exact ⟨hg6.os.trans hl.os,hg6.tape.trans hl.tape,hg6.output.trans hl.output,zE (zE hl.size (by simp)) hg6.size,fun b (hb:b<A)=>(hg6.block b (by simp;omega) (fun e=>by have e':_=z.heap.size:=Option.some.inj e;omega)).trans ((zG _ _ _ (by omega)).trans (hl.block b hb))⟩
  clear H6 HZ HO HM c17 k6 f6 hzA zl;rintro q ⟨qa,qb,qo,ql⟩;have hqA:A+1<q.heap.size:=(ge.1 qb).1;have bq:Below q.heap.size q (q.alloc (.cells #[] 105)):=(zC _ _).alloc (zD _) _;have qa1:=(bq.block A (by omega)).trans qa;have c18:(q.alloc (.cells #[] 105)).cell? ⟨A,18,none⟩=some (.slice x2 n2 y2):=by rw [cr qa1];rfl
  have HO:=aa (qi q);have HZ:=aa (zA qa (zA qb (zA qo ql)));have HM:Hid (HoldsO (q.alloc (.cells #[] 105)) (.slice x2 n2 y2) F2):=aa (((uh HH).2.below ql hA.symm).below bq rfl);clear qa qb qa1 bq qo
  go_upto_region 3 with (first
    | (at_builtin;refine fM rfl _ _ rfl q.heap.size (.slice (some ⟨q.heap.size,0,none⟩) 0 0) (.slice x2 n2 y2) [] F2 rfl rfl (uh HO) (uh HM) (Nat.zero_le _) (by omega) (by simp) ?_;rintro v6 w6 ho6 hg6
       have a6:=(hg6.block A (by simp;omega) (fun e=>by have e':_=q.heap.size:=Option.some.inj e;omega)).trans ((zG _ _ _ (by omega)).trans (uh HZ).1);have b6:=(hg6.block (A+1) (by simp;omega) (fun e=>by have e':_=q.heap.size:=Option.some.inj e;omega)).trans ((zG _ _ _ (by omega)).trans (uh HZ).2.1);have k6:w6.cell? ⟨A,18,none⟩=some (.slice x2 n2 y2):=by rw [cr a6];rfl
       have f6:w6.frozen? ⟨A,18,none⟩=false:=aX a6 18;have H6:=aa (zA a6 (zA b6 (zA ho6 hg6)));obtain ⟨a2,c2,hv6⟩:=af ho6;rw [List.nil_append,e2] at hv6;subst hv6;clear a6 b6 ho6 hg6))
  refine ab (fun u=>u.heap[A]?=some (.cells (aA e (.slice a0 n1 c0) (.slice a2 n2 c2)) 32)∧u.heap[A+1]?=some (.cells xf 32)∧u.ownsRow (A+1+1) 105 2 (.slice a0 n1 c0) n1 (aj F1)∧u.ownsRow (A+1+1) 105 2 (.slice a2 n2 c2) n2 (aj F2)∧Ap (.slice a0 n1 c0) (.slice a2 n2 c2)∧Below A w u) ?_ ?_
  · obtain ⟨a6,b6,ho6,hg6⟩:=uh H6
    obtain ⟨_,_,qo,hl⟩:=uh HZ;rw [List.nil_append,e2] at ho6;have hno:(Value.slice a2 n2 c2).ownBlock≠some A:=fun e=>by have:=(ho6.lt A e).1;omega
    have hn1:∀ g,(Value.slice a0 n1 c0).ownBlock=some g→A+1+1≤g∧g<q.heap.size:=fun g hg=>⟨by have:=(qo.lt g hg).1;omega,(qo.lt g hg).2⟩
    have hk:∀ k,k≠A→(w6.setCell ⟨A,18,none⟩ (.slice a2 n2 c2)).heap[k]?=w6.heap[k]?:=fun k hk=>heap_setCell_other w6 _ _ _ hk
    have o1:w6.ownsRow z.heap.size 105 2 (.slice a0 n1 c0) n1 (aj F1):=ak qo fun g hg=>(hg6.block g (by have:=(hn1 g hg).2;simp;omega) (fun e=>by have e':_=q.heap.size:=Option.some.inj e;have:=(hn1 _ hg).2;omega)).trans (zG _ _ _ (hn1 g hg).2)
    refine ⟨zH w6 A 18 _ _ (.slice a2 n2 c2) a6,(hk (A+1) (by omega)).trans b6,aE (ak o1 fun g hg=>hk g fun e=>by have:=(hn1 g hg).1;omega) hzs,aE (ak ho6 fun g hg=>hk g fun e=>hno (e ▸ hg)) (by omega),fun g hg e=>by have h1:=(hn1 g hg).2;have h2:=(ho6.lt g e).1;omega,?_⟩;refine Below.setCell (p:=⟨A,18,none⟩) ?_ (zD _) _;exact ⟨hg6.os.trans hl.os,hg6.tape.trans hl.tape,hg6.output.trans hl.output,zE (zE hl.size (by simp)) hg6.size,fun b (hb:b<A)=>(hg6.block b (by simp;omega) (fun e=>by have e':_=q.heap.size:=Option.some.inj e;omega)).trans ((zG _ _ _ (by omega)).trans (hl.block b hb))⟩
  clear H6 HZ HO HM c18 k6 f6 hqA ql;rintro u ⟨ua,ub,uo1,uo2,uap,ul⟩;have hall:=nN e a0 a2 n1 n2 c0 c2;have HU:=aa (zA ua (zA ub (zA uo1 (zA uo2 (zA uap ul)))));clear ua ub uo1 uo2 uap ul;apply wp_region_lit
  refine wpList_load_row rfl 32 (.tmp 1) rfl A rfl 32 (aA e (.slice a0 n1 c0) (.slice a2 n2 c2)) (0,0) _ (uh HU).1 underlying32 rfl aL ?_;refine wpList_store_rowTo rfl 32 (.tmp 2) (.tmp 13) rfl rfl (A+1) (aA e (.slice a0 n1 c0) (.slice a2 n2 c2)) rfl rfl 32 xf (uh HU).2.1 aL rfl hall ?_;apply wpList_nil
  simp only [Act.put,List.setIfInBounds_toArray,List.set_cons_zero,List.set_cons_succ];go_wp2
  refine bodyPost_ret (v:=.agg (aA e (.slice a0 n1 c0) (.slice a2 n2 c2))) (by simp [results,results68,asAddr,ja (setRow_heap u (A+1) _ (aA e (.slice a0 n1 c0) (.slice a2 n2 c2)) _ _ (uh HU).2.1)]) rfl ?_;obtain ⟨ua,ub,uo1,uo2,uap,ul⟩:=uh HU;rw [hA];exact ⟨_,_,rfl,aE (ak uo1 fun g hg=>bH u (A+1) g _ fun e=>by have:=(uo1.lt g hg).1;omega) (by omega),aE (ak uo2 fun g hg=>bH u (A+1) g _ fun e=>by have:=(uo2.lt g hg).1;omega) (by omega),uap,am ul (by omega) _⟩
def xr:Value→Nat
  | .slice _ n _=>n
  | _=>0
theorem yT {n:UInt8} {r:List UInt8} (h:n.toNat<2∨22<n.toNat∨r.length+2<n.toNat):oL 2 20 n.toNat r=true:=decide_eq_true (by omega)
theorem xu {n:UInt8} {r:List UInt8} (h:¬ (n.toNat<2∨22<n.toNat∨r.length+2<n.toNat)):oL 2 20 n.toNat r=false:=decide_eq_false (by omega)
theorem qv (out:List Op.Opt) {k n:UInt8} {r:List UInt8} (h:n.toNat<2∨22<n.toNat∨r.length+2<n.toNat):Op.acc out (k :: n :: r)=none:=by
  rcases h with h | h | h
  · exact Op.acc_bad out (Or.inl h)
  · exact Op.acc_long out h
  · exact Op.acc_bad out (Or.inr h)
theorem kA (w:World):Calls prog 162 #[] w fun e w'=>e=.returned (.agg #[.slice (some ⟨w.heap.size+1,0,none⟩) 3 3,.int .i64 2,.int .i64 20,.int .i64 3]) ∧
    w'.heap[w.heap.size+1]?=some (.cells #[.int .i64 0,.int .i64 1,.int .i64 3] 248)∧Below w.heap.size w w':=by
  go_enter func162,ntmps162
  go_wp2
  refine bodyPost_ret (v:=.agg #[.slice (some ⟨w.heap.size+1,0,none⟩) 3 3,.int .i64 2,.int .i64 20,.int .i64 3]) (by simp [results,results162,go_sem]) rfl ⟨rfl,?_,((zC _ _).alloc (zD _) _).alloc (by simp) _⟩;have h:=zF (w.alloc (.cells #[.slice (some ⟨w.heap.size+1,0,none⟩) 3 3,.int .i64 2,.int .i64 20,.int .i64 3] 217)) (.cells #[.int .i64 0,.int .i64 1,.int .i64 3] 248);rw [show (w.alloc (.cells #[.slice (some ⟨w.heap.size+1,0,none⟩) 3 3,.int .i64 2,.int .i64 20,.int .i64 3] 217)).heap.size=w.heap.size+1 by simp] at h;exact h
theorem qw {w:World} {base:Nat} {sa:Option Addr} {n sc:Nat} {xs:List Value} (h:w.ownsRow base 2 1 (.slice sa n sc) n xs) (hn:0<n):∃ g,sa=some ⟨g,0,none⟩∧base≤g∧g<w.heap.size∧∀ i x,xs[i]?=some x→w.cell? ⟨g,i,none⟩=some x:=by
  rcases h.2 with ⟨_,h0⟩ | ⟨g,cap,cur,h1,h2,h3,h4,h5,h6,h7⟩
  · omega
  · simp only [Value.slice.injEq,true_and] at h1
    obtain ⟨rfl,rfl⟩:=h1;refine ⟨g,rfl,h2,(ge.1 h3).1,fun i x hx=>?_⟩;rw [cr h3,← hx,← h7,List.getElem?_take,if_pos,Array.getElem?_toList];have:=(List.getElem?_eq_some_iff.1 hx).1
    have hl:=h.1;omega
def sO (w w':World) (res:Option (List Op.Opt)) (e:Ending):Prop :=
  (res=none∧e=.returned (.tuple #[.slice none 0 0,cS 3])∧Below w.heap.size w w') ∨
    (∃ L ad cp,res=some L∧e=.returned (.tuple #[.slice ad L.length cp,.nilIface])∧w'.ownsRow w.heap.size 105 2 (.slice ad L.length cp) L.length (aj L)∧Below w.heap.size w w')
theorem oN (w:World) (B:Nat) (v:Value) (l:List UInt8) (hl8:l.length≤8000) (hB:B<w.heap.size) (hv:Rest w B v l) :
    Calls prog 147 #[v] w fun e w'=>sO w w' (Op.acc [] l) e:=by
  obtain ⟨i0,hi0,hz0,hz1,hz2⟩:=kW;obtain ⟨RES,hRES⟩:∃ R,Op.acc [] l=R:=⟨_,rfl⟩;rw [hRES];have HV:=aa hv;obtain ⟨off0,cap0,hvf,_⟩:=hv;subst hvf;go_enter func147,ntmps147
  go_wp2_with fail
  go_loopw [0,4] (fun x y wr=>∃ (l':List UInt8) (out:List Op.Opt),(∃ o c,x=.slice (some ⟨B,o,none⟩) l'.length c)∧Rest wr B x l'∧l'.length≤8000∧(∃ a c,y=.slice a out.length c)∧wr.ownsRow w.heap.size 105 2 y out.length (aj out)∧Op.right out=true∧Op.acc out l'=RES∧Below w.heap.size w wr) (fun x _ _=>xr x)
  case atStart=>exact ⟨l,[],⟨_,_,rfl⟩,uh HV,hl8,⟨_,_,rfl⟩,⟨rfl,Or.inl ⟨rfl,rfl⟩⟩,rfl,hRES,zC _ _⟩
  case round =>
    obtain ⟨l',out,⟨off,cap,rfl⟩,hv,hl8',⟨ya,yc,rfl⟩,hown,hrt,hacc,hb⟩:=hrel;have hbs:=hb.size;have hout:=Op.right_len hrt;have HOW:=aa hown;have HVV:=aa hv;clear HV hown hv;rcases l' with _ | ⟨k,l'⟩
    · rw [Op.acc_nil,if_pos hrt] at hacc
      go_wp2
      go_ret2
      exact Or.inr ⟨out,_,_,hacc.symm,rfl,uh HOW,hb⟩
    · have d1:(0:Int)<(l'.length:Int)+1:=by omega
      have HRT:=aa hrt;have HAC:=aa hacc;clear hrt hacc;go_wp2_with fail
      refine (kA wr).mono ?_;rintro e w1 ⟨rfl,hP,hb1⟩;have hv1:=(uh HVV).same (hb1.block B (by omega));have hb01:Below w.heap.size w w1:=hb.trans (hb1.mono hbs);have hs1:=hb1.size;rcases l' with _ | ⟨n,r⟩
      · have hres:RES=none:=by rw [← uh HAC,Op.acc_one]
        go_wp2_with fail
        refine (qt w1 _ B _ k hP (by omega) hv1).mono ?_;rintro e w2 ⟨rfl,hb2⟩;have hb02:=hb01.trans (hb2.mono hb01.size);unfold dc cS;clear HAC HOW HVV hv1 hP HRT;go_wp2
        go_ret2
        exact Or.inl ⟨hres,rfl,hb02.alloc hb02.size _⟩
      · by_cases hbd:n.toNat<2∨22<n.toNat∨r.length+2<n.toNat
        · have hres:RES=none:=by rw [← uh HAC,qv out hbd]
          go_wp2_with fail
          refine (qu w1 _ B _ k n r hP (by omega) hv1 (yT hbd)).mono ?_;rintro e w2 ⟨rfl,hb2⟩;have hb02:=hb01.trans (hb2.mono hb01.size);unfold dc cS;clear HAC HOW HVV hv1 hP HRT hbd;go_wp2
          go_ret2
          exact Or.inl ⟨hres,rfl,hb02.alloc hb02.size _⟩
        · have hac:=uh HAC
          rw [Op.acc_step out (by omega)] at hac;have hlen2:(r.drop (n.toNat - 2)).length≤r.length:=by rw [List.length_drop];omega
          have HAC2:=aa hac;have hr8:r.length+2≤8000:=by simpa using hl8'
          clear HAC hac;go_wp2_with fail
          refine (qs w1 _ B _ k n r hP (by omega) hv1 (xu hbd)).mono ?_;rintro e w2 ⟨off2,cap2,sa,sc,x,rfl,hR2,ho2,hb2⟩;generalize co (r.take (n.toNat - 2))=T at *;generalize r.drop (n.toNat - 2)=L2 at *;have hs2:=hb2.size;obtain ⟨g,rfl,hg1,hg2,hgc⟩:=qw ho2 (by decide);have g0:=hgc 0 _ rfl;have hb02:Below wr.heap.size wr w2:=hb1.trans (hb2.mono hs1);have hownB:∀ q,(Value.slice ya out.length yc).ownBlock=some q→w.heap.size≤q∧q<wr.heap.size:=fun q hq=>World.ownsRow.lt (uh HOW) q hq
          have HO2:Hid (w2.ownsRow w.heap.size 105 2 (.slice ya out.length yc) out.length (aj out)):=aa (aY (uh HOW) fun q _ hq=>hb02.block q hq);have HG:=aa g0;have HR2:=aa hR2;have hbw2:Below w.heap.size w w2:=hb.trans (hb02.mono hbs);clear HOW HVV hv1 hP hgc ho2 hbd g0 hR2 hb1 hb2;have n1:(Value.slice ya out.length yc).ownBlock≠some w2.heap.size:=fun e=>by have:=hownB _ e;omega
          have n2:(Value.slice ya out.length yc).ownBlock≠some g:=fun e=>by have:=hownB _ e;omega
          have n3:(Value.slice ya out.length yc).ownBlock≠some B:=fun e=>by have:=hownB _ e;omega
          go_wp2_with fail
          refine ab (fun q=>q.heap[w2.heap.size]?=some (.cells #[.slice (some ⟨wr.heap.size+1,0,none⟩) 3 3,.int .i64 2,.int .i64 20,.int .i64 3,.slice (some ⟨B,off2,none⟩) L2.length cap2,.slice (some ⟨g,0,none⟩) 1 sc,.int .i64 x,.string T] 219)∧q.cell? ⟨g,0,none⟩=some (.int .i64 k.toNat)∧q.ownsRow w.heap.size 105 2 (.slice ya out.length yc) out.length (aj out)∧Rest q B (.slice (some ⟨B,off2,none⟩) L2.length cap2) L2∧Below w.heap.size w q∧q.heap.size=w2.heap.size+1)
            ⟨zF w2 _,(((zC w2.heap.size w2).alloc (zD _) _).cell (p:=⟨g,0,none⟩) hg2).trans (uh HG),(uh HO2).alloc _,(uh HR2).same (zG _ _ _ (by omega)),hbw2.alloc hbw2.size _,by simp⟩ ?_
          rintro q ⟨hr,g0,hoq,hrq,hbq,hqs⟩;obtain ⟨_,_,_,_,r4,r5,_,r7,_⟩:=j_ hr;have HR:=aa hr;have HOQ:=aa hoq;have HRQ:=aa hrq;have lg:g<q.heap.size:=by omega
          have lr:w2.heap.size<q.heap.size:=by omega
          have lB:B<q.heap.size:=by omega
          have lw:w.heap.size≤q.heap.size:=by omega
          clear hr hoq hrq HG HO2 HR2 hbw2 hb02 hownB hb01 hqs
          go_region_held3 (fun z=>z.cell? ⟨w2.heap.size,5,none⟩=some (.slice (some ⟨g,0,none⟩) 1 sc)∧z.cell? ⟨g,0,none⟩=some (.int .i64 k.toNat)∧z.cell? ⟨w2.heap.size,7,none⟩=some (.string T))
            (first
              | go_keep
              | (go_split_ands
                 refine ⟨?_,?_,?_⟩
                 · (rw [hgrow.cell_far _ (by simp;omega) (Ne.symm n1)];assumption)
                 · (rw [hgrow.cell_far _ (by simp;omega) (Ne.symm n2)];assumption)
                 · (rw [hgrow.cell_far _ (by simp;omega) (Ne.symm n1)];assumption)))
            ((refine step_append_lies _ (by rfl) _ _ _ (by rfl) w.heap.size 105 i0 _ 2 24 underlying28 hi0 hz0 hz1 hz2 rfl (by omega) (.slice ya out.length yc) out.length (aj out) (by rfl) (((uh HOQ).alloc _).drew)
                ⟨q.heap.size,0,none⟩ 1 1 [.int .i64 k.toNat,.string T] (by rfl) (by rfl) (World.news_of_block (cs:=#[.int .i64 k.toNat,.string T]) (t:=105) (fr:=(0,0)) (zF q _)) (by simp [Value.oneCell'])
                (by omega) (by unfold maxLen;omega) (by omega) (by simp;omega) (q.heap.size+1) (by simp) ?_;intro gg cap3 w3 hown3 hgrow hat hlt))
          have hr3:=(hgrow.block w2.heap.size (by simp;omega) (Ne.symm n1)).trans ((zG q _ _ lr).trans (uh HR));have hB3:w3.heap[B]?=q.heap[B]?:=(hgrow.block B (by simp;omega) (Ne.symm n3)).trans (zG q _ _ lB);have hv3:=(uh HRQ).same hB3;have hbw3:Below w.heap.size w w3:=((hbq.alloc lw _).drew).grown hgrow (by simp;omega) (fun p hp=>(World.ownsRow.lt (uh HOQ) p hp).1);have hoc:aj out ++ [.int .i64 k.toNat,.string T]=aj (out ++ [⟨(k.toNat:Int),T⟩]):=by rw [bV];rfl
          rw [hoc] at hown3;have hol:out.length+1=(out ++ [(⟨(k.toNat:Int),T⟩:Op.Opt)]).length:=by simp
          have hown3':w3.ownsRow w.heap.size 105 2 (.slice (some ⟨gg,0,none⟩) (out ++ [(⟨(k.toNat:Int),T⟩:Op.Opt)]).length cap3) (out ++ [(⟨(k.toNat:Int),T⟩:Op.Opt)]).length (aj (out ++ [⟨(k.toNat:Int),T⟩])):=by rw [← hol];exact hown3
          have C:=aa (cq _ _ w3 (by rw [← hol];unfold maxLen;omega) (HoldsO.own hown3'));have hl20:out.length+1≤21:=by omega
          generalize hNO:out ++ [(⟨(k.toNat:Int),T⟩:Op.Opt)]=NO at *;rw [← hol] at C;have HO3:=aa hown3';have HV3:=aa hv3;have HR3:=aa hr3;have HOL:=aa hol;have hl3:w2.heap.size<w3.heap.size:=(ge.1 hr3).1;have hB3l:B<w3.heap.size:=by omega
          clear hown3 hown3' hgrow hat hr3 hB3 hv3 hoc HRQ HOQ HR r4 r5 r7 g0 n1 n2 n3 HRT hol;cases hrt2:Op.right NO
          · have hres:RES=none:=by rw [← uh HAC2,Op.acc_wrong L2 hrt2]
            rw [hrt2] at C;clear hrt2 HAC2;go_wp2_with (first | (go_at_call 130;refine (uh C).mono ?_;rintro e w4 ⟨rfl,hb4⟩))
            go_ret2
            exact Or.inl ⟨hres,rfl,hbw3.trans (hb4.mono hbw3.size)⟩
          · rw [hrt2] at C
            have HRT:=aa hrt2;clear hrt2;go_wp2_with (first | (go_at_call 130;refine (uh C).mono ?_;rintro e w4 ⟨rfl,hb4⟩;obtain ⟨_,_,_,_,r4,_,_,_,_⟩:=j_ ((hb4.block w2.heap.size hl3).trans (uh HR3))))
            go_roundw
            case rel =>
              refine ⟨L2,NO,⟨_,_,rfl⟩,(uh HV3).same (hb4.block B hB3l),by omega,⟨some ⟨gg,0,none⟩,cap3,by rw [uh HOL]⟩,?_,uh HRT,uh HAC2,hbw3.trans (hb4.mono hbw3.size)⟩;rw [uh HOL];exact aY (uh HO3) fun p _ hp=>hb4.block p hp
            case measure =>
              simp [xr];omega
end Go.Proofs.YtjdgiimfpkideaaGreatDoor
namespace Go.Proofs.YtjdgiimfpkideaaGreatDoor
open Go.RowKit Go.Proofs.Tryz
abbrev vA (o:Op.Opt):Value:=.agg #[.int .i64 o.kind,.string o.data]
def IdxA (p:Op.Opt→Bool) (L:List Op.Opt) (r:Int):Prop:=(r=-1∧∀ j (h:j<L.length),p L[j]=false)∨∃ k,∃ h:k<L.length,r=(k:Int)∧p L[k]=true∧∀ j (h:j<L.length),j<k→p L[j]=false
theorem IdxA.any {p:Op.Opt→Bool} {L:List Op.Opt} {r:Int} (h:IdxA p L r):decide (0≤r)=L.any p:=by
 rcases h with ⟨rfl,h⟩ | ⟨k,hk,rfl,h,_⟩
 ·have:L.any p=false:=List.any_eq_false.2 fun x hx=>by
   obtain ⟨j,hj,rfl⟩:=List.getElem_of_mem hx;rw [h j hj];decide
  rw [this];rfl
 ·rw [List.any_eq_true.2 ⟨_,List.getElem_mem hk,h⟩];exact decide_eq_true (by omega)
theorem yU (lb:Array Value) (p:Op.Opt→Bool) (v:Value) (L:List Op.Opt) (w:World) (hl:L.length≤1000) (hL:HoldsO w v L)
  (hp:∀ (W:World) (x:Op.Opt),Below w.heap.size w W→Calls prog 169 (#[vA x] ++ lb) W fun e w'=>e=.returned (.bool (p x))∧Below W.heap.size W w') :
  Calls prog 210 #[v,.func (.func 169) #[] lb] w fun e w'=>∃ r:Int,e=.returned (.int .i64 r)∧IdxA p L r∧Below w.heap.size w w':=by
 have HL:=aa hL;obtain ⟨va,vc,rfl⟩:=hL.form;obtain ⟨n,hn⟩:∃ n,L.length=n:=⟨_,rfl⟩;rw [hn] at HL hl ⊢;clear hL;have HP:=aa hp;clear hp;go_enter func210,ntmps210
 go_wp2
 go_loopw [5,8] (fun _ y wr=>∃ k:Nat,k≤n∧y=.int .i64 k∧Hid (Below w.heap.size w wr∧∀ j (h:j<L.length),j<k→p L[j]=false)) (fun _ y _=>n - (intOf y).toNat)
 case atStart=>exact ⟨0,Nat.zero_le _,rfl,aa ⟨zC _ _,fun j _ h=>absurd h (Nat.not_lt_zero _)⟩⟩
 case round =>
  obtain ⟨k,hk,rfl,HB⟩:=hrel;by_cases hlt:k<n
  ·have d1:(k:Int)<(n:Int):=by omega
   have d0:(0:Int)≤(k:Int):=by omega
   obtain ⟨G,⟨cp',hv⟩,hgl,k0,k1⟩:=HoldsO.at ((uh HL).below (uh HB).1 rfl) k (by omega);injection hv with hv hv2 hv3;subst hv hv3;clear hv2;have hcall:=uh HP wr (L[k]'(by omega)) (uh HB).1;have HK:Hid (∀ b,p (L[k]'(by omega))=b→p (L[k]'(by omega))=b):=aa fun _ h=>h
   obtain ⟨o,ho⟩:∃ o,L[k]'(by omega)=o:=⟨_,rfl⟩;rw [ho] at k0 k1 hcall;have HO:=aa ho;clear ho HK;obtain ⟨kd,dt⟩:=o;dsimp only at k0 k1;cases hq:p ⟨kd,dt⟩ with
   | true =>
    rw [hq] at hcall;have HQ:=aa hq;clear hq;go_wp2_with fail
    refine hcall.mono ?_;rintro e w' ⟨rfl,hb'⟩;clear hcall;go_wp2
    go_ret
    refine ⟨(k:Int),rfl,Or.inr ⟨k,by omega,rfl,by rw [uh HO];exact uh HQ,(uh HB).2⟩,(uh HB).1.trans (hb'.mono (uh HB).1.size)⟩
   | false =>
    rw [hq] at hcall;have HQ:=aa hq;clear hq;go_wp2_with fail
    refine hcall.mono ?_;rintro e w' ⟨rfl,hb'⟩;clear hcall;go_wp2_with fail
    go_roundw
    case rel =>
     refine ⟨k+1,by omega,by go_num,aa ⟨(uh HB).1.trans (hb'.mono (uh HB).1.size),fun j hj hjk=>?_⟩⟩;by_cases e:j=k
     ·subst e;rw [uh HO];exact uh HQ
     ·exact (uh HB).2 j hj (by omega)
    case measure=>simp [intOf];omega
  ·have d1:¬ (k:Int)<(n:Int):=by omega
   go_wp2
   go_ret
   exact ⟨-1,rfl,Or.inl ⟨rfl,fun j hj=>(uh HB).2 j hj (by omega)⟩,(uh HB).1⟩
theorem yV (lb:Array Value) (p:Op.Opt→Bool) (v:Value) (L:List Op.Opt) (w:World) (hl:L.length≤1000) (hL:HoldsO w v L)
  (hp:∀ (W:World) (x:Op.Opt),Below w.heap.size w W→Calls prog 167 (#[vA x] ++ lb) W fun e w'=>e=.returned (.bool (p x))∧Below W.heap.size W w') :
  Calls prog 210 #[v,.func (.func 167) #[] lb] w fun e w'=>∃ r:Int,e=.returned (.int .i64 r)∧IdxA p L r∧Below w.heap.size w w':=by
 have HL:=aa hL;obtain ⟨va,vc,rfl⟩:=hL.form;obtain ⟨n,hn⟩:∃ n,L.length=n:=⟨_,rfl⟩;rw [hn] at HL hl ⊢;clear hL;have HP:=aa hp;clear hp;go_enter func210,ntmps210
 go_wp2
 go_loopw [5,8] (fun _ y wr=>∃ k:Nat,k≤n∧y=.int .i64 k∧Hid (Below w.heap.size w wr∧∀ j (h:j<L.length),j<k→p L[j]=false)) (fun _ y _=>n - (intOf y).toNat)
 case atStart=>exact ⟨0,Nat.zero_le _,rfl,aa ⟨zC _ _,fun j _ h=>absurd h (Nat.not_lt_zero _)⟩⟩
 case round =>
  obtain ⟨k,hk,rfl,HB⟩:=hrel;by_cases hlt:k<n
  ·have d1:(k:Int)<(n:Int):=by omega
   have d0:(0:Int)≤(k:Int):=by omega
   obtain ⟨G,⟨cp',hv⟩,hgl,k0,k1⟩:=HoldsO.at ((uh HL).below (uh HB).1 rfl) k (by omega);injection hv with hv hv2 hv3;subst hv hv3;clear hv2;have hcall:=uh HP wr (L[k]'(by omega)) (uh HB).1;have HK:Hid (∀ b,p (L[k]'(by omega))=b→p (L[k]'(by omega))=b):=aa fun _ h=>h
   obtain ⟨o,ho⟩:∃ o,L[k]'(by omega)=o:=⟨_,rfl⟩;rw [ho] at k0 k1 hcall;have HO:=aa ho;clear ho HK;obtain ⟨kd,dt⟩:=o;dsimp only at k0 k1;cases hq:p ⟨kd,dt⟩ with
   | true =>
    rw [hq] at hcall;have HQ:=aa hq;clear hq;go_wp2_with fail
    refine hcall.mono ?_;rintro e w' ⟨rfl,hb'⟩;clear hcall;go_wp2
    go_ret
    refine ⟨(k:Int),rfl,Or.inr ⟨k,by omega,rfl,by rw [uh HO];exact uh HQ,(uh HB).2⟩,(uh HB).1.trans (hb'.mono (uh HB).1.size)⟩
   | false =>
    rw [hq] at hcall;have HQ:=aa hq;clear hq;go_wp2_with fail
    refine hcall.mono ?_;rintro e w' ⟨rfl,hb'⟩;clear hcall;go_wp2_with fail
    go_roundw
    case rel =>
     refine ⟨k+1,by omega,by go_num,aa ⟨(uh HB).1.trans (hb'.mono (uh HB).1.size),fun j hj hjk=>?_⟩⟩;by_cases e:j=k
     ·subst e;rw [uh HO];exact uh HQ
     ·exact (uh HB).2 j hj (by omega)
    case measure=>simp [intOf];omega
  ·have d1:¬ (k:Int)<(n:Int):=by omega
   go_wp2
   go_ret
   exact ⟨-1,rfl,Or.inl ⟨rfl,fun j hj=>(uh HB).2 j hj (by omega)⟩,(uh HB).1⟩
theorem yW (lb:Array Value) (p:Op.Opt→Bool) (v:Value) (L:List Op.Opt) (w:World) (hl:L.length≤1000) (hL:HoldsO w v L)
  (hp:∀ (W:World) (x:Op.Opt),Below w.heap.size w W→Calls prog 169 (#[vA x] ++ lb) W fun e w'=>e=.returned (.bool (p x))∧Below W.heap.size W w') :
  Calls prog 168 #[v,.func (.func 169) #[] lb] w fun e w'=>e=.returned (.bool (L.any p))∧Below w.heap.size w w':=by
 have C:=aa (yU lb p v L w hl hL hp);clear hp hL;go_enter func168,ntmps168
 go_wp2_with fail
 refine (uh C).mono ?_;rintro e w' ⟨r,rfl,hr,hb⟩;have HR:=aa hr.any;clear hr C;go_wp2
 go_ret
 refine ⟨?_,hb⟩;rw [← uh HR];rfl
theorem inK (x:Op.Opt) (k:Int) (O:Nat) (W:World) (h:W.cell? ⟨O,0,none⟩=some (.int .i64 k)) :
  Calls prog 169 #[vA x,.pointer (some ⟨O,0,none⟩)] W fun e w'=>e=.returned (.bool (x.kind == k))∧Below W.heap.size W w':=by
 have hlt:=World.block_lt_of_cell? W _ h;have hne:¬ (O=W.heap.size):=Nat.ne_of_lt hlt;have hne2:¬ (W.heap.size=O):=fun e=>hne e.symm
 obtain ⟨kd,dt⟩:=x;have c2:(W.alloc (.cells #[.int .i64 kd,.string dt] 105)).cell? ⟨O,0,none⟩=some (.int .i64 k):=by
  rw [((zC W.heap.size W).alloc (zD _) _).cell (p:=⟨O,0,none⟩) hlt];exact h
 go_enter func169,ntmps169
 go_wp2
 go_ret
 exact ⟨rfl,(zC _ _).alloc (zD _) _⟩
theorem yX (x:Op.Opt) (v:Value) (Os:List Op.Opt) (O:Nat) (W:World) (hl:Os.length≤1000) (h:W.cell? ⟨O,0,none⟩=some v) (hO:HoldsO W v Os) :
  Calls prog 167 #[vA x,.pointer (some ⟨O,0,none⟩)] W fun e w'=>e=.returned (.bool (!(Os.any fun y=>y.kind == x.kind)))∧Below W.heap.size W w':=by
 have hlt:=World.block_lt_of_cell? W _ h;obtain ⟨kd,dt⟩:=x;have hbA:Below W.heap.size W (W.alloc (.cells #[.int .i64 kd,.string dt] 105)):=(zC _ _).alloc (zD _) _;have c2:(W.alloc (.cells #[.int .i64 kd,.string dt] 105)).cell? ⟨O,0,none⟩=some v:=by
  rw [hbA.cell (p:=⟨O,0,none⟩) hlt];exact h
 have hx:(W.alloc (.cells #[.int .i64 kd,.string dt] 105)).cell? ⟨W.heap.size,0,none⟩=some (.int .i64 kd):=by
  rw [cr (zF W _)];rfl
 have hxl:W.heap.size<(W.alloc (.cells #[.int .i64 kd,.string dt] 105)).heap.size:=by simp
 have C:=aa (yW #[.pointer (some ⟨W.heap.size,0,none⟩)] (fun y=>y.kind == kd) v Os (W.alloc (.cells #[.int .i64 kd,.string dt] 105)) hl (hO.below hbA rfl) (fun W' y hb=>inK y kd W.heap.size W' ((hb.cell (p:=⟨W.heap.size,0,none⟩) hxl).trans hx)));obtain ⟨va,vc,rfl⟩:=hO.form;clear hx hxl hO h hlt;go_enter func167,ntmps167
 go_wp2_with fail
 refine (uh C).mono ?_;rintro e w' ⟨rfl,hb⟩;clear C;go_wp2
 go_ret
 exact ⟨rfl,hbA.trans (hb.mono hbA.size)⟩
theorem ga {T:TypeId} {g:Nat}:∀ (vs:List Value) (o:Nat) (W:World) (cur:Array Value),W.heap[g]?=some (.cells cur T)→o+vs.length≤cur.size →
  ∃ cur',(W.setCells g o vs).heap[g]?=some (.cells cur' T)∧cur'.size=cur.size∧∀ k,k<o→cur'[k]?=cur[k]?
 | [],_,_,cur,h,_=>⟨cur,h,rfl,fun _ _=>rfl⟩
 | v :: vs,o,W,cur,h,hl=>by
  rw [List.length_cons] at hl;obtain ⟨cur',h1,h2,h3⟩:=ga vs (o+1) (W.setCell ⟨g,o,none⟩ v) (cur.setIfInBounds o v) (zH _ _ o _ _ v h) (by rw [Array.size_setIfInBounds];omega);exact ⟨cur',h1,by rw [h2,Array.size_setIfInBounds],fun k hk=>by rw [h3 k (by omega),Array.getElem?_setIfInBounds,if_neg (by omega)]⟩
theorem jx {n g:Nat} {a:World} (hg:n≤g):∀ (vs:List Value) (o:Nat) (W:World),Below n a W→Below n a (W.setCells g o vs)
 | [],_,_,h=>h
 | v :: vs,o,W,h=>jx hg vs (o+1) (W.setCell ⟨g,o,none⟩ v) (h.setCell (p:=⟨g,o,none⟩) hg v)
theorem oO (n:Nat):((Builtin.zeroCells #[.int .i64 0,.string ⟨#[]⟩] n).toList.length=n*2)∧∀ u ∈ (Builtin.zeroCells #[.int .i64 0,.string ⟨#[]⟩] n).toList,u.oneCell'=true:=by
 refine ⟨by simp [Builtin.zeroCells],fun u hu=>?_⟩;simp [Builtin.zeroCells] at hu;obtain ⟨i,_,rfl⟩:=hu;have h2:i % 2=0∨i % 2=1:=by omega
 rcases h2 with h | h<;>rw [h]<;>rfl
theorem m_ (w:World) (ty:TypeId) (b o n c:Nat) (hn:0<n) (hc:∀ j,j<n*2→(w.cell? ⟨b,o+j,none⟩).isSome=true) (hf:∀ j,j<n*2→w.frozen? ⟨b,o+j,none⟩=false) :
  ∃ zs:List Value,zs.length=n*2∧(Builtin.clear_ #[28] ty #[.slice (some ⟨b,o,none⟩) n c]).run prog w=.ok (.tuple #[]) (w.setCells b o zs):=by
 obtain ⟨h1,h2⟩:=oO n;refine ⟨_,h1,?_⟩;have hst:=run_storeCells_cells (P:=prog) b o (Builtin.zeroCells #[.int .i64 0,.string ⟨#[]⟩] n).toList 0 w (by rw [h1];simpa using hc) (by rw [h1];simpa using hf) h2;simp only [Nat.add_zero] at hst;obtain ⟨m,rfl⟩:∃ m,n=m+1:=⟨n - 1,by omega⟩;simp [Builtin.clear_,run_underlying underlying28,Value.cells,hst]
theorem nY:prog.elem 28=105:=by kernel_rfl
structure Dk (q:World) (base G cap n:Nat) (L K:List Op.Opt) (j:Nat) (z:World):Prop where
 b:Below base q z
 g:∃ cur,z.heap[G]?=some (.cells cur 105)∧cur.size=cap*2∧(∀ t,t<K.length*2→cur[t]?=(aj K)[t]?)∧∀ t,j*2≤t→t<n*2→cur[t]?=(aj L)[t]?
variable {q z z':World} {base G cap n j:Nat} {L K:List Op.Opt}
theorem Dk.step (h:Dk q base G cap n L K j z) (hbs:base≤z.heap.size) (hb:Below z.heap.size z z'):Dk q base G cap n L K j z':=by
 obtain ⟨cur,h1,h2⟩:=h.g;exact ⟨h.b.trans (hb.mono hbs),cur,(hb.block _ (ge.1 h1).1).trans h1,h2⟩
theorem Dk.lt (h:Dk q base G cap n L K j z):G<z.heap.size:=by
 obtain ⟨cur,h1,_⟩:=h.g;exact (ge.1 h1).1
theorem Dk.get (h:Dk q base G cap n L K j z) (hL:L.length=n) (hj:j<n):z.cell? ⟨G,j*2,none⟩=some (.int .i64 (L[j]'(by omega)).kind)∧z.cell? ⟨G,j*2+1,none⟩=some (.string (L[j]'(by omega)).data):=by
 obtain ⟨cur,h1,_,_,h4⟩:=h.g;have hg:=bW L j _ (List.getElem?_eq_getElem (by omega));exact ⟨by rw [cr h1,h4 _ (by omega) (by omega)];exact hg.1,by rw [cr h1,h4 _ (by omega) (by omega)];exact hg.2⟩
theorem Dk.skip (h:Dk q base G cap n L K j z):Dk q base G cap n L K (j+1) z:=by
 obtain ⟨cur,h1,h2,h3,h4⟩:=h.g;exact ⟨h.b,cur,h1,h2,h3,fun t ht hn=>h4 t (by omega) hn⟩
theorem Dk.keep (h:Dk q base G cap n L K j z) (hG:base≤G) (hK:K.length≤j) (hj:j<n) (hc:n≤cap) (o:Op.Opt):Dk q base G cap n L (K ++ [o]) (j+1) ((z.setCell ⟨G,K.length*2,none⟩ (.int .i64 o.kind)).setCell ⟨G,K.length*2+1,none⟩ (.string o.data)):=by
 obtain ⟨cur,h1,h2,h3,h4⟩:=h.g;have e1:=zH z G (K.length*2) _ _ (.int .i64 o.kind) h1;have e2:=zH _ G (K.length*2+1) _ _ (.string o.data) e1;refine ⟨(h.b.setCell (p:=⟨G,K.length*2,none⟩) hG _).setCell (p:=⟨G,K.length*2+1,none⟩) hG _,_,e2,by rw [Array.size_setIfInBounds,Array.size_setIfInBounds];exact h2,fun t ht=>?_,fun t ht hn=>?_⟩
 ·rw [List.length_append,List.length_singleton] at ht;rw [bV,Array.getElem?_setIfInBounds,Array.getElem?_setIfInBounds,Array.size_setIfInBounds];by_cases t1:K.length*2+1=t
  ·rw [if_pos t1,if_pos (by omega),List.getElem?_append_right (by rw [bU];omega),bU,show t - K.length*2=1 by omega];rfl
  ·rw [if_neg t1];by_cases t0:K.length*2=t
   ·rw [if_pos t0,if_pos (by omega),List.getElem?_append_right (by rw [bU];omega),bU,show t - K.length*2=0 by omega];rfl
   ·rw [if_neg t0,List.getElem?_append_left (by rw [bU];omega)];exact h3 t (by omega)
 ·rw [Array.getElem?_setIfInBounds,Array.getElem?_setIfInBounds,Array.size_setIfInBounds,if_neg (by omega),if_neg (by omega)];exact h4 t (by omega) hn
theorem jV (p:Op.Opt→Bool) (L:List Op.Opt) (j:Nat) (hj:j<L.length):(L.take (j+1)).filter (fun o=>!p o)=(L.take j).filter (fun o=>!p o) ++ (if p L[j]=true then [] else [L[j]]):=by
 rw [List.take_succ_eq_append_getElem hj,List.filter_append];congr 1
 cases h:p L[j]<;>simp [h]
theorem qC (p:Op.Opt→Bool) (L:List Op.Opt) (h:∀ j (hj:j<L.length),p L[j]=false):L.filter (fun o=>!p o)=L :=
 List.filter_eq_self.2 fun x hx=>by
  obtain ⟨j,hj,rfl⟩:=List.getElem_of_mem hx;rw [h j hj];rfl
theorem yY (lb:Array Value) (p:Op.Opt→Bool) (v:Value) (L:List Op.Opt) (base:Nat) (q:World) (hbase:base≤q.heap.size) (hl:L.length≤20) (ho:q.ownsRow base 105 2 v L.length (aj L))
  (hp:∀ (W:World) (x:Op.Opt),Below base q W→Calls prog 167 (#[vA x] ++ lb) W fun e w'=>e=.returned (.bool (p x))∧Below W.heap.size W w') :
  Calls prog 166 #[v,.func (.func 167) #[] lb] q fun e q'=>∃ v',e=.returned v'∧q'.ownsRow base 105 2 v' (L.filter fun o=>!p o).length (aj (L.filter fun o=>!p o))∧Below base q q':=by
 have C:=aa (yV lb p v L q (by omega) (HoldsO.own ho) (fun W x hb=>hp W x (hb.mono hbase)));have HO:=aa ho;have HP:=aa hp;obtain ⟨va,vc,rfl⟩:=af ho;clear hp ho;obtain ⟨n,hn⟩:∃ n,L.length=n:=⟨_,rfl⟩;rw [hn] at C HO hl ⊢;go_enter func166,ntmps166
 go_wp2_with fail
 refine (uh C).mono ?_;rintro e w1 ⟨r,rfl,hr,hb⟩;rcases hr with ⟨rfl,hall⟩ | ⟨k,hk,rfl,hpk,hall⟩
 ·have HF:=aa (qC p L hall);have HB:=aa hb;clear hb hall C HP;go_wp2
  go_ret
  refine ⟨_,rfl,?_,(uh HB).mono hbase⟩;rw [uh HF,hn];exact aP (uh HO) (uh HB)
 ·have hne:((k:Int) == -1)=false:=beq_eq_false_iff_ne.2 (by omega);obtain ⟨G,cur,ev,hG,hgq,hnc,hcm,hcs,htk⟩:∃ G cur,va=some ⟨G,0,none⟩∧base≤G∧q.heap[G]?=some (.cells cur 105)∧n≤vc∧vc≤maxLen∧cur.size=vc*2∧cur.toList.take (n*2)=aj L:=by
   rcases (uh HO).2 with ⟨_,e0⟩ | ⟨G,cap,cur,e1,e2,e3,e4,e5,e6,e7⟩
   ·omega
   ·cases e1;exact ⟨G,cur,rfl,e2,e3,e4,e5,e6,e7⟩
  subst ev;have HK0:Hid (((L.take (k+1)).filter fun o=>!p o)=L.take k):=aa (by
   rw [jV p L k hk,if_pos hpk,List.append_nil];refine List.filter_eq_self.2 fun x hx=>?_
   obtain ⟨j,hj,rfl⟩:=List.mem_take_iff_getElem.1 hx;rw [hall j (by omega) (by omega)];rfl)
  have hD0:Dk q base G vc n L (L.take k) (k+1) w1:=by
   have hlook:∀ t,t<n*2→cur[t]?=(aj L)[t]?:=fun t ht=>by
    rw [← htk,List.getElem?_take,if_pos ht,Array.getElem?_toList]
   refine ⟨hb.mono hbase,cur,(hb.block _ (ge.1 hgq).1).trans hgq,hcs,fun t ht=>?_,fun t _ ht=>hlook t ht⟩;rw [List.length_take] at ht;rw [hlook t (by omega)];conv=>lhs;rw [← List.take_append_drop k L,bV]
   rw [List.getElem?_append_left (by rw [bU,List.length_take];omega)]
  have HD0:=aa hD0;have hkn:k<n:=by omega
  have HM:=aa (zA hcm hcs);clear hb hall hpk hD0 htk hgq C HO hcm hcs;go_wp2_with fail
  go_loopw [5,6] (fun x y wr=>∃ j:Nat,k<j∧j≤n∧y=.int .i64 j∧x=.int .i64 (((L.take j).filter fun o=>!p o).length:Nat)∧((L.take j).filter fun o=>!p o).length<j∧base≤wr.heap.size∧Hid (Dk q base G vc n L ((L.take j).filter fun o=>!p o) j wr)) (fun _ y _=>n - (intOf y).toNat)
  case atStart =>
   refine ⟨k+1,by omega,by omega,by go_num,?_,?_,?_,?_⟩
   ·rw [uh HK0,List.length_take,Nat.min_eq_left (by omega)]
   ·rw [uh HK0,List.length_take];omega
   ·exact zE hbase (by have:=(uh HD0).lt;have:=(uh HD0).b.size;omega:q.heap.size≤w1.heap.size)
   ·rw [uh HK0];exact HD0
  case round =>
   obtain ⟨j,hkj,hjn,rfl,rfl,hKj,hbw,HD⟩:=hrel;clear HD0 HK0;obtain ⟨K,hK⟩:∃ K,((L.take j).filter fun o=>!p o)=K:=⟨_,rfl⟩;rw [hK] at hKj HD;by_cases hlt:j<n
   ·have d1:(j:Int)<(n:Int):=by omega
    have d0:(0:Int)≤(j:Int):=by omega
    have hFs:=jV p L j (by omega);rw [hK] at hFs;have HKS:=aa hFs;obtain ⟨k0,k1⟩:=(uh HD).get hn hlt;have hcall:=aa fun W hb=>uh HP W (L[j]'(by omega)) hb
    obtain ⟨o,ho⟩:∃ o,L[j]'(by omega)=o:=⟨_,rfl⟩;rw [ho] at k0 k1 hcall HKS;have hGl:=(uh HD).lt;have hne1:¬ (G=wr.heap.size):=by omega
    have hne2:¬ (wr.heap.size=G):=by omega
    rw [hK];clear hK ho hFs HP;obtain ⟨kd,dt⟩:=o;dsimp only at k0 k1;go_upto_region 8 with fail
    refine ab (fun z=>Dk q base G vc n L K j z∧z.heap[wr.heap.size]?=some (.cells #[.int .i64 kd,.string dt] 105)∧base≤z.heap.size) ?_ ?_
    ·have hbA:=(zC wr.heap.size wr).alloc (zD _) (.cells #[.int .i64 kd,.string dt] 105);exact ⟨(uh HD).step hbw hbA,zF wr _,zE hbw hbA.size⟩
    intro z1 hz1;generalize wr.heap.size=N at *;have HZ:=aa hz1;have m0:z1.cell? ⟨N,0,none⟩=some (.int .i64 kd):=by rw [cr hz1.2.1];rfl
    have m1:z1.cell? ⟨N,1,none⟩=some (.string dt):=by rw [cr hz1.2.1];rfl
    clear hz1 HD k0 k1;go_wp2_with fail
    refine (uh hcall _ (uh HZ).1.b).mono ?_;rintro e z2 ⟨rfl,hb2⟩;clear hcall m0 m1;have hz2:Dk q base G vc n L K j z2∧z2.heap[N]?=some (.cells #[.int .i64 kd,.string dt] 105)∧base≤z2.heap.size:=⟨(uh HZ).1.step (uh HZ).2.2 hb2,(hb2.block _ (ge.1 (uh HZ).2.1).1).trans (uh HZ).2.1,zE (uh HZ).2.2 hb2.size⟩;have H2:=aa hz2;have m0:z2.cell? ⟨N,0,none⟩=some (.int .i64 kd):=by rw [cr hz2.2.1];rfl
    have m1:z2.cell? ⟨N,1,none⟩=some (.string dt):=by rw [cr hz2.2.1];rfl
    clear hz2 hb2 HZ;cases hq:p ⟨kd,dt⟩ with
    | true =>
     rw [hq,if_pos rfl,List.append_nil] at HKS;clear hq;go_wp2_with fail
     go_roundw
     case rel =>
      refine ⟨j+1,by omega,by omega,by go_num,?_,?_,(uh H2).2.2,?_⟩
      ·rw [uh HKS]
      ·rw [uh HKS];omega
      ·rw [uh HKS];exact aa (uh H2).1.skip
     case measure=>simp [intOf];omega
    | false =>
     rw [hq,if_neg (by decide)] at HKS;clear hq;obtain ⟨c3,hc3,hs3,_⟩:=(uh H2).1.g;have e0:(z2.cell? ⟨G,K.length*2,none⟩).isSome=true:=by rw [cr hc3,Array.getElem?_eq_getElem (by omega)];rfl
     have e1:(z2.cell? ⟨G,K.length*2+1,none⟩).isSome=true:=by rw [cr hc3,Array.getElem?_eq_getElem (by omega)];rfl
     obtain ⟨y0,hy0⟩:=Option.isSome_iff_exists.1 e0;obtain ⟨y1,hy1⟩:=Option.isSome_iff_exists.1 e1;have f0:=aX hc3 (K.length*2);have f1:=aX hc3 (K.length*2+1);have dK:(K.length:Int)<(n:Int):=by omega
     clear e0 e1 hc3 hs3;go_wp2_with fail
     go_roundw
     case rel =>
      refine ⟨j+1,by omega,by omega,by go_num,?_,?_,?_,?_⟩
      ·rw [uh HKS,List.length_append];go_num
      ·rw [uh HKS,List.length_append];simp;omega
      ·simpa using (uh H2).2.2
      ·rw [uh HKS];exact aa ((uh H2).1.keep hG (by omega) hlt hnc ⟨kd,dt⟩)
     case measure=>simp [intOf];omega
   ·have d1:¬ ((j:Int)<(n:Int)):=by omega
    have ejn:j=n:=by omega
    subst ejn;have hKL:(L.filter fun o=>!p o)=K:=by
     rw [← hK,← hn,List.take_length]
    have HKL:=aa hKL;rw [hK];clear hK hKL HP;obtain ⟨c3,hc3,hs3,hlo3,_⟩:=(uh HD).g;obtain ⟨ys,hys⟩:∃ ys:Value,(.slice (some ⟨G,K.length*2,none⟩) (j - K.length) (vc - K.length):Value)=ys:=⟨_,rfl⟩;have hs1:∀ z:World,(Instr.slice 28 (.slice (some ⟨G,0,none⟩) j vc) (some (.int .i64 (K.length:Int))) none none).run prog z=.ok ys z:=fun z=>by
     rw [← hys,run_slice_l (P:=prog) (w:=z) 28 _ j vc (by rw [nY];exact underlying28) .i64 (K.length:Int) (by omega) (by omega),nY,Tryz.sizeOf105 z];have:¬ vc=K.length:=by omega
     simp [Result.andThen,sliced,Addr.add,this];omega
    have hs2:∀ z:World,(Instr.slice 28 (.slice (some ⟨G,0,none⟩) j vc) none (some (.int .i64 (K.length:Int))) none).run prog z=.ok (.slice (some ⟨G,0,none⟩) K.length vc) z:=fun z=>by
     rw [run_slice_h (P:=prog) (w:=z) 28 _ j vc (by rw [nY];exact underlying28) .i64 (K.length:Int) (by omega) (by omega),nY,Tryz.sizeOf105 z];simp [Result.andThen,sliced,Addr.add]
    obtain ⟨zs,hzl,hcl⟩:=m_ wr 0 G (K.length*2) (j - K.length) (vc - K.length) (by omega) (fun t ht=>by rw [cr hc3,Array.getElem?_eq_getElem (by omega)];rfl) (fun t _=>aX hc3 _);rw [hys] at hcl;obtain ⟨c4,hc4,hs4,hl4⟩:=ga zs (K.length*2) wr c3 hc3 (by omega);have HE:Hid ((wr.setCells G (K.length*2) zs).ownsRow base 105 2 (.slice (some ⟨G,0,none⟩) K.length vc) K.length (aj K)∧Below base q (wr.setCells G (K.length*2) zs)):=aa ⟨⟨by rw [bU],Or.inr ⟨G,vc,c4,rfl,hG,hc4,by omega,(uh HM).1,by rw [hs4,hs3],by
     refine List.ext_getElem? fun t=>?_
     rw [List.getElem?_take];by_cases ht:t<K.length*2
     ·rw [if_pos ht,Array.getElem?_toList,hl4 t ht,hlo3 t ht]
     ·rw [if_neg ht,List.getElem?_eq_none (by rw [bU];omega)]⟩⟩,jx hG _ _ _ (uh HD).b⟩
    clear hys hc3 hs3 hlo3 hc4 hs4 hl4 hzl HD;go_wp2_with fail
    go_ret
    refine ⟨_,rfl,?_,(uh HE).2⟩;rw [uh HKL];exact (uh HE).1
theorem qD (v vo:Value) (L Os:List Op.Opt) (w:World) (hr:Op.right L=true) (hl:Os.length≤1000) (hL:HoldsO w v L) (hO:HoldsO w vo Os) :
  Calls prog 150 #[v,vo] w fun e w'=>∃ v',e=.returned v'∧w'.ownsRow w.heap.size 105 2 v' (gX L Os).length (aj (gX L Os))∧Below w.heap.size w w':=by
 have hl20:L.length≤20:=Op.right_len hr;obtain ⟨oa,oc,rfl⟩:=hO.form;have hbA:=(zC w.heap.size w).alloc (zD _) (.cells #[.slice oa Os.length oc] 28);have hx:(w.alloc (.cells #[.slice oa Os.length oc] 28)).cell? ⟨w.heap.size,0,none⟩=some (.slice oa Os.length oc):=by
  rw [cr (zF w _)];rfl
 have hxl:w.heap.size<(w.alloc (.cells #[.slice oa Os.length oc] 28)).heap.size:=by simp
 have CS:=aa (qA v L (w.alloc (.cells #[.slice oa Os.length oc] 28)) hr (hL.below hbA rfl));have HX:=aa (zA hx (zA hxl (zA (hO.below hbA rfl) hbA)));clear hx hxl hO hL;obtain ⟨w1,hw1⟩:∃ w1,w.alloc (.cells #[.slice oa Os.length oc] 28)=w1:=⟨_,rfl⟩;rw [hw1] at CS HX hbA;have HW:=aa hw1;clear hw1;have CD:Hid (∀ (W:World) (va:Option Addr) (vc:Nat),Below w1.heap.size w1 W→W.ownsRow w1.heap.size 105 2 (.slice va L.length vc) L.length (aj L)→Calls prog 166 #[.slice va L.length vc,.func (.func 167) #[] #[.pointer (some ⟨w.heap.size,0,none⟩)]] W fun e q'=>∃ v',e=.returned v'∧q'.ownsRow w1.heap.size 105 2 v' (gX L Os).length (aj (gX L Os))∧Below w1.heap.size W q'):=aa fun W va vc hb ho=>by
  have h:=yY #[.pointer (some ⟨w.heap.size,0,none⟩)] (fun x=>!(Os.any fun y=>y.kind == x.kind)) _ L w1.heap.size W hb.size hl20 ho (fun W' x hb'=>yX x _ Os w.heap.size W' hl (((hb.trans hb').cell (p:=⟨w.heap.size,0,none⟩) (uh HX).2.1).trans (uh HX).1) ((uh HX).2.2.1.below (hb.trans hb') rfl));have e:(L.filter fun o=>!(fun x:Op.Opt=>!(Os.any fun y=>y.kind == x.kind)) o)=gX L Os:=by
   unfold gX;congr 1
   funext o
   exact Bool.not_not _
  rw [e] at h;exact h
 have hbs:=hbA.size;go_enter func150,ntmps150
 go_upto_region 1 with fail
 rw [uh HW];clear HW;go_wp2_with fail
 refine (uh CS).mono ?_;rintro e w2 ⟨va,vc,rfl,ho2,hb2⟩;have CD2:=aa (uh CD w2 va vc hb2 ho2);have HB2:=aa hb2;clear hb2 ho2 CS CD;go_wp2_with fail
 refine (uh CD2).mono ?_;rintro e w3 ⟨v3,rfl,ho3,hb3⟩;have H3:=aa (zA ho3 hb3);clear ho3 hb3 CD2;go_wp2
 go_ret
 exact ⟨_,rfl,aE (uh H3).1 hbs,hbA.trans (((uh HB2).trans (uh H3).2).mono hbs)⟩
end Go.Proofs.YtjdgiimfpkideaaGreatDoor
namespace Go.Proofs.YtjdgiimfpkideaaGreatDoor
open Go.RowKit Go.Proofs.Tryz
structure Rg (lo hi:Nat) (w w':World):Prop where
 os:w'.os=w.os
 tape:w'.tape=w.tape
 output:w'.output=w.output
 size:w.heap.size≤w'.heap.size
 block:∀ b,b<w.heap.size→¬ (lo≤b∧b<hi)→w'.heap[b]?=w.heap[b]?
theorem Rg.below {lo hi n:Nat} {w0 w w':World} (h:Rg lo hi w w') (hb:Below n w0 w) (hn:n≤lo) (h0:n≤w0.heap.size):Below n w0 w' :=
 ⟨h.os.trans hb.os,h.tape.trans hb.tape,h.output.trans hb.output,zE hb.size h.size,fun b hlt=>(h.block b (Nat.lt_of_lt_of_le hlt (zE h0 hb.size)) (fun e=>by omega)).trans (hb.block b hlt)⟩
def s8 (lo hi:Nat) (n:Nat) (v:Value):Prop:=∀ g,nb n v=some g→lo≤g∧g<hi
structure Four (lo hi n1 n2 n3 n4:Nat) (v1 v2 vs vt:Value):Prop where
 r1:s8 lo hi n1 v1
 r2:s8 lo hi n2 v2
 r3:s8 lo hi n3 vs
 r4:s8 lo hi n4 vt
 d12:Df (nb n1 v1) (nb n2 v2)
 d31:Df (nb n3 vs) (nb n1 v1)
 d32:Df (nb n3 vs) (nb n2 v2)
 d41:Df (nb n4 vt) (nb n1 v1)
 d42:Df (nb n4 vt) (nb n2 v2)
 d43:Df (nb n4 vt) (nb n3 vs)
def AnD (o:EO) (lo hi:Nat) (cs:Array Value) (q:World):Prop :=
 ∃ x1 x2 x5 x7 y1 y2 y5 y7,cs=aC o.e (.slice x1 o.F1.length y1) (.slice x2 o.F2.length y2) (.slice x5 o.sn.length y5) (.slice x7 o.tl.length y7) o.cd∧HoldsO q (.slice x1 o.F1.length y1) o.F1∧HoldsO q (.slice x2 o.F2.length y2) o.F2∧HoldsP q (.slice x5 o.sn.length y5) o.sn∧HoldsT q (.slice x7 o.tl.length y7) o.tl ∧
  Four lo hi o.F1.length o.F2.length o.sn.length o.tl.length (.slice x1 o.F1.length y1) (.slice x2 o.F2.length y2) (.slice x5 o.sn.length y5) (.slice x7 o.tl.length y7)
def MkD (o:EO) (cs:Array Value) (q:World):Prop :=
 ∃ x1 x2 x5 x7 y1 y2 y5 y7,cs=aC o.e (.slice x1 o.F1.length y1) (.slice x2 o.F2.length y2) (.slice x5 o.sn.length y5) (.slice x7 o.tl.length y7) o.cd∧HoldsO q (.slice x1 o.F1.length y1) (jb 1 o.F1.length)∧HoldsO q (.slice x2 o.F2.length y2) (jb (1+2*o.F1.length) o.F2.length)∧HoldsP q (.slice x5 o.sn.length y5) (mpk (1+2*o.F1.length+2*o.F2.length) o.sn.length)∧HoldsT q (.slice x7 o.tl.length y7) (mtl (1+2*o.F1.length+2*o.F2.length+3*o.sn.length) o.tl.length)
structure EoB (o:EO):Prop where
 l1:o.F1.length≤2000
 l2:o.F2.length≤2000
 l3:o.sn.length≤100
 l4:o.tl.length≤100000
theorem fD {n:Nat} {v:Value} {g:Nat} (h:nb n v=some g):v.ownBlock=some g:=by
 unfold nb at h;split at h
 ·cases h
 ·exact h
theorem Df.ap {n n':Nat} {v v':Value} (h:Ap v v'):Df (nb n v) (nb n' v'):=fun g h1 h2=>h g (fD h1) (fD h2)
theorem AnD.of {w q:World} {o:EO} {cs:Array Value} (h:EvA w o (.returned (.agg cs)) q):AnD o w.heap.size q.heap.size cs q∧Below w.heap.size w q∧cs.size=33∧cs.all (·.oneCell')=true:=by
 obtain ⟨v1,v2,vs,vt,e,o1,o2,os,ot,ap,lo⟩:=h;have e':cs=aC o.e v1 v2 vs vt o.cd:=by injection e with e;injection e
 obtain ⟨a1,p1,e1⟩:=af o1;obtain ⟨a2,p2,e2⟩:=af o2;obtain ⟨a3,p3,e3⟩:=af os;obtain ⟨a4,p4,e4⟩:=af ot;subst e1 e2 e3 e4 e';refine ⟨⟨a1,a2,a3,a4,p1,p2,p3,p4,rfl,HoldsO.own o1,HoldsO.own o2,HoldsP.own os,HoldsT.own ot,?_⟩,lo,rfl,aG _ _ _ _ _ _ _ _ _ _ _ _ _ _⟩;exact ⟨fun g hg=>o1.lt g (fD hg),fun g hg=>o2.lt g (fD hg),fun g hg=>os.lt g (fD hg),fun g hg=>ot.lt g (fD hg),Df.ap ap,Df.ap (gl os o1 (by decide)),Df.ap (gl os o2 (by decide)),Df.ap (gl ot o1 (by decide)),Df.ap (gl ot o2 (by decide)),Df.ap (gl ot os (by decide))⟩
theorem AnD.step {o:EO} {lo hi:Nat} {cs:Array Value} {q q':World} (h:AnD o lo hi cs q) (hb:Below q.heap.size q q'):AnD o lo hi cs q':=by
 obtain ⟨x1,x2,x5,x7,y1,y2,y5,y7,e,h1,h2,h3,h4,f⟩:=h;exact ⟨x1,x2,x5,x7,y1,y2,y5,y7,e,h1.below hb rfl,h2.below hb rfl,h3.below hb rfl,h4.below hb rfl,f⟩
theorem MkD.step {o:EO} {cs:Array Value} {q q':World} (h:MkD o cs q) (hb:Below q.heap.size q q'):MkD o cs q':=by
 obtain ⟨x1,x2,x5,x7,y1,y2,y5,y7,e,h1,h2,h3,h4⟩:=h;exact ⟨x1,x2,x5,x7,y1,y2,y5,y7,e,h1.below hb rfl,h2.below hb rfl,h3.below hb rfl,h4.below hb rfl⟩
theorem HoldsO.rg {w w':World} {v:Value} {F:List Op.Opt} {lo hi a b:Nat} (h:HoldsO w v F) (hr:Rg lo hi w w') (hi':s8 a b F.length v) (hd:b≤lo∨hi≤a):HoldsO w' v F:=by
 rcases h with ⟨ad,cp,e,e0⟩ | ⟨g,cp,cur,e,q1,q2⟩
 ·exact Or.inl ⟨ad,cp,e,e0⟩
 ·by_cases hz:F.length=0
  ·have:F=[]:=List.eq_nil_of_length_eq_zero hz
   subst this;exact Or.inl ⟨_,_,e,rfl⟩
  ·have hg:=hi' g (by rw [dC hz,e];rfl);exact Or.inr ⟨g,cp,cur,e,(hr.block g (ge.1 q1).1 (fun e=>by omega)).trans q1,q2⟩
theorem HoldsP.rg {w w':World} {v:Value} {F:List Op.Pk} {lo hi a b:Nat} (h:HoldsP w v F) (hr:Rg lo hi w w') (hi':s8 a b F.length v) (hd:b≤lo∨hi≤a):HoldsP w' v F:=by
 rcases h with ⟨ad,cp,e,e0⟩ | ⟨g,cp,cur,e,q1,q2⟩
 ·exact Or.inl ⟨ad,cp,e,e0⟩
 ·by_cases hz:F.length=0
  ·have:F=[]:=List.eq_nil_of_length_eq_zero hz
   subst this;exact Or.inl ⟨_,_,e,rfl⟩
  ·have hg:=hi' g (by rw [dC hz,e];rfl);exact Or.inr ⟨g,cp,cur,e,(hr.block g (ge.1 q1).1 (fun e=>by omega)).trans q1,q2⟩
theorem HoldsT.rg {w w':World} {v:Value} {F:List ByteArray} {lo hi a b:Nat} (h:HoldsT w v F) (hr:Rg lo hi w w') (hi':s8 a b F.length v) (hd:b≤lo∨hi≤a):HoldsT w' v F:=by
 rcases h with ⟨ad,cp,e,e0⟩ | ⟨g,cp,cur,e,q1,q2⟩
 ·exact Or.inl ⟨ad,cp,e,e0⟩
 ·by_cases hz:F.length=0
  ·have:F=[]:=List.eq_nil_of_length_eq_zero hz
   subst this;exact Or.inl ⟨_,_,e,rfl⟩
  ·have hg:=hi' g (by rw [dC hz,e];rfl);exact Or.inr ⟨g,cp,cur,e,(hr.block g (ge.1 q1).1 (fun e=>by omega)).trans q1,q2⟩
theorem AnD.rg {o:EO} {lo hi a b:Nat} {cs:Array Value} {q q':World} (h:AnD o a b cs q) (hr:Rg lo hi q q') (hd:b≤lo∨hi≤a):AnD o a b cs q':=by
 obtain ⟨x1,x2,x5,x7,y1,y2,y5,y7,e,h1,h2,h3,h4,f⟩:=h;exact ⟨x1,x2,x5,x7,y1,y2,y5,y7,e,h1.rg hr f.r1 hd,h2.rg hr f.r2 hd,h3.rg hr f.r3 hd,h4.rg hr f.r4 hd,f⟩
def ToX (e:En) (F1 F2:List Op.Opt) (lo hi:Nat) (cl:List Value) (q:World):Prop :=
 ∃ u1 z1 u2 z2,cl=(aA e (.slice u1 F1.length z1) (.slice u2 F2.length z2)).toList∧HoldsO q (.slice u1 F1.length z1) F1∧HoldsO q (.slice u2 F2.length z2) F2∧s8 lo hi F1.length (.slice u1 F1.length z1)∧s8 lo hi F2.length (.slice u2 F2.length z2)∧(F1≠[]→F2≠[]→(Value.slice u1 F1.length z1).ownBlock≠(Value.slice u2 F2.length z2).ownBlock)
theorem ToX.step {e:En} {F1 F2:List Op.Opt} {lo hi:Nat} {cl:List Value} {q q':World} (h:ToX e F1 F2 lo hi cl q) (hb:Below q.heap.size q q'):ToX e F1 F2 lo hi cl q':=by
 obtain ⟨u1,z1,u2,z2,h1,h2,h3,f⟩:=h;exact ⟨u1,z1,u2,z2,h1,h2.below hb rfl,h3.below hb rfl,f⟩
theorem ToX.len {e:En} {F1 F2:List Op.Opt} {lo hi:Nat} {cl:List Value} {q:World} (h:ToX e F1 F2 lo hi cl q):cl.length=30:=by
 obtain ⟨u1,z1,u2,z2,h1,_⟩:=h;rw [h1];rfl
theorem ToX.one {e:En} {F1 F2:List Op.Opt} {lo hi:Nat} {cl:List Value} {q:World} (h:ToX e F1 F2 lo hi cl q):cl.toArray.all (·.oneCell')=true:=by
 obtain ⟨u1,z1,u2,z2,h1,_⟩:=h;rw [h1];kernel_rfl
end Go.Proofs.YtjdgiimfpkideaaGreatDoor
