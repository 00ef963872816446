/- WkC WkQ -/
import Derived.Test.YtahpjlbaagkdoaaGreatDoorS15
import Derived.Test.YtahpjlbaagkdoaaGreatDoorS16
set_option maxHeartbeats 4000000
set_option maxRecDepth 100000
namespace Go.Proofs.YtahpjlbaagkdoaaGreatDoor
open Go.RowKit Go.Proofs.Tryz
abbrev enZ:Array Value:=#[.int .i64 0,.int .i64 0,.int .i64 0,.bool false,.bool false,.bool false,.int .i64 0,.int .i64 0,.int .i64 0,.bool false,.bool false,.bool false,.int .i64 0,.int .i64 0,.int .i64 0,.int .i64 0,.int .i64 0,.slice none 0 0,.slice none 0 0,.bool false,.int .i64 0,.int .i64 0,.bool false,.bool false,.bool false,.int .i64 0,.int .i64 0,.bool false,.bool false,.bool false]
theorem enC_all (e:En) (a1 a2:Option Addr) (n1 n2 m1 m2:Nat):(enC e (.slice a1 n1 m1) (.slice a2 n2 m2)).all (·.oneCell')=true:=by kernel_rfl
theorem setRow_ne (w:World) (g k:Nat) (cs:Array Value) (h:k≠g):(w.setRow g cs).heap[k]?=w.heap[k]?:=by
  unfold World.setRow;simp [Array.getElem?_modify,Ne.symm h]
theorem madeO (z:World):(z.alloc (.cells #[] 116)).ownsRow z.heap.size 116 2 (.slice (some ⟨z.heap.size,0,none⟩) ([]:List Op.Opt).length 0) ([]:List Op.Opt).length (ocells []) :=
  World.ownsRow_made z #[] 0 (Nat.le_refl _) (Nat.zero_le _) rfl
theorem sCopy (e:En) (x1 x2:Option Addr) (y1 y2:Nat) (F1 F2:List Op.Opt) (w:World) (l1:F1.length≤1048576) (l2:F2.length≤1048576) (h1:HoldsO w (.slice x1 F1.length y1) F1) (h2:HoldsO w (.slice x2 F2.length y2) F2) :
    Calls prog 87 #[.agg (enC e (.slice x1 F1.length y1) (.slice x2 F2.length y2))] w fun r w'=>∃ v1 v2,r=.returned (.agg (enC e v1 v2))∧w'.ownsRow w.heap.size 116 2 v1 F1.length (ocells F1)∧w'.ownsRow w.heap.size 116 2 v2 F2.length (ocells F2)∧Ap v1 v2∧Below w.heap.size w w':=by
  have HH:=hide (And.intro h1 h2);clear h1 h2;obtain ⟨n1,e1⟩:∃ n,F1.length=n:=⟨_,rfl⟩;obtain ⟨n2,e2⟩:∃ n,F2.length=n:=⟨_,rfl⟩;rw [e1] at HH l1 ⊢;rw [e2] at HH l2 ⊢;have hst:=start2r w (.cells (enC e (.slice x1 n1 y1) (.slice x2 n2 y2)) 29) (.cells enZ 29);have HST:=hide hst;clear hst;obtain ⟨A,hA⟩:∃ A,w.heap.size=A:=⟨_,rfl⟩;go_enter func87,ntmps87
  go_upto_region 1 with fail
  refine gen_world (fun z=>z.heap[A]?=some (.cells (enC e (.slice x1 n1 y1) (.slice x2 n2 y2)) 29)∧z.heap[A+1]?=some (.cells enZ 29)∧Below A w z) ?_ ?_
  · obtain ⟨_,b,c,d⟩:=uh HST
    rw [hA] at b c d;exact ⟨b,c,d⟩
  clear HST;rintro z ⟨za,zb,zl⟩;have hzA:A+1<z.heap.size:=(ge.1 zb).1;have bz:Below z.heap.size z (z.alloc (.cells #[] 116)):=(Below.refl _ _).alloc (Nat.le_refl _) _;have za1:=(bz.block A (by omega)).trans za;have c17:(z.alloc (.cells #[] 116)).cell? ⟨A,17,none⟩=some (.slice x1 n1 y1):=by rw [cr za1];rfl
  have hzs:A+1+1≤z.heap.size:=hzA;have HO:=hide (madeO z);have HZ:=hide (And.intro za (And.intro zb zl));have HM:Hid (HoldsO (z.alloc (.cells #[] 116)) (.slice x1 n1 y1) F1):=hide (((uh HH).1.below zl hA.symm).below bz rfl);clear za zb za1 bz
  go_upto_region 2 with (first
    | (at_builtin;refine append_od rfl _ _ rfl z.heap.size (.slice (some ⟨z.heap.size,0,none⟩) 0 0) (.slice x1 n1 y1) [] F1 rfl rfl (uh HO) (uh HM) (Nat.zero_le _) (by omega) (by simp) ?_;rintro v6 w6 ho6 hg6
       have a6:=(hg6.block A (by simp;omega) (fun e=>by have e':_=z.heap.size:=Option.some.inj e;omega)).trans ((Below.heap_alloc _ _ _ (by omega)).trans (uh HZ).1);have b6:=(hg6.block (A+1) (by simp;omega) (fun e=>by have e':_=z.heap.size:=Option.some.inj e;omega)).trans ((Below.heap_alloc _ _ _ (by omega)).trans (uh HZ).2.1);have k6:w6.cell? ⟨A,17,none⟩=some (.slice x1 n1 y1):=by rw [cr a6];rfl
       have f6:w6.frozen? ⟨A,17,none⟩=false:=frz a6 17;have H6:=hide (And.intro a6 (And.intro b6 (And.intro ho6 hg6)));obtain ⟨a0,c0,hv6⟩:=own_form ho6;rw [List.nil_append,e1] at hv6;subst hv6;clear a6 b6 ho6 hg6))
  refine gen_world (fun q=>q.heap[A]?=some (.cells (enC e (.slice a0 n1 c0) (.slice x2 n2 y2)) 29)∧q.heap[A+1]?=some (.cells enZ 29)∧q.ownsRow z.heap.size 116 2 (.slice a0 n1 c0) n1 (ocells F1)∧Below A w q) ?_ ?_
  · obtain ⟨a6,b6,ho6,hg6⟩:=uh H6
    rw [List.nil_append,e1] at ho6;have hno:(Value.slice a0 n1 c0).ownBlock≠some A:=fun e=>by have:=(ho6.lt A e).1;omega
    have hk:∀ k,k≠A→(w6.setCell ⟨A,17,none⟩ (.slice a0 n1 c0)).heap[k]?=w6.heap[k]?:=fun k hk=>heap_setCell_other w6 _ _ _ hk
    refine ⟨heap_setCell_same w6 A 17 _ _ (.slice a0 n1 c0) a6,(hk (A+1) (by omega)).trans b6,own_other ho6 fun g hg=>hk g fun e=>hno (e ▸ hg),?_⟩;refine Below.setCell (p:=⟨A,17,none⟩) ?_ (Nat.le_refl _) _;have hl:=(uh HZ).2.2;exact ⟨hg6.os.trans hl.os,hg6.tape.trans hl.tape,hg6.output.trans hl.output,Nat.le_trans (Nat.le_trans hl.size (by simp)) hg6.size,fun b (hb:b<A)=>(hg6.block b (by simp;omega) (fun e=>by have e':_=z.heap.size:=Option.some.inj e;omega)).trans ((Below.heap_alloc _ _ _ (by omega)).trans (hl.block b hb))⟩
  clear H6 HZ HO HM c17 k6 f6 hzA zl;rintro q ⟨qa,qb,qo,ql⟩;have hqA:A+1<q.heap.size:=(ge.1 qb).1;have bq:Below q.heap.size q (q.alloc (.cells #[] 116)):=(Below.refl _ _).alloc (Nat.le_refl _) _;have qa1:=(bq.block A (by omega)).trans qa;have c18:(q.alloc (.cells #[] 116)).cell? ⟨A,18,none⟩=some (.slice x2 n2 y2):=by rw [cr qa1];rfl
  have HO:=hide (madeO q);have HZ:=hide (And.intro qa (And.intro qb (And.intro qo ql)));have HM:Hid (HoldsO (q.alloc (.cells #[] 116)) (.slice x2 n2 y2) F2):=hide (((uh HH).2.below ql hA.symm).below bq rfl);clear qa qb qa1 bq qo
  go_upto_region 3 with (first
    | (at_builtin;refine append_od rfl _ _ rfl q.heap.size (.slice (some ⟨q.heap.size,0,none⟩) 0 0) (.slice x2 n2 y2) [] F2 rfl rfl (uh HO) (uh HM) (Nat.zero_le _) (by omega) (by simp) ?_;rintro v6 w6 ho6 hg6
       have a6:=(hg6.block A (by simp;omega) (fun e=>by have e':_=q.heap.size:=Option.some.inj e;omega)).trans ((Below.heap_alloc _ _ _ (by omega)).trans (uh HZ).1);have b6:=(hg6.block (A+1) (by simp;omega) (fun e=>by have e':_=q.heap.size:=Option.some.inj e;omega)).trans ((Below.heap_alloc _ _ _ (by omega)).trans (uh HZ).2.1);have k6:w6.cell? ⟨A,18,none⟩=some (.slice x2 n2 y2):=by rw [cr a6];rfl
       have f6:w6.frozen? ⟨A,18,none⟩=false:=frz a6 18;have H6:=hide (And.intro a6 (And.intro b6 (And.intro ho6 hg6)));obtain ⟨a2,c2,hv6⟩:=own_form ho6;rw [List.nil_append,e2] at hv6;subst hv6;clear a6 b6 ho6 hg6))
  refine gen_world (fun u=>u.heap[A]?=some (.cells (enC e (.slice a0 n1 c0) (.slice a2 n2 c2)) 29)∧u.heap[A+1]?=some (.cells enZ 29)∧u.ownsRow (A+1+1) 116 2 (.slice a0 n1 c0) n1 (ocells F1)∧u.ownsRow (A+1+1) 116 2 (.slice a2 n2 c2) n2 (ocells F2)∧Ap (.slice a0 n1 c0) (.slice a2 n2 c2)∧Below A w u) ?_ ?_
  · obtain ⟨a6,b6,ho6,hg6⟩:=uh H6
    obtain ⟨_,_,qo,hl⟩:=uh HZ;rw [List.nil_append,e2] at ho6;have hno:(Value.slice a2 n2 c2).ownBlock≠some A:=fun e=>by have:=(ho6.lt A e).1;omega
    have hn1:∀ g,(Value.slice a0 n1 c0).ownBlock=some g→A+1+1≤g∧g<q.heap.size:=fun g hg=>⟨by have:=(qo.lt g hg).1;omega,(qo.lt g hg).2⟩
    have hk:∀ k,k≠A→(w6.setCell ⟨A,18,none⟩ (.slice a2 n2 c2)).heap[k]?=w6.heap[k]?:=fun k hk=>heap_setCell_other w6 _ _ _ hk
    have o1:w6.ownsRow z.heap.size 116 2 (.slice a0 n1 c0) n1 (ocells F1):=own_other qo fun g hg=>(hg6.block g (by have:=(hn1 g hg).2;simp;omega) (fun e=>by have e':_=q.heap.size:=Option.some.inj e;have:=(hn1 _ hg).2;omega)).trans (Below.heap_alloc _ _ _ (hn1 g hg).2)
    refine ⟨heap_setCell_same w6 A 18 _ _ (.slice a2 n2 c2) a6,(hk (A+1) (by omega)).trans b6,own_mono (own_other o1 fun g hg=>hk g fun e=>by have:=(hn1 g hg).1;omega) hzs,own_mono (own_other ho6 fun g hg=>hk g fun e=>hno (e ▸ hg)) (by omega),fun g hg e=>by have h1:=(hn1 g hg).2;have h2:=(ho6.lt g e).1;omega,?_⟩;refine Below.setCell (p:=⟨A,18,none⟩) ?_ (Nat.le_refl _) _;exact ⟨hg6.os.trans hl.os,hg6.tape.trans hl.tape,hg6.output.trans hl.output,Nat.le_trans (Nat.le_trans hl.size (by simp)) hg6.size,fun b (hb:b<A)=>(hg6.block b (by simp;omega) (fun e=>by have e':_=q.heap.size:=Option.some.inj e;omega)).trans ((Below.heap_alloc _ _ _ (by omega)).trans (hl.block b hb))⟩
  clear H6 HZ HO HM c18 k6 f6 hqA ql;rintro u ⟨ua,ub,uo1,uo2,uap,ul⟩;have hall:=enC_all e a0 a2 n1 n2 c0 c2;have HU:=hide (And.intro ua (And.intro ub (And.intro uo1 (And.intro uo2 (And.intro uap ul)))));clear ua ub uo1 uo2 uap ul;apply wp_region_lit
  refine wpList_load_row rfl 29 (.tmp 1) rfl A rfl 29 (enC e (.slice a0 n1 c0) (.slice a2 n2 c2)) (0,0) _ (uh HU).1 underlying29 rfl infoE ?_;refine wpList_store_rowTo rfl 29 (.tmp 2) (.tmp 13) rfl rfl (A+1) (enC e (.slice a0 n1 c0) (.slice a2 n2 c2)) rfl rfl 29 enZ (uh HU).2.1 infoE rfl hall ?_;apply wpList_nil
  simp only [Act.put,List.setIfInBounds_toArray,List.set_cons_zero,List.set_cons_succ];go_wp2
  refine bodyPost_ret (v:=.agg (enC e (.slice a0 n1 c0) (.slice a2 n2 c2))) (by simp [results,results87,asAddr,loadEn (setRow_heap u (A+1) _ (enC e (.slice a0 n1 c0) (.slice a2 n2 c2)) _ _ (uh HU).2.1)]) rfl ?_;obtain ⟨ua,ub,uo1,uo2,uap,ul⟩:=uh HU;rw [hA];exact ⟨_,_,rfl,own_mono (own_other uo1 fun g hg=>setRow_ne u (A+1) g _ fun e=>by have:=(uo1.lt g hg).1;omega) (by omega),own_mono (own_other uo2 fun g hg=>setRow_ne u (A+1) g _ fun e=>by have:=(uo2.lt g hg).1;omega) (by omega),uap,below_row ul (by omega) _⟩
end Go.Proofs.YtahpjlbaagkdoaaGreatDoor
namespace Go.Proofs.YtahpjlbaagkdoaaGreatDoor
open Go.RowKit Go.Proofs.Tryz
theorem ptV_size (c:Cx) (h:c.cd.size≤250):(ptV ⟨c.cc,c.ci,c.cd⟩).size≤100000:=by
  cases hk:Op.pok ⟨c.cc,c.ci,c.cd⟩
  · rw [ptV_no hk];decide
  · rw [ptV_yes hk,ByteArray.size_append]
    have e:(txt (Op.phead ⟨c.cc,c.ci,c.cd⟩)).size=(Op.phead ⟨c.cc,c.ci,c.cd⟩).length:=by unfold txt;show (Op.phead ⟨c.cc,c.ci,c.cd⟩).toArray.size=_;simp
    have e2:(Op.phead ⟨c.cc,c.ci,c.cd⟩).length=4:=rfl;rw [e,e2];show 4+c.cd.size≤100000
    omega
section
variable {w0 w1:World} {B:Nat} {c:Cx} {s:St} {v1 v2 vs vt:Value} {q:World}
theorem Lay.new2 {T:TypeId} {q':World} (h:Lay T w0 w1 B c s v1 v2 vs vt q) (hb:Below q.heap.size q q') (v:Value) (F:List Op.Opt) (ho:q'.ownsRow q.heap.size 116 2 v F.length (ocells F)):Lay T w0 w1 B c { s with F2:=F } v1 v vs vt (q'.setCell ⟨B,18,none⟩ v):=by
  have h':=h.step hb;have hr:=heap_setCell_same q' B 18 _ _ v h'.row;rw [List.setIfInBounds_toArray] at hr;have hk:∀ k,k≠B→(q'.setCell ⟨B,18,none⟩ v).heap[k]?=q'.heap[k]?:=fun k hk=>heap_setCell_other q' _ _ _ hk
  have hs:=h.low.size;refine ⟨hr,own_other h'.o1 fun g hg=>hk g fun e=>own_ty h'.o1 h'.row h.tt.1 (e ▸ hg),own_other (own_mono ho hs) fun g hg=>hk g fun e=>?_,own_other h'.os fun g hg=>hk g fun e=>own_ty h'.os h'.row h.tt.2.1 (e ▸ hg),own_other h'.ot fun g hg=>hk g fun e=>own_ty h'.ot h'.row h.tt.2.2 (e ▸ hg),own_other h'.oh fun g hg=>hk g fun e=>own_ty h'.oh h'.row h.tt.1 (e ▸ hg),hold_ty h'.ha h'.row h.tt.1 fun k _=>hk k,h.hB,h.tt,fun g hg e=>?_,h.aph,h.lo,h'.nr.setCell 18 v⟩
  · exact own_ty ho h'.row h.tt.1 (e ▸ hg)
  · have h1:=(ho.lt g e).1
    have h2:=(h.o1.lt g hg).2;omega
theorem upC_wk (c:Cx) (e:En) (L1 L2:Ln) (v1 v2 vs vt:Value):upC L1 L2 (wkC c e v1 v2 vs vt)=wkC c (upE L1 L2 e) v1 v2 vs vt:=by
  unfold upC wkC upE;simp only [List.set_cons_zero,List.set_cons_succ]
theorem sUp (h:Lay 89 w0 w1 B c s v1 v2 vs vt q) {n:Nat} (hf:Fit n c s) :
    Calls prog 127 #[.pointer (some ⟨B,0,none⟩),.bool true] q fun r q'=>r=.returned (.tuple #[])∧Lay 89 w0 w1 B c { s with e:=upE (lineOf s.F1) (lineOf s.F2) s.e } v1 v2 vs vt q':=by
  obtain ⟨a1,p1,e1⟩:=own_form h.o1;obtain ⟨a2,p2,e2⟩:=own_form h.o2;subst e1 e2;have l20:∀ F,opOk F=true→F.length≤maxLen:=fun F hF=>by
    have:=opOk_right hF
    unfold Op.right at this;rw [Bool.and_eq_true] at this;have:=of_decide_eq_true this.1
    unfold maxLen;omega
  have n1:nb s.F1.length (.slice a1 s.F1.length p1)≠some B:=fun e=>own_ty h.o1 h.row h.tt.1 (by unfold nb at e;split at e;cases e;exact e)
  have n2:nb s.F2.length (.slice a2 s.F2.length p2)≠some B:=fun e=>own_ty h.o2 h.row h.tt.1 (by unfold nb at e;split at e;cases e;exact e)
  refine (wkUp B (wkC c s.e _ _ vs vt) a1 a2 p1 p2 s.F1 s.F2 q rfl h.row rfl rfl (l20 _ hf.f1) (l20 _ hf.f2) (HoldsO.own h.o1) (HoldsO.own h.o2) n1 n2).mono ?_;rintro r q' ⟨h1,h2,h3⟩;rw [upC_wk] at h2;exact ⟨h1,h.ofNr h2 h3⟩
theorem sSta (h:Lay 89 w0 w1 B c s v1 v2 vs vt q) {n:Nat} (hf:Fit n c s) (hn:n≤1000) :
    Calls prog 90 #[.pointer (some ⟨B,0,none⟩),.string nSta] q fun r q'=>r=.returned (.tuple #[])∧∃ v1 v2 vs vt,Lay 89 w0 w1 B c (doSta c s) v1 v2 vs vt q':=by
  have c32:=h.cell (i:=32) rfl;have HF:=hide hf;have HL:=hide h;clear h hf;go_enter func90,ntmps90
  go_wp2_with fail
  refine (sPut (uh HL) (Nat.le_trans (uh HF).sn hn) 6 _ _).mono ?_;rintro r q1 ⟨rfl,vs1,h1⟩;go_wp2
  exact Great.bodyPost_end0 rfl rfl ⟨rfl,_,_,_,_,h1⟩
theorem sTlu (h:Lay 89 w0 w1 B c s v1 v2 vs vt q) {n:Nat} (hf:Fit n c s) (hn:n≤1000) :
    Calls prog 90 #[.pointer (some ⟨B,0,none⟩),.string nTlu] q fun r q'=>r=.returned (.tuple #[])∧∃ v1 v2 vs vt,Lay 89 w0 w1 B c (doTlu s) v1 v2 vs vt q':=by
  have HF:=hide hf;have HL0:=hide h;clear h hf;go_enter func90,ntmps90
  go_wp2_with fail
  refine (sUp (uh HL0) (uh HF)).mono ?_;rintro r q1 ⟨rfl,h⟩;have c38:=h.cell (i:=38) rfl;obtain ⟨ad,cp,rfl⟩:=own_form h.ot;have hno:s.tl.length≤1000:=Nat.le_trans (uh HF).tl hn;obtain ⟨k,hnn⟩:∃ k,s.tl.length=k:=⟨_,rfl⟩;have ho:=h.ot;dsimp only at c38 ho h;rw [hnn] at c38 ho hno h;have HO:=hide ho;have HL:=hide h;clear h ho HF HL0
  go_wp2_with (first
    | (at_builtin;refine append_txt rfl _ _ rfl w1.heap.size (.slice ad k cp) s.tl k hnn rfl (uh HO) nTlu rfl (by omega) (uh HL).nr.size ?_;rintro v6 w6 ho6 hg6;obtain ⟨a6,c6,rfl⟩:=own_form ho6
       have e6:=(hg6.block B (Nat.lt_of_lt_of_le (uh HL).lt (by simp)) (fun e=>(own_ty (uh HL).ot (uh HL).row (uh HL).tt.2.2) e.symm)).trans ((Below.heap_alloc _ _ _ (uh HL).lt).trans (uh HL).row);have k6:w6.cell? ⟨B,38,none⟩=some (.slice ad k cp):=by rw [cr e6];rfl
       have f6:w6.frozen? ⟨B,38,none⟩=false:=frz e6 38;clear e6))
  refine Great.bodyPost_end0 rfl rfl ⟨rfl,_,_,_,_,(uh HL).say _ hg6 _ _ ?_⟩;rw [List.length_append,hnn];exact ho6
theorem sScj (h:Lay 89 w0 w1 B c s v1 v2 vs vt q) {n:Nat} (hf:Fit n c s) (hn:n≤1000) :
    Calls prog 90 #[.pointer (some ⟨B,0,none⟩),.string nScj] q fun r q'=>r=.returned (.tuple #[])∧∃ v1 v2 vs vt,Lay 89 w0 w1 B c (doScj (cameT c) s) v1 v2 vs vt q':=by
  have HF:=hide hf;have hpt:=ptV_size c (uh HF).cd;have HL1:=hide h;clear h hf;go_enter func90,ntmps90
  go_upto_region 26 with fail
  refine gen_world (fun z=>Lay 89 w0 w1 B c s v1 v2 vs vt z) ?_ ?_
  · exact uh HL1
  clear HL1;rintro z hz;have c31:=hz.cell (i:=31) rfl;have c32:=hz.cell (i:=32) rfl;have c33:=hz.cell (i:=33) rfl;have HZ:=hide (hz.step (Below.refl _ _).drew);clear hz;refine wp_region_held_drew (S:=fun z=>z.cell? ⟨B,31,none⟩=some (.int .i64 c.cc)∧z.cell? ⟨B,32,none⟩=some (.int .i64 c.ci)∧z.cell? ⟨B,33,none⟩=some (.string c.cd)) (by kernel_rfl) ?_ (fun hHeld=>?_)
  · exact ⟨c31,c32,c33⟩
  refine t2 0 ?_;refine t2 1 ?_;refine t2 3 ?_;refine t2 4 ?_;refine t2 5 ?_;refine t2 6 ?_;refine r1 2 rfl (fun K hK=>?_);go_simp;refine (sNext (uh HZ) (uh HF).id).mono ?_;rintro r z1 ⟨rfl,h1⟩;have HZ1:=hide h1;clear h1;go_wp2_with fail
  refine ro hK ?_ fun _=>?_
  · exact ⟨(uh HZ1).cell (i:=31) rfl,(uh HZ1).cell (i:=32) rfl,(uh HZ1).cell (i:=33) rfl⟩
  clear hK K;refine r1 7 rfl (fun K hK=>?_);go_simp;refine (specPkBytes ⟨c.cc,c.ci,c.cd⟩ _).mono ?_;rintro r z2 ⟨rfl,hb⟩;have HZ2:=hide ((uh HZ1).step hb);clear hb;go_wp2_with fail
  refine ro hK ?_ fun _=>?_
  · exact ⟨(uh HZ2).cell (i:=31) rfl,(uh HZ2).cell (i:=32) rfl,(uh HZ2).cell (i:=33) rfl⟩
  clear hK K;refine r1 8 rfl (fun K hK=>?_);go_simp;refine (specFirst (ptV ⟨c.cc,c.ci,c.cd⟩) _ hpt).mono ?_;rintro r z3 ⟨rfl,hws⟩;replace hws:=hws.symm;subst hws;go_wp2_with fail
  refine ro hK ?_ fun _=>?_
  · exact ⟨(uh HZ2).cell (i:=31) rfl,(uh HZ2).cell (i:=32) rfl,(uh HZ2).cell (i:=33) rfl⟩
  clear hK K;refine r1 9 rfl (fun K hK=>?_);go_simp;refine (sPut (uh HZ2) (Nat.le_trans (uh HF).sn hn) 7 _ _).mono ?_;rintro r z4 ⟨rfl,vs4,h4⟩;have HP:=hide h4;clear h4;go_wp2_with fail
  refine ro hK ?_ fun _=>?_
  · exact ⟨(uh HP).cell (i:=31) rfl,(uh HP).cell (i:=32) rfl,(uh HP).cell (i:=33) rfl⟩
  clear hK K;refine dn ?_ _;go_wp2_with fail
  exact Great.bodyPost_end0 rfl rfl ⟨rfl,_,_,_,_,uh HP⟩
theorem sScn (h:Lay 89 w0 w1 B c s v1 v2 vs vt q) {n:Nat} (hf:Fit n c s) (hn:n≤1000) :
    Calls prog 90 #[.pointer (some ⟨B,0,none⟩),.string nScn] q fun r q'=>r=.returned (.tuple #[])∧∃ v1 v2 vs vt,Lay 89 w0 w1 B c (doScn c s) v1 v2 vs vt q':=by
  have HF:=hide hf;obtain ⟨a9,p9,hva⟩:=h.ha.form;have hbz:(txt (Op.bytes c.ao)).size=(Op.bytes c.ao).length:=by unfold txt;show (Op.bytes c.ao).toArray.size=_;simp
  have hb250:(Op.bytes c.ao).length≤250:=by have:=hf.ao;unfold opOk at this;rw [Bool.and_eq_true] at this;exact of_decide_eq_true this.2
  have hfirst:first250 (txt (Op.bytes c.ao))=txt (Op.bytes c.ao):=by unfold first250;rw [if_neg (by rw [hbz];omega)]
  have c35:=h.cell (i:=35) rfl;have c16:=h.cell (i:=16) rfl;have f16:=h.frz 16;have HL:=hide h;clear h hf;go_enter func90,ntmps90
  by_cases hac:c.ac=3
  · have HS:doScn c s=putS ({ s with e:={ s.e with fl:=min 3 (s.e.fl+1) } }) c.ac c.ci (txt (Op.bytes c.ao)):=by unfold doScn putS;rw [if_pos hac]
    have hac2:(c.ac == 3)=true:=by simpa using hac
    have CM:=hide fun W=>specMin3 (s.e.fl+1) W
    have hfl:=(uh HF).fl;have HL1:=hide ((uh HL).setRaw 16 (.int .i64 (min 3 (s.e.fl+1))) { s.e with fl:=min 3 (s.e.fl+1) } rfl);generalize hmm:min 3 (s.e.fl+1)=mm at *;go_upto_region 22 with (first | (go_at_call 124;refine (uh CM _).mono ?_;rintro r ws ⟨rfl,hws⟩;replace hws:=hws.symm;subst hws))
    refine gen_world (fun z=>Lay 89 w0 w1 B c ({ s with e:={ s.e with fl:=mm } }) v1 v2 vs vt z) ?_ ?_
    · exact uh HL1
    clear HL1 HL c16 f16 c35;rintro z hz;have c32:=hz.cell (i:=32) rfl;have c35:=hz.cell (i:=35) rfl;have c36:=hz.cell (i:=36) (congrArg some hva);have HZ:=hide (hz.step (Below.refl _ _).drew);clear hz;refine wp_region_held_drew (S:=fun z=>z.cell? ⟨B,32,none⟩=some (.int .i64 c.ci)∧z.cell? ⟨B,35,none⟩=some (.int .i64 c.ac)∧z.cell? ⟨B,36,none⟩=some (.slice a9 c.ao.length p9)) (by kernel_rfl) ?_ (fun hHeld=>?_)
    · exact ⟨c32,c35,c36⟩
    refine t2 0 ?_;refine t2 1 ?_;refine t2 2 ?_;refine t2 3 ?_;refine t2 4 ?_;refine t2 5 ?_;refine t2 6 ?_;refine t2 7 ?_;refine t2 8 ?_;refine t2 9 ?_;refine t2 10 ?_;refine t2 11 ?_;refine t2 12 ?_;refine t2 13 ?_;refine t2 14 ?_;refine t2 15 ?_;refine r1 16 rfl (fun K hK=>?_);go_simp;refine (specL04 _ c.ao _ (opOk_right (uh HF).ao) (hva ▸ (uh HZ).ha)).mono ?_;rintro r z2 ⟨rfl,hb⟩;have HZ2:=hide ((uh HZ).step hb);clear hb;go_wp2_with fail
    refine ro hK ?_ fun _=>?_
    · exact ⟨(uh HZ2).cell (i:=32) rfl,(uh HZ2).cell (i:=35) rfl,(uh HZ2).cell (i:=36) (congrArg some hva)⟩
    clear hK K;refine r1 17 rfl (fun K hK=>?_);go_simp;refine (specFirst (txt (Op.bytes c.ao)) _ (by rw [hbz];omega)).mono ?_;rintro r z3 ⟨rfl,hws⟩;replace hws:=hws.symm;subst hws;go_wp2_with fail
    refine ro hK ?_ fun _=>?_
    · exact ⟨(uh HZ2).cell (i:=32) rfl,(uh HZ2).cell (i:=35) rfl,(uh HZ2).cell (i:=36) (congrArg some hva)⟩
    clear hK K;refine r1 18 rfl (fun K hK=>?_);go_simp;refine (sPut (uh HZ2) (Nat.le_trans (uh HF).sn hn) _ _ _).mono ?_;rintro r z4 ⟨rfl,vs4,h4⟩;have HP:=hide h4;clear h4;go_wp2_with fail
    refine ro hK ?_ fun _=>?_
    · exact ⟨(uh HP).cell (i:=32) rfl,(uh HP).cell (i:=35) rfl,(uh HP).cell (i:=36) (congrArg some hva)⟩
    clear hK K;refine dn ?_ _;go_wp2_with fail
    exact Great.bodyPost_end0 rfl rfl ⟨rfl,_,_,_,_,(by rw [HS,hac];exact uh HP)⟩
  · have HS:doScn c s=putS (s) c.ac c.ci (txt (Op.bytes c.ao)):=by unfold doScn putS;rw [if_neg hac]
    have hac2:(c.ac == 3)=false:=beq_eq_false_iff_ne.2 hac;have HL1:=HL;go_upto_region 22 with fail
    refine gen_world (fun z=>Lay 89 w0 w1 B c (s) v1 v2 vs vt z) ?_ ?_
    · exact uh HL1
    clear HL1 HL c16 f16 c35;rintro z hz;have c32:=hz.cell (i:=32) rfl;have c35:=hz.cell (i:=35) rfl;have c36:=hz.cell (i:=36) (congrArg some hva);have HZ:=hide (hz.step (Below.refl _ _).drew);clear hz;refine wp_region_held_drew (S:=fun z=>z.cell? ⟨B,32,none⟩=some (.int .i64 c.ci)∧z.cell? ⟨B,35,none⟩=some (.int .i64 c.ac)∧z.cell? ⟨B,36,none⟩=some (.slice a9 c.ao.length p9)) (by kernel_rfl) ?_ (fun hHeld=>?_)
    · exact ⟨c32,c35,c36⟩
    refine t2 0 ?_;refine t2 1 ?_;refine t2 2 ?_;refine t2 3 ?_;refine t2 4 ?_;refine t2 5 ?_;refine t2 6 ?_;refine t2 7 ?_;refine t2 8 ?_;refine t2 9 ?_;refine t2 10 ?_;refine t2 11 ?_;refine t2 12 ?_;refine t2 13 ?_;refine t2 14 ?_;refine t2 15 ?_;refine r1 16 rfl (fun K hK=>?_);go_simp;refine (specL04 _ c.ao _ (opOk_right (uh HF).ao) (hva ▸ (uh HZ).ha)).mono ?_;rintro r z2 ⟨rfl,hb⟩;have HZ2:=hide ((uh HZ).step hb);clear hb;go_wp2_with fail
    refine ro hK ?_ fun _=>?_
    · exact ⟨(uh HZ2).cell (i:=32) rfl,(uh HZ2).cell (i:=35) rfl,(uh HZ2).cell (i:=36) (congrArg some hva)⟩
    clear hK K;refine r1 17 rfl (fun K hK=>?_);go_simp;refine (specFirst (txt (Op.bytes c.ao)) _ (by rw [hbz];omega)).mono ?_;rintro r z3 ⟨rfl,hws⟩;replace hws:=hws.symm;subst hws;go_wp2_with fail
    refine ro hK ?_ fun _=>?_
    · exact ⟨(uh HZ2).cell (i:=32) rfl,(uh HZ2).cell (i:=35) rfl,(uh HZ2).cell (i:=36) (congrArg some hva)⟩
    clear hK K;refine r1 18 rfl (fun K hK=>?_);go_simp;refine (sPut (uh HZ2) (Nat.le_trans (uh HF).sn hn) _ _ _).mono ?_;rintro r z4 ⟨rfl,vs4,h4⟩;have HP:=hide h4;clear h4;go_wp2_with fail
    refine ro hK ?_ fun _=>?_
    · exact ⟨(uh HP).cell (i:=32) rfl,(uh HP).cell (i:=35) rfl,(uh HP).cell (i:=36) (congrArg some hva)⟩
    clear hK K;refine dn ?_ _;go_wp2_with fail
    exact Great.bodyPost_end0 rfl rfl ⟨rfl,_,_,_,_,(by rw [HS];exact uh HP)⟩
theorem sSca (h:Lay 89 w0 w1 B c s v1 v2 vs vt q) {n:Nat} (hf:Fit n c s) (hn:n≤1000) :
    Calls prog 90 #[.pointer (some ⟨B,0,none⟩),.string nSca] q fun r q'=>r=.returned (.tuple #[])∧∃ v1 v2 vs vt,Lay 89 w0 w1 B c (doSca c s) v1 v2 vs vt q':=by
  have HF:=hide hf;obtain ⟨a9,p9,hva⟩:=h.ha.form;obtain ⟨a8,p8,hvh⟩:=h.hh.form;have hb0:Below q.heap.size q (q.alloc (.cells #[] 116)):=(Below.refl _ _).alloc (Nat.le_refl _) _;have h0:=h.step hb0;have c34:(q.alloc (.cells #[] 116)).cell? ⟨B,34,none⟩=some (.slice a8 c.hd.length p8):=h0.cell (i:=34) (congrArg some hvh);have hh0:HoldsO (q.alloc (.cells #[] 116)) (.slice a8 c.hd.length p8) c.hd:=hvh ▸ h0.hh;have hlen:c.hd.length≤20:=by have:=opOk_right hf.hd;unfold Op.right at this;rw [Bool.and_eq_true] at this;exact of_decide_eq_true this.1
  have HO:=hide (madeO q);have HM:=hide hh0;have HL:=hide h;have hBl:=h.lt;clear h hf h0 hb0 hh0;go_enter func90,ntmps90
  go_upto_region 18 with (first
    | (at_builtin;refine append_od rfl _ _ rfl q.heap.size (.slice (some ⟨q.heap.size,0,none⟩) 0 0) (.slice a8 c.hd.length p8) [] c.hd rfl rfl (uh HO) (uh HM) (Nat.zero_le _) (by omega) (by simp) ?_;rintro v6 w6 ho6 hg6
       obtain ⟨a6,c6,hv6⟩:=own_form ho6;rw [List.nil_append] at hv6 ho6;subst hv6;have hb6:Below q.heap.size q w6:=⟨hg6.os,hg6.tape,hg6.output,Nat.le_trans (by simp) hg6.size,fun b hb=>(hg6.block b (by simp;omega) (fun e=>by have e':b=q.heap.size:=Option.some.inj e;omega)).trans (Below.heap_alloc _ _ _ hb)⟩;have h6:=(uh HL).step hb6;have k18:=h6.cell (i:=18) rfl;have f18:=h6.frz 18;have h7:=(uh HL).new2 hb6 _ c.hd ho6;have k16:=h7.cell (i:=16) rfl;have f16:=h7.frz 16;have HL1:=hide (h7.setRaw 16 (.int .i64 0) { s.e with fl:=0 } rfl);clear h6 h7 hb6 ho6 hg6))
  refine gen_world (fun z=>Lay 89 w0 w1 B c { s with e:={ s.e with fl:=0 },F2:=c.hd } v1 (.slice a6 c.hd.length c6) vs vt z) ?_ ?_
  · exact uh HL1
  clear HL1 c34 k18 f18 k16 f16;rintro z hz;have c32:=hz.cell (i:=32) rfl;have c36:=hz.cell (i:=36) (congrArg some hva);have HZ:=hide (hz.step (Below.refl _ _).drew);clear hz;refine wp_region_held_drew (S:=fun z=>z.cell? ⟨B,32,none⟩=some (.int .i64 c.ci)∧z.cell? ⟨B,36,none⟩=some (.slice a9 c.ao.length p9)) (by kernel_rfl) ?_ (fun hHeld=>?_)
  · exact ⟨c32,c36⟩
  refine t2 0 ?_;refine t2 1 ?_;refine t2 2 ?_;refine t2 3 ?_;refine t2 4 ?_;refine t2 5 ?_;refine t2 6 ?_;refine t2 7 ?_;refine t2 8 ?_;refine t2 9 ?_;refine t2 10 ?_;refine r1 11 rfl (fun K hK=>?_);go_simp;refine (specL04 _ c.ao _ (opOk_right (uh HF).ao) (hva ▸ (uh HZ).ha)).mono ?_;rintro r z2 ⟨rfl,hb⟩;have HZ2:=hide ((uh HZ).step hb);clear hb;go_wp2_with fail
  refine ro hK ?_ fun _=>?_
  · exact ⟨(uh HZ2).cell (i:=32) rfl,(uh HZ2).cell (i:=36) (congrArg some hva)⟩
  clear hK K;refine r1 12 rfl (fun K hK=>?_);go_simp;refine (sPut (uh HZ2) (Nat.le_trans (uh HF).sn hn) 2 _ _).mono ?_;rintro r z4 ⟨rfl,vs4,h4⟩;have HP:=hide h4;clear h4;go_wp2_with fail
  refine ro hK ?_ fun _=>?_
  · exact ⟨(uh HP).cell (i:=32) rfl,(uh HP).cell (i:=36) (congrArg some hva)⟩
  clear hK K;refine dn ?_ _;go_wp2_with fail
  exact Great.bodyPost_end0 rfl rfl ⟨rfl,_,_,_,_,uh HP⟩
theorem sSer (h:Lay 89 w0 w1 B c s v1 v2 vs vt q) {n:Nat} (hf:Fit n c s) (hn:n≤1000) :
    Calls prog 90 #[.pointer (some ⟨B,0,none⟩),.string nSer] q fun r q'=>r=.returned (.tuple #[])∧∃ v1 v2 vs vt,Lay 89 w0 w1 B c (doSer c s) v1 v2 vs vt q':=by
  have HF:=hide hf;have b31:=h.cell (i:=31) rfl;have b33:=h.cell (i:=33) rfl;obtain ⟨_,_,e3⟩:=cfgNat hf.ask;have CP:=hide fun W=>sput4 s.e.g2.toNat W
  rw [e3] at CP;have hcd:=hf.cd;have HL1:=hide h;clear h hf;go_enter func90,ntmps90
  by_cases hk:c.cc=9∧4≤c.cd.size
  · obtain ⟨k1,k2⟩:=hk
    have HS:doSer c s=putS s 10 c.ci (put4 s.e.g2.toNat ++ c.cd.extract 4 c.cd.size):=by unfold doSer putS;rw [if_pos ⟨k1,k2⟩]
    have d2:(4:Int)≤(c.cd.size:Int):=by omega
    go_upto_region 29 with fail
    refine gen_world (fun z=>Lay 89 w0 w1 B c s v1 v2 vs vt z) ?_ ?_
    · exact uh HL1
    clear HL1 b31 b33;rintro z hz;have c8:=hz.cell (i:=8) rfl;have c32:=hz.cell (i:=32) rfl;have c33:=hz.cell (i:=33) rfl;have HZ:=hide (hz.step (Below.refl _ _).drew);clear hz;refine wp_region_held_drew (S:=fun z=>z.cell? ⟨B,8,none⟩=some (.int .i64 s.e.g2)∧z.cell? ⟨B,32,none⟩=some (.int .i64 c.ci)∧z.cell? ⟨B,33,none⟩=some (.string c.cd)) (by kernel_rfl) ?_ (fun hHeld=>?_)
    · exact ⟨c8,c32,c33⟩
    refine t2 0 ?_;refine t2 1 ?_;refine t2 2 ?_;refine t2 3 ?_;refine t2 4 ?_;refine t2 5 ?_;refine t2 6 ?_;refine t2 7 ?_;refine t2 8 ?_;refine t2 9 ?_;refine t2 10 ?_;refine t2 11 ?_;refine t2 13 ?_;refine t2 14 ?_;refine t2 15 ?_;refine t2 16 ?_;refine t2 17 ?_;refine t2 18 ?_;refine r1 12 rfl (fun K hK=>?_);go_simp;refine (uh CP _).mono ?_;rintro r z2 ⟨rfl,hb⟩;have HZ2:=hide ((uh HZ).step hb);clear hb;go_wp2_with fail
    refine ro hK ?_ fun _=>?_
    · exact ⟨(uh HZ2).cell (i:=8) rfl,(uh HZ2).cell (i:=32) rfl,(uh HZ2).cell (i:=33) rfl⟩
    clear hK K;refine t4 19 (.string (put4 s.e.g2.toNat ++ c.cd.extract 4 c.cd.size)) rfl (Or.inl ⟨by rfl,?hyr19⟩) ?_
    case hyr19 =>
      intro w hSw;go_simp;have hz4:(put4 s.e.g2.toNat).size=4:=rfl;rw [hz4];omega
    try simp only [Act.put,sA,sZ,sS,gA,gZ,gS]
    refine r1 20 rfl (fun K hK=>?_);go_simp;refine (sPut (uh HZ2) (Nat.le_trans (uh HF).sn hn) 10 _ _).mono ?_;rintro r z4 ⟨rfl,vs4,h4⟩;have HP:=hide h4;clear h4;go_wp2_with fail
    refine ro hK ?_ fun _=>?_
    · exact ⟨(uh HP).cell (i:=8) rfl,(uh HP).cell (i:=32) rfl,(uh HP).cell (i:=33) rfl⟩
    clear hK K;refine dn ?_ _;go_wp2_with fail
    exact Great.bodyPost_end0 rfl rfl ⟨rfl,_,_,_,_,(by rw [HS];exact uh HP)⟩
  · have HS:doSer c s=s:=by unfold doSer;rw [if_neg hk]
    by_cases k1:c.cc=9
    · have d2:¬ ((4:Int)≤(c.cd.size:Int)):=fun h=>hk ⟨k1,by omega⟩
      go_wp2
      exact Great.bodyPost_end0 rfl rfl ⟨rfl,_,_,_,_,by first | (rw [HS];exact uh HL1) | exact uh HL1⟩
    · have k2:(c.cc == 9)=false:=beq_eq_false_iff_ne.2 k1
      go_wp2
      exact Great.bodyPost_end0 rfl rfl ⟨rfl,_,_,_,_,by first | (rw [HS];exact uh HL1) | exact uh HL1⟩
end
end Go.Proofs.YtahpjlbaagkdoaaGreatDoor
