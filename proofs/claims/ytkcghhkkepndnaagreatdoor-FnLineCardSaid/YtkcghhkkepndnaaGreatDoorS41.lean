/- The program's LineRun: at every texts, window, script and way of settling what it answers; what lay in memory stands; no condition but those named. -/
import Derived.Test.YtkcghhkkepndnaaGreatDoorS40
import Derived.Laws.CopyOwn
import Derived.Test.YtkcghhkkepndnaaGreatDoorShW
namespace Go.Proofs.YtkcghhkkepndnaaGreatDoor
open Go.RowKit
structure RO where
 gt:List ByteArray
 dn:Bool
 bad:Int
 un:Int
 cd:Int
abbrev roC (v:Value) (dn:Bool) (bad un cd:Int):Array Value:=#[v,.bool dn,.int .i64 bad,.int .i64 un,.int .i64 cd]
def lineO (T:List ByteArray) (wi:Int) (L:List Int) (st:Bool):RO :=
 if 400<T.length∨400<L.length then ⟨[],false,0,0,2⟩
 else if T.length≠0∧qOk T=true∧winOk wi=true then ⟨(lineN T wi L st).b.gt,decide ((lineN T wi L st).a.Q.length=0),(lineN T wi L st).bad,(lineN T wi L st).un,0⟩
 else ⟨[],false,0,0,1⟩
def AnR (o:RO) (w:World) (e:Ending) (w':World):Prop:=∃ v,e=.returned (.agg (roC v o.dn o.bad o.un o.cd))∧w'.ownsRow w.heap.size 9 1 v o.gt.length (scells o.gt)∧Below w.heap.size w w'
theorem AnR.err {w w':World} (k:Int) (hb:Below w.heap.size w w'):AnR ⟨[],false,0,0,k⟩ w (.returned (.agg (roC (.slice none 0 0) false 0 0 k))) w':=⟨_,rfl,World.ownsRow_nil _ _ _ _,hb⟩
theorem infoRo:(Tryz.prog.info? 28).map (·.size)=some 5:=by kernel_rfl
theorem loadRo {W:World} {E:Nat} {cs:Array Value} (h:W.heap[E]?=some (.cells cs 28)) (hs:cs.size=5:=by rfl):(loadVar 28 ⟨E,0,none⟩).run Tryz.prog W=.ok (.agg cs) W :=
 run_loadVar_row (P:=Tryz.prog) _ _ 28 28 cs (0,0) _ h Tryz.underlying28 rfl (by rw [hs];exact infoRo)
theorem roC_all (a:Option Addr) (n c:Nat) (dn:Bool) (x y z:Int):(roC (.slice a n c) dn x y z).all (·.oneCell')=true:=by kernel_rfl
structure Rlo (w:World) (A:Nat) (q:World):Prop where
 z:q.heap[A]?=some (.cells (roC (.slice none 0 0) false 0 0 0) 28)
 l:Below w.heap.size w q
theorem Rlo.step {w:World} {A:Nat} {q q':World} (h:Rlo w A q) (hb:Below q.heap.size q q'):Rlo w A q' :=
 ⟨(hb.block _ (Array.getElem?_eq_some_iff.1 h.z).1).trans h.z,h.l.trans (hb.mono h.l.size)⟩
theorem eq0_dec (n:Nat):((n:Int) == 0)=decide (n=0):=by
 by_cases h:n=0
 ·subst h;rfl
 ·rw [decide_eq_false h]
  exact beq_eq_false_iff_ne.2 (by omega)
theorem yieldsB {P:Program} {ops:Array Oper} {S:World→Prop} {o:Oper} {a:Act} (hw:Region.wanted o (yielded ops a.tmps)=true) (t:TypeId) (parts:Array (Nat × Operand)) (ho:o.op=.build t parts) (cells:Array Value) (h:P.built t (parts.map fun (i,x)=>(i,a.eval x)).toList=some cells):YieldsIf P ops S o (.agg cells) a :=
 .inl ⟨hw,fun w _=>by
  unfold execOp
  simp only [ho,Sem.run_bind,run_build w t _ cells h,Result.andThen_ok,Sem.run_pure]⟩
set_option maxHeartbeats 8000000 in
set_option maxRecDepth 100000 in
set_option linter.unusedSimpArgs false in
theorem iLineRun {w:World} (hT:Lib.Utf8Tabs 0 1 w) {x:Option Addr} {y:Nat} {T:List ByteArray} (hS:HoldsS w (.slice x T.length y) T) (hl1:T.length≤1048576) (wi:Int) {x2:Option Addr} {y2:Nat} {L:List Int} (hL:HoldsI w (.slice x2 L.length y2) L) (hl2:L.length≤1048576) (hR:∀ e ∈ L,e≤9223372036854775807) (st:Bool) :
  Calls Tryz.prog 6 #[.slice x T.length y,.int .i64 wi,.slice x2 L.length y2,.bool st] w fun e w'=>AnR (lineO T wi L st) w e w':=by
 have H0:Rlo w w.heap.size (w.alloc (.cells (roC (.slice none 0 0) false 0 0 0) 28)):=⟨heap_alloc_new w _,(Below.refl _ _).alloc (Nat.le_refl _) _⟩
 have HS:=hide (And.intro hS hL)
 have HT:=hide hT
 clear hS hL hT
 obtain ⟨o,ho⟩:∃ o,lineO T wi L st=o:=⟨_,rfl⟩
 rw [ho]
 obtain ⟨A,eA⟩:∃ A,w.heap.size=A:=⟨_,rfl⟩
 have hXw:w.heap.size≤A:=by omega
 rw [eA] at H0
 have HZ:=hide H0
 clear H0
 obtain ⟨n,hn⟩:∃ n,T.length=n:=⟨_,rfl⟩
 obtain ⟨n2,hn2⟩:∃ n,L.length=n:=⟨_,rfl⟩
 unfold lineO at ho
 rw [hn,hn2] at ho
 rw [hn] at hl1 HS ⊢
 rw [hn2] at hl2 HS ⊢
 have HO:=hide ho.symm
 clear ho
 go_enter Tryz.func6,Tryz.ntmps6
 go_upto_region 1 with fail
 generalize w.alloc (.cells (roC (.slice none 0 0) false 0 0 0) 28)=z at HZ ⊢
 by_cases h4:400<n
 ·have d0:(400:Int)<(n:Int):=by omega
  go_wp2_with (first
   | (refine wpList_buildTo rfl 28 _ rfl (some 18) rfl (roC (.slice none 0 0) false 0 0 2) (by as_aux_lemma=>kernel_rfl) ?_)
   | (refine wpList_store_rowTo rfl 28 (.tmp 8) (.tmp 18) rfl rfl A (roC (.slice none 0 0) false 0 0 2) rfl rfl 28 _ (uh HZ).z infoRo rfl (roC_all _ _ _ _ _ _ _) ?_))
  refine bodyPost_ret (v:=.agg (roC (.slice none 0 0) false 0 0 2)) (by simp [results,Tryz.results6,asAddr,Act.put,loadRo (setRow_heap z A _ (roC (.slice none 0 0) false 0 0 2) _ _ (uh HZ).z)]) rfl ?_
  rw [show o=⟨[],false,0,0,2⟩ by rw [uh HO,if_pos (Or.inl h4)]]
  exact AnR.err 2 (below_setRow (uh HZ).l hXw _)
 have d0:¬ ((400:Int)<(n:Int)):=by omega
 by_cases h5:400<n2
 ·have d2:(400:Int)<(n2:Int):=by omega
  go_wp2_with (first
   | (refine wpList_buildTo rfl 28 _ rfl (some 18) rfl (roC (.slice none 0 0) false 0 0 2) (by as_aux_lemma=>kernel_rfl) ?_)
   | (refine wpList_store_rowTo rfl 28 (.tmp 8) (.tmp 18) rfl rfl A (roC (.slice none 0 0) false 0 0 2) rfl rfl 28 _ (uh HZ).z infoRo rfl (roC_all _ _ _ _ _ _ _) ?_))
  refine bodyPost_ret (v:=.agg (roC (.slice none 0 0) false 0 0 2)) (by simp [results,Tryz.results6,asAddr,Act.put,loadRo (setRow_heap z A _ (roC (.slice none 0 0) false 0 0 2) _ _ (uh HZ).z)]) rfl ?_
  rw [show o=⟨[],false,0,0,2⟩ by rw [uh HO,if_pos (Or.inr h5)]]
  exact AnR.err 2 (below_setRow (uh HZ).l hXw _)
 have d2:¬ ((400:Int)<(n2:Int)):=by omega
 have HO2:Hid (o=if n≠0∧qOk T=true∧winOk wi=true then ⟨(lineN T wi L st).b.gt,decide ((lineN T wi L st).a.Q.length=0),(lineN T wi L st).bad,(lineN T wi L st).un,0⟩ else ⟨[],false,0,0,1⟩):=hide (by rw [uh HO,if_neg (by omega)])
 clear HO
 by_cases h0:n=0
 ·subst h0
  go_wp2_with (first
   | (refine wpList_buildTo rfl 28 _ rfl (some 32) rfl (roC (.slice none 0 0) false 0 0 1) (by as_aux_lemma=>kernel_rfl) ?_)
   | (refine wpList_store_rowTo rfl 28 (.tmp 8) (.tmp 32) rfl rfl A (roC (.slice none 0 0) false 0 0 1) rfl rfl 28 _ (uh HZ).z infoRo rfl (roC_all _ _ _ _ _ _ _) ?_))
  refine bodyPost_ret (v:=.agg (roC (.slice none 0 0) false 0 0 1)) (by simp [results,Tryz.results6,asAddr,Act.put,loadRo (setRow_heap z A _ (roC (.slice none 0 0) false 0 0 1) _ _ (uh HZ).z)]) rfl ?_
  rw [show o=⟨[],false,0,0,1⟩ by rw [uh HO2,if_neg (fun h=>h.1 rfl)]]
  exact AnR.err 1 (below_setRow (uh HZ).l hXw _)
 have e0:((n:Int) == 0)=false:=beq_eq_false_iff_ne.2 (by omega)
 have CQ:=hide (iQueue (.slice x n y) T z (by omega) (by
  have:=(uh HS).1.below (uh HZ).l
  exact this))
 have CW:=hide fun v=>iWin wi v
 go_wp2_with fail
 refine (uh CQ).mono ?_
 rintro e z1 ⟨rfl,hb1⟩
 have H1:=hide ((uh HZ).step hb1)
 clear hb1 HZ CQ
 cases hq1:qOk T
 ·go_wp2_with (first
   | (refine wpList_buildTo rfl 28 _ rfl (some 32) rfl (roC (.slice none 0 0) false 0 0 1) (by as_aux_lemma=>kernel_rfl) ?_)
   | (refine wpList_store_rowTo rfl 28 (.tmp 8) (.tmp 32) rfl rfl A (roC (.slice none 0 0) false 0 0 1) rfl rfl 28 _ (uh H1).z infoRo rfl (roC_all _ _ _ _ _ _ _) ?_))
  refine bodyPost_ret (v:=.agg (roC (.slice none 0 0) false 0 0 1)) (by simp [results,Tryz.results6,asAddr,Act.put,loadRo (setRow_heap z1 A _ (roC (.slice none 0 0) false 0 0 1) _ _ (uh H1).z)]) rfl ?_
  rw [show o=⟨[],false,0,0,1⟩ by rw [uh HO2,if_neg (fun h=>by rw [hq1] at h;cases h.2.1)]]
  exact AnR.err 1 (below_setRow (uh H1).l hXw _)
 go_wp2_with fail
 refine (uh CW _).mono ?_
 rintro e z2 ⟨rfl,rfl⟩
 cases hq2:winOk wi
 ·go_wp2_with (first
   | (refine wpList_buildTo rfl 28 _ rfl (some 32) rfl (roC (.slice none 0 0) false 0 0 1) (by as_aux_lemma=>kernel_rfl) ?_)
   | (refine wpList_store_rowTo rfl 28 (.tmp 8) (.tmp 32) rfl rfl A (roC (.slice none 0 0) false 0 0 1) rfl rfl 28 _ (uh H1).z infoRo rfl (roC_all _ _ _ _ _ _ _) ?_))
  refine bodyPost_ret (v:=.agg (roC (.slice none 0 0) false 0 0 1)) (by simp [results,Tryz.results6,asAddr,Act.put,loadRo (setRow_heap z2 A _ (roC (.slice none 0 0) false 0 0 1) _ _ (uh H1).z)]) rfl ?_
  rw [show o=⟨[],false,0,0,1⟩ by rw [uh HO2,if_neg (fun h=>by rw [hq2] at h;cases h.2.2)]]
  exact AnR.err 1 (below_setRow (uh H1).l hXw _)
 have ho:o=⟨(lineN T wi L st).b.gt,decide ((lineN T wi L st).a.Q.length=0),(lineN T wi L st).bad,(lineN T wi L st).un,0⟩:=by rw [uh HO2,if_pos ⟨h0,hq1,hq2⟩]
 have HOU:=hide ho
 clear ho HO2
 have CN:=hide (iNewN (W:=z2) (Utf8Tabs_below (uh HT) (uh H1).l) (x:=x) (y:=y) (T:=T) (by rw [hn];exact (uh HS).1.below (uh H1).l) hq1 hq2)
 rw [hn] at CN
 go_wp2_with fail
 refine (uh CN).mono ?_
 rintro e z3 ⟨B,K,rfl,hM,hb3⟩
 have ok0:NwOk 0 0 0 ⟨nl0 wi T,nl0 wi [],0,0⟩:=⟨nl0_ok hq2 hq1,nl0_ok hq2 (by decide),⟨Int.le_refl _,Int.le_refl _⟩,⟨Int.le_refl _,Int.le_refl _⟩⟩
 have hLI:HoldsI z3 (.slice x2 L.length y2) L:=by
  rw [hn2]
  exact ((uh HS).2.below (uh H1).l rfl).below hb3 rfl
 have CR:=hide (iRunN hM ok0 (by omega) (by omega) (by omega) hLI (by omega) hR)
 rw [hn2] at CR
 have ok1:=foldN_ok L ok0
 obtain ⟨u,hu⟩:∃ u,L.foldl evN ⟨nl0 wi T,nl0 wi [],0,0⟩=u:=⟨_,rfl⟩
 rw [hu] at CR ok1
 have hlu:lineN T wi L st=if st=true then timesN setN1 100 u else u:=by rw [← hu];rfl
 rw [hlu] at HOU
 have hlow:∀ (zf:World) (K':Nat→Prop),Fz (fun k=>k=B) K K' z3 zf→Below z2.heap.size z3 zf:=fun zf K' f=>f.low (fun k e=>by rw [e];exact hM.bB) (fun k hk=>(hM.kk k hk).1) hM.lo.le
 have HFI:Hid (∀ (zf:World) (v:Nw) (n9:Int) (Kf:Nat→Prop),MN z2.heap.size B v n9 zf Kf→Below z2.heap.size z2 zf→o=⟨v.b.gt,decide (v.a.Q.length=0),v.bad,v.un,0⟩→∃ (ga:Option Addr) (gl gc:Nat) (qa:Option Addr) (ql qc:Nat) (bd ub:Int),zf.cell? ⟨B,27,none⟩=some (.slice ga gl gc)∧zf.cell? ⟨B,4,none⟩=some (.slice qa ql qc)∧zf.cell? ⟨B,29,none⟩=some (.int .i64 bd)∧zf.cell? ⟨B,30,none⟩=some (.int .i64 ub)∧zf.heap[A]?=some (.cells (roC (.slice none 0 0) false 0 0 0) 28)∧B≠A ∧
   AnR o w (.returned (.agg (roC (.slice ga gl gc) (decide (ql=0)) bd ub 0))) (zf.drew.setRow A (roC (.slice ga gl gc) (decide (ql=0)) bd ub 0))):=hide fun zf v n9 Kf hm hb hov=>by
  obtain ⟨_,cb,cu⟩:=hm.cnt
  obtain ⟨qa,la,ga,qb,lb,gb,hN,rfl⟩:=hm
  obtain ⟨qad,qc,rfl⟩:=own_form hN.sa.hq
  obtain ⟨gad,gc,rfl⟩:=own_form hN.sb.hg
  have c27:=hN.sb.cg.1
  have c4:zf.cell? ⟨B,4,none⟩=some (.slice qad v.a.Q.length qc):=by rw [cr hN.rowW];rfl
  have hz:=(uh H1).z
  have hzf:zf.heap[A]?=some (.cells (roC (.slice none 0 0) false 0 0 0) 28):=(hb.block A (Array.getElem?_eq_some_iff.1 hz).1).trans hz
  have nBA:B≠A:=typ_ne hN.rowW hzf (by decide)
  refine ⟨gad,v.b.gt.length,gc,qad,v.a.Q.length,qc,v.bad,v.un,c27,c4,cb,cu,hzf,nBA,?_⟩
  rw [hov]
  refine ⟨_,rfl,?_,below_setRow (((uh H1).l.trans (hb.mono (uh H1).l.size)).drew) hXw _⟩
  exact own_low (own_blk hN.sb.hg fun g cur _ hg=>setRow_other zf.drew A g _ (typ_ne hg hzf (by decide))) (uh H1).l.size
 have HLOW:=hide hlow
 have HB3:=hide hb3
 clear hM hLI ok0 hlow hb3 CN hu HT HS hlu
 go_wp2_with fail
 refine (uh CR).mono ?_
 rintro e z4 ⟨rfl,n9,K4,hM4,hf4⟩
 have hb4:=(uh HB3).trans (uh HLOW z4 K4 hf4)
 cases st
 ·rw [if_neg (by decide)] at HOU
  have HF:=hide (uh HFI z4 u n9 K4 hM4 hb4 (uh HOU))
  clear hM4 hf4 HFI CR H1 HLOW HB3 hb4 HOU
  generalize z4=zf at HF ⊢
  go_upto_region 9 with fail
  obtain ⟨ga,gl,gc,qa,ql,qc,bd,ub,r1,r2,r3,r4,rz,hne,hend⟩:=uh HF
  have HE:=hide hend
  clear HF hend
  have hS0:zf.drew.cell? ⟨B,27,none⟩=some (.slice ga gl gc)∧zf.drew.cell? ⟨B,4,none⟩=some (.slice qa ql qc)∧zf.drew.cell? ⟨B,29,none⟩=some (.int .i64 bd)∧zf.drew.cell? ⟨B,30,none⟩=some (.int .i64 ub):=⟨r1,r2,r3,r4⟩
  have rzd:zf.drew.heap[A]?=some (.cells (roC (.slice none 0 0) false 0 0 0) 28):=rz
  refine wp_region_held_drew (S:=fun z=>z.cell? ⟨B,27,none⟩=some (.slice ga gl gc)∧z.cell? ⟨B,4,none⟩=some (.slice qa ql qc)∧z.cell? ⟨B,29,none⟩=some (.int .i64 bd)∧z.cell? ⟨B,30,none⟩=some (.int .i64 ub)) (by kernel_rfl) hS0 (fun hHeld=>?_)
  clear hHeld r1 r2 r3 r4 rz
  generalize zf.drew=yf at HE hS0 rzd ⊢
  refine t2 0 ?_
  refine t2 1 ?_
  refine t2 2 ?_
  refine t2 3 ?_
  refine t2 4 ?_
  refine t2 5 ?_
  refine t2 6 ?_
  refine t2 7 ?_
  refine t2 8 ?_
  refine t2 9 ?_
  refine t2 10 ?_
  refine t2 11 ?_
  refine tk 12 (v:=.bool (decide (ql=0))) rfl (fun w _=>?_) ?_
  ·go_simp
   exact eq0_dec ql
  try simp only [Act.put,sA,sZ,sS,gA,gZ,gS]
  refine t2 13 ?_
  refine t2 14 ?_
  refine t2 15 ?_
  refine t2 16 ?_
  refine t2 17 ?_
  refine t2 18 ?_
  refine t2 19 ?_
  refine t2 20 ?_
  refine t4 21 (.agg (roC (.slice ga gl gc) (decide (ql=0)) bd ub 0)) rfl (yieldsB (by rfl) _ _ rfl _ (by kernel_rfl)) ?_
  try simp only [Act.put,sA,sZ,sS,gA,gZ,gS]
  have hS2:(yf.setRow A (roC (.slice ga gl gc) (decide (ql=0)) bd ub 0)).cell? ⟨B,27,none⟩=some (.slice ga gl gc)∧(yf.setRow A (roC (.slice ga gl gc) (decide (ql=0)) bd ub 0)).cell? ⟨B,4,none⟩=some (.slice qa ql qc)∧(yf.setRow A (roC (.slice ga gl gc) (decide (ql=0)) bd ub 0)).cell? ⟨B,29,none⟩=some (.int .i64 bd)∧(yf.setRow A (roC (.slice ga gl gc) (decide (ql=0)) bd ub 0)).cell? ⟨B,30,none⟩=some (.int .i64 ub):=by
   refine ⟨?_,?_,?_,?_⟩
   ·rw [cell_setRow_other _ _ _ _ hne];exact hS0.1
   ·rw [cell_setRow_other _ _ _ _ hne];exact hS0.2.1
   ·rw [cell_setRow_other _ _ _ _ hne];exact hS0.2.2.1
   ·rw [cell_setRow_other _ _ _ _ hne];exact hS0.2.2.2
  have hall:=roC_all ga gl gc (decide (ql=0)) bd ub 0
  refine r1 22 rfl (fun K hK=>?_)
  rw [if_pos (by rfl)]
  refine wp_store_row 28 (.tmp 8) (.tmp 63) rfl A (roC (.slice ga gl gc) (decide (ql=0)) bd ub 0) rfl rfl 28 _ rzd infoRo rfl hall ?_
  refine ro hK hS2 fun _=>?_
  clear hK K hS0 hS2
  refine dn ?_ _
  go_wp2_with fail
  refine bodyPost_ret (v:=.agg (roC (.slice ga gl gc) (decide (ql=0)) bd ub 0)) (by simp [results,Tryz.results6,asAddr,loadRo (setRow_heap yf A _ (roC (.slice ga gl gc) (decide (ql=0)) bd ub 0) _ _ rzd)]) rfl ?_
  exact uh HE
 ·rw [if_pos rfl] at HOU
  have CS:=hide (iSettleN hM4 ok1 (by omega) (by omega) (by omega))
  have HM4:=hide (And.intro hf4 hb4)
  clear hM4 hf4 hb4 CR
  go_wp2_with fail
  refine (uh CS).mono ?_
  rintro e zf ⟨rfl,K5,hM5,hf5⟩
  have hb5:=(uh HB3).trans (uh HLOW zf K5 ((uh HM4).1.trans hf5))
  have HF:=hide (uh HFI zf _ n9 K5 hM5 hb5 (uh HOU))
  clear hM5 hf5 HFI CS H1 HLOW HB3 hb5 HOU HM4
  go_upto_region 9 with fail
  obtain ⟨ga,gl,gc,qa,ql,qc,bd,ub,r1,r2,r3,r4,rz,hne,hend⟩:=uh HF
  have HE:=hide hend
  clear HF hend
  have hS0:zf.drew.cell? ⟨B,27,none⟩=some (.slice ga gl gc)∧zf.drew.cell? ⟨B,4,none⟩=some (.slice qa ql qc)∧zf.drew.cell? ⟨B,29,none⟩=some (.int .i64 bd)∧zf.drew.cell? ⟨B,30,none⟩=some (.int .i64 ub):=⟨r1,r2,r3,r4⟩
  have rzd:zf.drew.heap[A]?=some (.cells (roC (.slice none 0 0) false 0 0 0) 28):=rz
  refine wp_region_held_drew (S:=fun z=>z.cell? ⟨B,27,none⟩=some (.slice ga gl gc)∧z.cell? ⟨B,4,none⟩=some (.slice qa ql qc)∧z.cell? ⟨B,29,none⟩=some (.int .i64 bd)∧z.cell? ⟨B,30,none⟩=some (.int .i64 ub)) (by kernel_rfl) hS0 (fun hHeld=>?_)
  clear hHeld r1 r2 r3 r4 rz
  generalize zf.drew=yf at HE hS0 rzd ⊢
  refine t2 0 ?_
  refine t2 1 ?_
  refine t2 2 ?_
  refine t2 3 ?_
  refine t2 4 ?_
  refine t2 5 ?_
  refine t2 6 ?_
  refine t2 7 ?_
  refine t2 8 ?_
  refine t2 9 ?_
  refine t2 10 ?_
  refine t2 11 ?_
  refine tk 12 (v:=.bool (decide (ql=0))) rfl (fun w _=>?_) ?_
  ·go_simp
   exact eq0_dec ql
  try simp only [Act.put,sA,sZ,sS,gA,gZ,gS]
  refine t2 13 ?_
  refine t2 14 ?_
  refine t2 15 ?_
  refine t2 16 ?_
  refine t2 17 ?_
  refine t2 18 ?_
  refine t2 19 ?_
  refine t2 20 ?_
  refine t4 21 (.agg (roC (.slice ga gl gc) (decide (ql=0)) bd ub 0)) rfl (yieldsB (by rfl) _ _ rfl _ (by kernel_rfl)) ?_
  try simp only [Act.put,sA,sZ,sS,gA,gZ,gS]
  have hS2:(yf.setRow A (roC (.slice ga gl gc) (decide (ql=0)) bd ub 0)).cell? ⟨B,27,none⟩=some (.slice ga gl gc)∧(yf.setRow A (roC (.slice ga gl gc) (decide (ql=0)) bd ub 0)).cell? ⟨B,4,none⟩=some (.slice qa ql qc)∧(yf.setRow A (roC (.slice ga gl gc) (decide (ql=0)) bd ub 0)).cell? ⟨B,29,none⟩=some (.int .i64 bd)∧(yf.setRow A (roC (.slice ga gl gc) (decide (ql=0)) bd ub 0)).cell? ⟨B,30,none⟩=some (.int .i64 ub):=by
   refine ⟨?_,?_,?_,?_⟩
   ·rw [cell_setRow_other _ _ _ _ hne];exact hS0.1
   ·rw [cell_setRow_other _ _ _ _ hne];exact hS0.2.1
   ·rw [cell_setRow_other _ _ _ _ hne];exact hS0.2.2.1
   ·rw [cell_setRow_other _ _ _ _ hne];exact hS0.2.2.2
  have hall:=roC_all ga gl gc (decide (ql=0)) bd ub 0
  refine r1 22 rfl (fun K hK=>?_)
  rw [if_pos (by rfl)]
  refine wp_store_row 28 (.tmp 8) (.tmp 63) rfl A (roC (.slice ga gl gc) (decide (ql=0)) bd ub 0) rfl rfl 28 _ rzd infoRo rfl hall ?_
  refine ro hK hS2 fun _=>?_
  clear hK K hS0 hS2
  refine dn ?_ _
  go_wp2_with fail
  refine bodyPost_ret (v:=.agg (roC (.slice ga gl gc) (decide (ql=0)) bd ub 0)) (by simp [results,Tryz.results6,asAddr,loadRo (setRow_heap yf A _ (roC (.slice ga gl gc) (decide (ql=0)) bd ub 0) _ _ rzd)]) rfl ?_
  exact uh HE
end Go.Proofs.YtkcghhkkepndnaaGreatDoor
