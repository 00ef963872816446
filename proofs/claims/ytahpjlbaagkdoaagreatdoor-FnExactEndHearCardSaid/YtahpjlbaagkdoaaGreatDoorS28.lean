/- The model's first step: an end at work, with rows of its own, and whether the End and the time are right; what lay in memory stands. -/
import Derived.Test.YtahpjlbaagkdoaaGreatDoorS25
import Derived.Test.YtahpjlbaagkdoaaGreatDoorShW
namespace Go.Proofs.YtahpjlbaagkdoaaGreatDoor
open Go.RowKit
def cx0 (now : Int) : Cx := ⟨now, 0, 0, ⟨#[]⟩, [], 0, [], .slice none 0 0, .slice none 0 0⟩
abbrev wk0 (e : En) (v1 v2 : Value) (now : Int) : List Value := wkC (cx0 now) e v1 v2 (.slice none 0 0) (.slice none 0 0)
theorem wp_runO {P : Program} {o : Oper} {a : Act} {w w' : World} {K : Act → World → Prop} {Q : Exit → Act → World → Prop} {v : Value} (hrun : (execOp a.eval o).run P w = .ok (.value v) w') (h : K (a.put o.dst v) w') : Oper.wp P o a w K Q := by
 unfold Oper.wp
 rw [hrun, Oper.upon_value]
 exact h
theorem rangeA {W : World} {E : Nat} {cs : Array Value} {T : TypeId} (h : W.heap[E]? = some (.cells cs T)) : W.rangeAt E 0 cs.toList := by
 intro j u hu
 rw [cell_of_row _ _ _ _ _ _ h, Nat.zero_add, ← Array.getElem?_toList]
 exact hu
theorem Lay.start {T : TypeId} (hT : Tt T) {w z : World} {e : En} {v1 v2 : Value} {F1 F2 : List Op.Opt} {n1 n2 : Nat} (e1 : F1.length = n1) (e2 : F2.length = n2) (now : Int) (o1 : z.ownsRow w.heap.size 116 2 v1 n1 (ocells F1)) (o2 : z.ownsRow w.heap.size 116 2 v2 n2 (ocells F2)) (ap : Ap v1 v2) (lo : Below w.heap.size w z) :
  Lay T w (z.alloc (.cells (wk0 e v1 v2 now).toArray T)) z.heap.size (cx0 now) ⟨e, F1, F2, [], []⟩ v1 v2 (.slice none 0 0) (.slice none 0 0) (z.alloc (.cells (wk0 e v1 v2 now).toArray T)) := by
 subst e1 e2
 have hb : Below z.heap.size z (z.alloc (.cells (wk0 e v1 v2 now).toArray T)) := (Below.refl _ _).alloc (Nat.le_refl _) _
 exact ⟨heap_alloc_new z _, own_below o1 hb, own_below o2 hb, World.ownsRow_nil _ _ _ _, World.ownsRow_nil _ _ _ _, World.ownsRow_nil _ _ _ _, holdsO_nil _ _ _, lo.size, hT, ap, (Ap.none _ _ _).symm, lo.trans (hb.mono lo.size), Nr.refl _ _⟩
theorem sTime (now : Int) (w : World) : Calls Tryz.prog 88 #[.int .i64 now] w fun e w' => e = .returned (.bool (within 0 1000000000 now)) ∧ w' = w := by
 have C := hide (specIs now 0 1000000000 w)
 go_enter Tryz.func88, Tryz.ntmps88
 go_wp2_with fail
 refine (unhide C).mono ?_
 rintro r ws ⟨rfl, hws⟩
 replace hws := hws.symm
 subst hws
 go_wp2
 go_ret
 exact ⟨rfl, rfl⟩
def BeginA (T : TypeId) (w : World) (e : En) (F1 F2 : List Op.Opt) (now : Int) (ok : Bool) (r : Ending) (w' : World) : Prop :=
 ∃ B v1 v2, r = .returned (.tuple #[.pointer (some ⟨B, 0, none⟩), .bool ok]) ∧ Lay T w w' B (cx0 now) ⟨e, F1, F2, [], []⟩ v1 v2 (.slice none 0 0) (.slice none 0 0) w'
set_option maxHeartbeats 8000000 in
set_option maxRecDepth 100000 in
theorem sBegin (e : En) (x1 x2 : Option Addr) (y1 y2 : Nat) (F1 F2 : List Op.Opt) (now : Int) (w : World) (l1 : F1.length ≤ 1048576) (l2 : F2.length ≤ 1048576) (h1 : HoldsO w (.slice x1 F1.length y1) F1) (h2 : HoldsO w (.slice x2 F2.length y2) F2) :
  Calls Tryz.prog 42 #[.agg (enC e (.slice x1 F1.length y1) (.slice x2 F2.length y2)), .int .i64 now] w fun r w' => BeginA 89 w e F1 F2 now (enOk e F1 F2 && within 0 1000000000 now) r w' := by
 have CC := hide fun W (hb : Below w.heap.size w W) => sCopy e x1 x2 y1 y2 F1 F2 W l1 l2 (h1.below hb rfl) (h2.below hb rfl)
 have CR := hide fun W (hb : Below w.heap.size w W) => specEndRight e x1 x2 y1 y2 F1 F2 W (by unfold maxLen; omega) (by unfold maxLen; omega) (h1.below hb rfl) (h2.below hb rfl)
 have CT := hide fun W => sTime now W
 clear h1 h2
 have hA := heap_alloc_new w (.cells (enC e (.slice x1 F1.length y1) (.slice x2 F2.length y2)) 29)
 have hbA : Below w.heap.size w (w.alloc (.cells (enC e (.slice x1 F1.length y1) (.slice x2 F2.length y2)) 29)) := (Below.refl _ _).alloc (Nat.le_refl _) _
 have H0 := hide (And.intro hA hbA)
 clear hA hbA
 generalize enOk e F1 F2 = ok1 at *
 generalize within 0 1000000000 now = ok2 at *
 obtain ⟨n1, e1⟩ : ∃ n, F1.length = n := ⟨_, rfl⟩
 obtain ⟨n2, e2⟩ : ∃ n, F2.length = n := ⟨_, rfl⟩
 rw [e1] at CC CR H0 ⊢
 rw [e2] at CC CR H0 ⊢
 go_enter Tryz.func42, Tryz.ntmps42
 go_upto_region 1 with fail
 refine gen_world (fun z => z.heap[w.heap.size]? = some (.cells (enC e (.slice x1 n1 y1) (.slice x2 n2 y2)) 29) ∧ Below w.heap.size w z) ?_ ?_
 ·exact unhide H0
 clear H0
 rintro z ⟨za, zl⟩
 have HZ := hide (And.intro za (zl.trans ((Below.refl _ _).drew.mono zl.size)))
 refine wp_region_held_drew (S := fun z => z.heap[w.heap.size]? = some (.cells (enC e (.slice x1 n1 y1) (.slice x2 n2 y2)) 29)) (by kernel_rfl) ?_ (fun hHeld => ?_)
 ·exact za
 clear za zl
 refine wpAnyH_take (i := 0) (v := .agg (enC e (.slice x1 n1 y1) (.slice x2 n2 y2))) rfl (by kernel_rfl) (by kernel_rfl) (by kernel_rfl) (fun _ _ _ h => h) (yieldsIf_load_mid (by rfl) 29 (.tmp 2) rfl w.heap.size 0 rfl (enC e (.slice x1 n1 y1) (.slice x2 n2 y2)).toList _ (fun z hz => rangeA hz) Tryz.underlying29 rfl infoE) (by assumption) ?_
 try simp only [Act.put, sA, sZ, sS, gA, gZ]
 refine tk 2 (v := ?va2) rfl ?hya2 ?_
 case hya2 => intro w hSw; (try dsimp only at hSw); go_simp; try with_reducible rfl
 try simp only [Act.put, sA, sZ, sS, gA, gZ, gS]
 refine wpAnyH_take (i := 5) (v := .agg (enC e (.slice x1 n1 y1) (.slice x2 n2 y2))) rfl (by kernel_rfl) (by kernel_rfl) (by kernel_rfl) (fun _ _ _ h => h) (yieldsIf_load_mid (by rfl) 29 (.tmp 2) rfl w.heap.size 0 rfl (enC e (.slice x1 n1 y1) (.slice x2 n2 y2)).toList _ (fun z hz => rangeA hz) Tryz.underlying29 rfl infoE) (by assumption) ?_
 try simp only [Act.put, sA, sZ, sS, gA, gZ, gS]
 refine r1 1 rfl (fun K hK => ?_)
 go_simp
 refine (unhide CC _ (unhide HZ).2).mono ?_
 rintro r z1 ⟨w1, w2, rfl, ho1, ho2, hap, hb1⟩
 have ha1 := (hb1.block w.heap.size (Array.getElem?_eq_some_iff.1 (unhide HZ).1).1).trans (unhide HZ).1
 have hl1 := (unhide HZ).2.trans (hb1.mono (unhide HZ).2.size)
 have hs1 := (unhide HZ).2.size
 obtain ⟨a1, p1, q1⟩ := own_form ho1
 obtain ⟨a2, p2, q2⟩ := own_form ho2
 subst q1 q2
 have HC := hide (And.intro (own_mono ho1 hs1) (And.intro (own_mono ho2 hs1) (And.intro hap (And.intro ha1 hl1))))
 clear ho1 ho2 hap hb1 hl1 hs1 HZ
 go_wp2_with fail
 refine hK.out _ _ ?_ (fun _ => ?_)
 ·exact ha1
 clear hK K
 try simp only [Act.put, sA, sZ, sS, gA, gZ, gS]
 clear ha1
 refine wpAnyH_take (i := 3) (v := .agg (wk0 e (.slice a1 n1 p1) (.slice a2 n2 p2) now).toArray) rfl (by kernel_rfl) (by kernel_rfl) (by kernel_rfl) (fun _ _ _ h => h) (Or.inl ⟨by rfl, fun _ _ => by kernel_rfl⟩) (by assumption) ?_
 try simp only [Act.put, sA, sZ, sS, gA, gZ, gS]
 cases ok1
 ·refine wpAnyH_ready (rs := [4, 6]) (by kernel_rfl) (by simp) ?_
  refine AllReadyH.cons rfl (fun K hK => ?_) (AllReadyH.cons rfl (fun K hK => ?_) (AllReadyH.nil))
  ·rw [if_pos (by rfl)]
   refine wp_runO (v := .pointer (some ⟨z1.heap.size, 0, none⟩)) (w' := z1.alloc (.cells (wk0 e (.slice a1 n1 p1) (.slice a2 n2 p2) now).toArray 89)) (by as_aux_lemma => kernel_rfl) ?_
   obtain ⟨o1, o2, ap, za, zl⟩ := unhide HC
   have hL := Lay.start ttS (e := e) e1 e2 now o1 o2 ap zl
   have zb := (Below.heap_alloc z1 (.cells (wk0 e (.slice a1 n1 p1) (.slice a2 n2 p2) now).toArray 89) w.heap.size (Array.getElem?_eq_some_iff.1 za).1).trans za
   obtain ⟨B, hB⟩ : ∃ B, z1.heap.size = B := ⟨_, rfl⟩
   rw [hB] at hL
   rw [hB]
   obtain ⟨z2, hz2⟩ : ∃ z', z1.alloc (.cells (wk0 e (.slice a1 n1 p1) (.slice a2 n2 p2) now).toArray 89) = z' := ⟨_, rfl⟩
   rw [hz2] at hL zb
   rw [hz2]
   have HL := hide (And.intro hL zb)
   clear hL o1 o2 ap za zl HC hz2 hB
   refine hK.out _ _ ?_ (fun _ => ?_)
   ·exact zb
   clear hK K zb
   try simp only [Act.put, sA, sZ, sS, gA, gZ, gS]
   refine r1 6 rfl (fun K hK => ?_)
   go_simp
   refine (unhide CR _ (unhide HL).1.low).mono ?_
   rintro r z3 ⟨rfl, hb⟩
   have HL3 := hide (And.intro ((unhide HL).1.step hb) ((hb.block w.heap.size (Array.getElem?_eq_some_iff.1 (unhide HL).2).1).trans (unhide HL).2))
   clear hb HL
   have HL := HL3
   clear HL3
   go_wp2_with fail
   refine hK.out _ _ ?_ (fun _ => ?_)
   ·exact (unhide HL).2
   clear hK K
   try simp only [Act.put, sA, sZ, sS, gA, gZ, gS]
   refine tk 7 (v := ?vuxx7) rfl ?hyuxx7 ?_
   case hyuxx7 => intro w hSw; (try dsimp only at hSw); go_simp; try with_reducible rfl
   try simp only [Act.put, sA, sZ, sS, gA, gZ, gS]
   refine wpAnyH_take (i := 8) (v := undef) rfl (by kernel_rfl) (by kernel_rfl) (by kernel_rfl) (fun _ _ _ h => h) (Or.inr ⟨by rfl, rfl⟩) (by assumption) ?_
   try simp only [Act.put, sA, sZ, sS, gA, gZ, gS]
   refine wpAnyH_take (i := 9) (v := undef) rfl (by kernel_rfl) (by kernel_rfl) (by kernel_rfl) (fun _ _ _ h => h) (Or.inr ⟨by rfl, rfl⟩) (by assumption) ?_
   try simp only [Act.put, sA, sZ, sS, gA, gZ, gS]
   refine tk 10 (v := ?vuxx10) rfl ?hyuxx10 ?_
   case hyuxx10 => intro w hSw; (try dsimp only at hSw); go_simp; try with_reducible rfl
   try simp only [Act.put, sA, sZ, sS, gA, gZ, gS]
   refine tk 11 (v := ?vuxx11) rfl ?hyuxx11 ?_
   case hyuxx11 => intro w hSw; (try dsimp only at hSw); go_simp; try with_reducible rfl
   try simp only [Act.put, sA, sZ, sS, gA, gZ, gS]
   refine tk 12 (v := ?vuxx12) rfl ?hyuxx12 ?_
   case hyuxx12 => intro w hSw; (try dsimp only at hSw); go_simp; try with_reducible rfl
   try simp only [Act.put, sA, sZ, sS, gA, gZ, gS]
   refine wpAnyH_done (by kernel_rfl) ?_ _
   go_wp2
   exact bodyPost_ret (v := .tuple #[.pointer (some ⟨B, 0, none⟩), .bool false]) (by simp [results, Tryz.results42]) rfl ⟨B, _, _, rfl, (unhide HL).1.rebase rfl rfl⟩
  ·go_simp
   refine (unhide CR _ (unhide HC).2.2.2.2).mono ?_
   rintro r z2 ⟨rfl, hb⟩
   have HC2 := hide (And.intro (own_below (unhide HC).1 hb) (And.intro (own_below (unhide HC).2.1 hb) (And.intro (unhide HC).2.2.1 (And.intro ((hb.block w.heap.size (Array.getElem?_eq_some_iff.1 (unhide HC).2.2.2.1).1).trans (unhide HC).2.2.2.1) ((unhide HC).2.2.2.2.trans (hb.mono (unhide HC).2.2.2.2.size))))))
   clear hb HC
   have HC := HC2
   clear HC2
   go_wp2_with fail
   refine hK.out _ _ ?_ (fun _ => ?_)
   ·exact (unhide HC).2.2.2.1
   clear hK K
   try simp only [Act.put, sA, sZ, sS, gA, gZ, gS]
   refine tk 7 (v := ?vuy7) rfl ?hyuy7 ?_
   case hyuy7 => intro w hSw; (try dsimp only at hSw); go_simp; try with_reducible rfl
   try simp only [Act.put, sA, sZ, sS, gA, gZ, gS]
   refine wpAnyH_take (i := 8) (v := undef) rfl (by kernel_rfl) (by kernel_rfl) (by kernel_rfl) (fun _ _ _ h => h) (Or.inr ⟨by rfl, rfl⟩) (by assumption) ?_
   try simp only [Act.put, sA, sZ, sS, gA, gZ, gS]
   refine wpAnyH_take (i := 9) (v := undef) rfl (by kernel_rfl) (by kernel_rfl) (by kernel_rfl) (fun _ _ _ h => h) (Or.inr ⟨by rfl, rfl⟩) (by assumption) ?_
   try simp only [Act.put, sA, sZ, sS, gA, gZ, gS]
   refine tk 10 (v := ?vuy10) rfl ?hyuy10 ?_
   case hyuy10 => intro w hSw; (try dsimp only at hSw); go_simp; try with_reducible rfl
   try simp only [Act.put, sA, sZ, sS, gA, gZ, gS]
   refine r1 4 rfl (fun K hK => ?_)
   rw [if_pos (by rfl)]
   refine wp_runO (v := .pointer (some ⟨z2.heap.size, 0, none⟩)) (w' := z2.alloc (.cells (wk0 e (.slice a1 n1 p1) (.slice a2 n2 p2) now).toArray 89)) (by as_aux_lemma => kernel_rfl) ?_
   obtain ⟨o1, o2, ap, za, zl⟩ := unhide HC
   have hL := Lay.start ttS (e := e) e1 e2 now o1 o2 ap zl
   have zb := (Below.heap_alloc z2 (.cells (wk0 e (.slice a1 n1 p1) (.slice a2 n2 p2) now).toArray 89) w.heap.size (Array.getElem?_eq_some_iff.1 za).1).trans za
   obtain ⟨B, hB⟩ : ∃ B, z2.heap.size = B := ⟨_, rfl⟩
   rw [hB] at hL
   rw [hB]
   obtain ⟨z3, hz3⟩ : ∃ z', z2.alloc (.cells (wk0 e (.slice a1 n1 p1) (.slice a2 n2 p2) now).toArray 89) = z' := ⟨_, rfl⟩
   rw [hz3] at hL zb
   rw [hz3]
   have HL := hide (And.intro hL zb)
   clear hL o1 o2 ap za zl HC hz3 hB
   refine hK.out _ _ ?_ (fun _ => ?_)
   ·exact zb
   clear hK K zb
   try simp only [Act.put, sA, sZ, sS, gA, gZ, gS]
   refine tk 11 (v := ?vuyx11) rfl ?hyuyx11 ?_
   case hyuyx11 => intro w hSw; (try dsimp only at hSw); go_simp; try with_reducible rfl
   try simp only [Act.put, sA, sZ, sS, gA, gZ, gS]
   refine tk 12 (v := ?vuyx12) rfl ?hyuyx12 ?_
   case hyuyx12 => intro w hSw; (try dsimp only at hSw); go_simp; try with_reducible rfl
   try simp only [Act.put, sA, sZ, sS, gA, gZ, gS]
   refine wpAnyH_done (by kernel_rfl) ?_ _
   go_wp2
   exact bodyPost_ret (v := .tuple #[.pointer (some ⟨B, 0, none⟩), .bool false]) (by simp [results, Tryz.results42]) rfl ⟨B, _, _, rfl, (unhide HL).1.rebase rfl rfl⟩
 ·refine wpAnyH_ready (rs := [4, 6]) (by kernel_rfl) (by simp) ?_
  refine AllReadyH.cons rfl (fun K hK => ?_) (AllReadyH.cons rfl (fun K hK => ?_) (AllReadyH.nil))
  ·rw [if_pos (by rfl)]
   refine wp_runO (v := .pointer (some ⟨z1.heap.size, 0, none⟩)) (w' := z1.alloc (.cells (wk0 e (.slice a1 n1 p1) (.slice a2 n2 p2) now).toArray 89)) (by as_aux_lemma => kernel_rfl) ?_
   obtain ⟨o1, o2, ap, za, zl⟩ := unhide HC
   have hL := Lay.start ttS (e := e) e1 e2 now o1 o2 ap zl
   have zb := (Below.heap_alloc z1 (.cells (wk0 e (.slice a1 n1 p1) (.slice a2 n2 p2) now).toArray 89) w.heap.size (Array.getElem?_eq_some_iff.1 za).1).trans za
   obtain ⟨B, hB⟩ : ∃ B, z1.heap.size = B := ⟨_, rfl⟩
   rw [hB] at hL
   rw [hB]
   obtain ⟨z2, hz2⟩ : ∃ z', z1.alloc (.cells (wk0 e (.slice a1 n1 p1) (.slice a2 n2 p2) now).toArray 89) = z' := ⟨_, rfl⟩
   rw [hz2] at hL zb
   rw [hz2]
   have HL := hide (And.intro hL zb)
   clear hL o1 o2 ap za zl HC hz2 hB
   refine hK.out _ _ ?_ (fun _ => ?_)
   ·exact zb
   clear hK K zb
   try simp only [Act.put, sA, sZ, sS, gA, gZ, gS]
   refine r1 6 rfl (fun K hK => ?_)
   go_simp
   refine (unhide CR _ (unhide HL).1.low).mono ?_
   rintro r z3 ⟨rfl, hb⟩
   have HL3 := hide (And.intro ((unhide HL).1.step hb) ((hb.block w.heap.size (Array.getElem?_eq_some_iff.1 (unhide HL).2).1).trans (unhide HL).2))
   clear hb HL
   have HL := HL3
   clear HL3
   go_wp2_with fail
   refine hK.out _ _ ?_ (fun _ => ?_)
   ·exact (unhide HL).2
   clear hK K
   try simp only [Act.put, sA, sZ, sS, gA, gZ, gS]
   refine tk 7 (v := ?vvxx7) rfl ?hyvxx7 ?_
   case hyvxx7 => intro w hSw; (try dsimp only at hSw); go_simp; try with_reducible rfl
   try simp only [Act.put, sA, sZ, sS, gA, gZ, gS]
   refine tk 8 (v := ?vvxx8) rfl ?hyvxx8 ?_
   case hyvxx8 => intro w hSw; (try dsimp only at hSw); go_simp; try with_reducible rfl
   try simp only [Act.put, sA, sZ, sS, gA, gZ, gS]
   refine r1 9 rfl (fun K hK => ?_)
   go_simp
   refine (unhide CT _).mono ?_
   rintro r zt ⟨rfl, hws⟩
   replace hws := hws.symm
   subst hws
   go_wp2_with fail
   refine hK.out _ _ ?_ (fun _ => ?_)
   ·exact (unhide HL).2
   clear hK K
   try simp only [Act.put, sA, sZ, sS, gA, gZ, gS]
   refine tk 10 (v := ?vvxxx10) rfl ?hyvxxx10 ?_
   case hyvxxx10 => intro w hSw; (try dsimp only at hSw); go_simp; try with_reducible rfl
   try simp only [Act.put, sA, sZ, sS, gA, gZ, gS]
   refine tk 11 (v := ?vvxxx11) rfl ?hyvxxx11 ?_
   case hyvxxx11 => intro w hSw; (try dsimp only at hSw); go_simp; try with_reducible rfl
   try simp only [Act.put, sA, sZ, sS, gA, gZ, gS]
   refine tk 12 (v := ?vvxxx12) rfl ?hyvxxx12 ?_
   case hyvxxx12 => intro w hSw; (try dsimp only at hSw); go_simp; try with_reducible rfl
   try simp only [Act.put, sA, sZ, sS, gA, gZ, gS]
   refine wpAnyH_done (by kernel_rfl) ?_ _
   go_wp2
   exact bodyPost_ret (v := .tuple #[.pointer (some ⟨B, 0, none⟩), .bool ok2]) (by simp [results, Tryz.results42]) rfl ⟨B, _, _, rfl, (unhide HL).1.rebase rfl rfl⟩
  ·go_simp
   refine (unhide CR _ (unhide HC).2.2.2.2).mono ?_
   rintro r z2 ⟨rfl, hb⟩
   have HC2 := hide (And.intro (own_below (unhide HC).1 hb) (And.intro (own_below (unhide HC).2.1 hb) (And.intro (unhide HC).2.2.1 (And.intro ((hb.block w.heap.size (Array.getElem?_eq_some_iff.1 (unhide HC).2.2.2.1).1).trans (unhide HC).2.2.2.1) ((unhide HC).2.2.2.2.trans (hb.mono (unhide HC).2.2.2.2.size))))))
   clear hb HC
   have HC := HC2
   clear HC2
   go_wp2_with fail
   refine hK.out _ _ ?_ (fun _ => ?_)
   ·exact (unhide HC).2.2.2.1
   clear hK K
   try simp only [Act.put, sA, sZ, sS, gA, gZ, gS]
   refine tk 7 (v := ?vvy7) rfl ?hyvy7 ?_
   case hyvy7 => intro w hSw; (try dsimp only at hSw); go_simp; try with_reducible rfl
   try simp only [Act.put, sA, sZ, sS, gA, gZ, gS]
   refine tk 8 (v := ?vvy8) rfl ?hyvy8 ?_
   case hyvy8 => intro w hSw; (try dsimp only at hSw); go_simp; try with_reducible rfl
   try simp only [Act.put, sA, sZ, sS, gA, gZ, gS]
   refine wpAnyH_ready (rs := [4, 9]) (by kernel_rfl) (by simp) ?_
   refine AllReadyH.cons rfl (fun K hK => ?_) (AllReadyH.cons rfl (fun K hK => ?_) (AllReadyH.nil))
   ·rw [if_pos (by rfl)]
    refine wp_runO (v := .pointer (some ⟨z2.heap.size, 0, none⟩)) (w' := z2.alloc (.cells (wk0 e (.slice a1 n1 p1) (.slice a2 n2 p2) now).toArray 89)) (by as_aux_lemma => kernel_rfl) ?_
    obtain ⟨o1, o2, ap, za, zl⟩ := unhide HC
    have hL := Lay.start ttS (e := e) e1 e2 now o1 o2 ap zl
    have zb := (Below.heap_alloc z2 (.cells (wk0 e (.slice a1 n1 p1) (.slice a2 n2 p2) now).toArray 89) w.heap.size (Array.getElem?_eq_some_iff.1 za).1).trans za
    obtain ⟨B, hB⟩ : ∃ B, z2.heap.size = B := ⟨_, rfl⟩
    rw [hB] at hL
    rw [hB]
    obtain ⟨z3, hz3⟩ : ∃ z', z2.alloc (.cells (wk0 e (.slice a1 n1 p1) (.slice a2 n2 p2) now).toArray 89) = z' := ⟨_, rfl⟩
    rw [hz3] at hL zb
    rw [hz3]
    have HL := hide (And.intro hL zb)
    clear hL o1 o2 ap za zl HC hz3 hB
    refine hK.out _ _ ?_ (fun _ => ?_)
    ·exact zb
    clear hK K zb
    try simp only [Act.put, sA, sZ, sS, gA, gZ, gS]
    refine r1 9 rfl (fun K hK => ?_)
    go_simp
    refine (unhide CT _).mono ?_
    rintro r zt ⟨rfl, hws⟩
    replace hws := hws.symm
    subst hws
    go_wp2_with fail
    refine hK.out _ _ ?_ (fun _ => ?_)
    ·exact (unhide HL).2
    clear hK K
    try simp only [Act.put, sA, sZ, sS, gA, gZ, gS]
    refine tk 10 (v := ?vvyxx10) rfl ?hyvyxx10 ?_
    case hyvyxx10 => intro w hSw; (try dsimp only at hSw); go_simp; try with_reducible rfl
    try simp only [Act.put, sA, sZ, sS, gA, gZ, gS]
    refine tk 11 (v := ?vvyxx11) rfl ?hyvyxx11 ?_
    case hyvyxx11 => intro w hSw; (try dsimp only at hSw); go_simp; try with_reducible rfl
    try simp only [Act.put, sA, sZ, sS, gA, gZ, gS]
    refine tk 12 (v := ?vvyxx12) rfl ?hyvyxx12 ?_
    case hyvyxx12 => intro w hSw; (try dsimp only at hSw); go_simp; try with_reducible rfl
    try simp only [Act.put, sA, sZ, sS, gA, gZ, gS]
    refine wpAnyH_done (by kernel_rfl) ?_ _
    go_wp2
    exact bodyPost_ret (v := .tuple #[.pointer (some ⟨B, 0, none⟩), .bool ok2]) (by simp [results, Tryz.results42]) rfl ⟨B, _, _, rfl, (unhide HL).1.rebase rfl rfl⟩
   ·go_simp
    refine (unhide CT _).mono ?_
    rintro r zt ⟨rfl, hws⟩
    replace hws := hws.symm
    subst hws
    go_wp2_with fail
    refine hK.out _ _ ?_ (fun _ => ?_)
    ·exact (unhide HC).2.2.2.1
    clear hK K
    try simp only [Act.put, sA, sZ, sS, gA, gZ, gS]
    refine tk 10 (v := ?vvyy10) rfl ?hyvyy10 ?_
    case hyvyy10 => intro w hSw; (try dsimp only at hSw); go_simp; try with_reducible rfl
    try simp only [Act.put, sA, sZ, sS, gA, gZ, gS]
    refine r1 4 rfl (fun K hK => ?_)
    rw [if_pos (by rfl)]
    refine wp_runO (v := .pointer (some ⟨z2.heap.size, 0, none⟩)) (w' := z2.alloc (.cells (wk0 e (.slice a1 n1 p1) (.slice a2 n2 p2) now).toArray 89)) (by as_aux_lemma => kernel_rfl) ?_
    obtain ⟨o1, o2, ap, za, zl⟩ := unhide HC
    have hL := Lay.start ttS (e := e) e1 e2 now o1 o2 ap zl
    have zb := (Below.heap_alloc z2 (.cells (wk0 e (.slice a1 n1 p1) (.slice a2 n2 p2) now).toArray 89) w.heap.size (Array.getElem?_eq_some_iff.1 za).1).trans za
    obtain ⟨B, hB⟩ : ∃ B, z2.heap.size = B := ⟨_, rfl⟩
    rw [hB] at hL
    rw [hB]
    obtain ⟨z3, hz3⟩ : ∃ z', z2.alloc (.cells (wk0 e (.slice a1 n1 p1) (.slice a2 n2 p2) now).toArray 89) = z' := ⟨_, rfl⟩
    rw [hz3] at hL zb
    rw [hz3]
    have HL := hide (And.intro hL zb)
    clear hL o1 o2 ap za zl HC hz3 hB
    refine hK.out _ _ ?_ (fun _ => ?_)
    ·exact zb
    clear hK K zb
    try simp only [Act.put, sA, sZ, sS, gA, gZ, gS]
    refine tk 11 (v := ?vvyyx11) rfl ?hyvyyx11 ?_
    case hyvyyx11 => intro w hSw; (try dsimp only at hSw); go_simp; try with_reducible rfl
    try simp only [Act.put, sA, sZ, sS, gA, gZ, gS]
    refine tk 12 (v := ?vvyyx12) rfl ?hyvyyx12 ?_
    case hyvyyx12 => intro w hSw; (try dsimp only at hSw); go_simp; try with_reducible rfl
    try simp only [Act.put, sA, sZ, sS, gA, gZ, gS]
    refine wpAnyH_done (by kernel_rfl) ?_ _
    go_wp2
    exact bodyPost_ret (v := .tuple #[.pointer (some ⟨B, 0, none⟩), .bool ok2]) (by simp [results, Tryz.results42]) rfl ⟨B, _, _, rfl, (unhide HL).1.rebase rfl rfl⟩
end Go.Proofs.YtahpjlbaagkdoaaGreatDoor
