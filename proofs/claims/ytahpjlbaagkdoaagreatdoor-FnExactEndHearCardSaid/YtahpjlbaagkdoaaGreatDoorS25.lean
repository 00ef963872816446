/- The model's copy of an End, and its first step: an end at work, with rows of its own, and whether the End and the time are right; what lay in memory stands. -/
import Derived.Test.YtahpjlbaagkdoaaGreatDoorS24
import Derived.Test.YtahpjlbaagkdoaaGreatDoorShW
namespace Go.Proofs.YtahpjlbaagkdoaaGreatDoor
open Go.RowKit
abbrev enZ : Array Value := #[.int .i64 0, .int .i64 0, .int .i64 0, .bool false, .bool false, .bool false, .int .i64 0, .int .i64 0, .int .i64 0, .bool false, .bool false, .bool false, .int .i64 0, .int .i64 0, .int .i64 0, .int .i64 0, .int .i64 0, .slice none 0 0, .slice none 0 0, .bool false, .int .i64 0, .int .i64 0, .bool false, .bool false, .bool false, .int .i64 0, .int .i64 0, .bool false, .bool false, .bool false]
theorem enC_all (e : En) (a1 a2 : Option Addr) (n1 n2 m1 m2 : Nat) : (enC e (.slice a1 n1 m1) (.slice a2 n2 m2)).all (·.oneCell') = true := by kernel_rfl
theorem setRow_ne (w : World) (g k : Nat) (cs : Array Value) (h : k ≠ g) : (w.setRow g cs).heap[k]? = w.heap[k]? := by
  unfold World.setRow
  simp [Array.getElem?_modify, Ne.symm h]
theorem madeO (z : World) : (z.alloc (.cells #[] 116)).ownsRow z.heap.size 116 2 (.slice (some ⟨z.heap.size, 0, none⟩) ([] : List Op.Opt).length 0) ([] : List Op.Opt).length (ocells []) :=
  World.ownsRow_made z #[] 0 (Nat.le_refl _) (Nat.zero_le _) rfl
set_option maxHeartbeats 4000000 in
set_option maxRecDepth 100000 in
theorem sCopy (e : En) (x1 x2 : Option Addr) (y1 y2 : Nat) (F1 F2 : List Op.Opt) (w : World) (l1 : F1.length ≤ 1048576) (l2 : F2.length ≤ 1048576) (h1 : HoldsO w (.slice x1 F1.length y1) F1) (h2 : HoldsO w (.slice x2 F2.length y2) F2) :
    Calls Tryz.prog 87 #[.agg (enC e (.slice x1 F1.length y1) (.slice x2 F2.length y2))] w fun r w' => ∃ v1 v2, r = .returned (.agg (enC e v1 v2)) ∧ w'.ownsRow w.heap.size 116 2 v1 F1.length (ocells F1) ∧ w'.ownsRow w.heap.size 116 2 v2 F2.length (ocells F2) ∧ Ap v1 v2 ∧ Below w.heap.size w w' := by
  have HH := hide (And.intro h1 h2)
  clear h1 h2
  obtain ⟨n1, e1⟩ : ∃ n, F1.length = n := ⟨_, rfl⟩
  obtain ⟨n2, e2⟩ : ∃ n, F2.length = n := ⟨_, rfl⟩
  rw [e1] at HH l1 ⊢
  rw [e2] at HH l2 ⊢
  have hst := start2r w (.cells (enC e (.slice x1 n1 y1) (.slice x2 n2 y2)) 29) (.cells enZ 29)
  have HST := hide hst
  clear hst
  obtain ⟨A, hA⟩ : ∃ A, w.heap.size = A := ⟨_, rfl⟩
  go_enter Tryz.func87, Tryz.ntmps87
  go_upto_region 1 with fail
  refine gen_world (fun z => z.heap[A]? = some (.cells (enC e (.slice x1 n1 y1) (.slice x2 n2 y2)) 29) ∧ z.heap[A + 1]? = some (.cells enZ 29) ∧ Below A w z) ?_ ?_
  · obtain ⟨_, b, c, d⟩ := unhide HST
    rw [hA] at b c d
    exact ⟨b, c, d⟩
  clear HST
  rintro z ⟨za, zb, zl⟩
  have hzA : A + 1 < z.heap.size := (Array.getElem?_eq_some_iff.1 zb).1
  have bz : Below z.heap.size z (z.alloc (.cells #[] 116)) := (Below.refl _ _).alloc (Nat.le_refl _) _
  have za1 := (bz.block A (by omega)).trans za
  have c17 : (z.alloc (.cells #[] 116)).cell? ⟨A, 17, none⟩ = some (.slice x1 n1 y1) := by rw [cell_of_row _ _ _ _ _ _ za1]; rfl
  have hzs : A + 1 + 1 ≤ z.heap.size := hzA
  have HO := hide (madeO z)
  have HZ := hide (And.intro za (And.intro zb zl))
  have HM : Hid (HoldsO (z.alloc (.cells #[] 116)) (.slice x1 n1 y1) F1) := hide (((unhide HH).1.below zl hA.symm).below bz rfl)
  clear za zb za1 bz
  go_upto_region 2 with (first
    | (at_builtin; refine append_od rfl _ _ rfl z.heap.size (.slice (some ⟨z.heap.size, 0, none⟩) 0 0) (.slice x1 n1 y1) [] F1 rfl rfl (unhide HO) (unhide HM) (Nat.zero_le _) (by omega) (by simp) ?_; rintro v6 w6 ho6 hg6
       have a6 := (hg6.block A (by simp; omega) (fun e => by have e' : _ = z.heap.size := Option.some.inj e; omega)).trans ((Below.heap_alloc _ _ _ (by omega)).trans (unhide HZ).1)
       have b6 := (hg6.block (A + 1) (by simp; omega) (fun e => by have e' : _ = z.heap.size := Option.some.inj e; omega)).trans ((Below.heap_alloc _ _ _ (by omega)).trans (unhide HZ).2.1)
       have k6 : w6.cell? ⟨A, 17, none⟩ = some (.slice x1 n1 y1) := by rw [cell_of_row _ _ _ _ _ _ a6]; rfl
       have f6 : w6.frozen? ⟨A, 17, none⟩ = false := frz a6 17
       have H6 := hide (And.intro a6 (And.intro b6 (And.intro ho6 hg6)))
       obtain ⟨a0, c0, hv6⟩ := own_form ho6
       rw [List.nil_append, e1] at hv6
       subst hv6
       clear a6 b6 ho6 hg6))
  refine gen_world (fun q => q.heap[A]? = some (.cells (enC e (.slice a0 n1 c0) (.slice x2 n2 y2)) 29) ∧ q.heap[A + 1]? = some (.cells enZ 29) ∧ q.ownsRow z.heap.size 116 2 (.slice a0 n1 c0) n1 (ocells F1) ∧ Below A w q) ?_ ?_
  · obtain ⟨a6, b6, ho6, hg6⟩ := unhide H6
    rw [List.nil_append, e1] at ho6
    have hno : (Value.slice a0 n1 c0).ownBlock ≠ some A := fun e => by have := (ho6.lt A e).1; omega
    have hk : ∀ k, k ≠ A → (w6.setCell ⟨A, 17, none⟩ (.slice a0 n1 c0)).heap[k]? = w6.heap[k]? := fun k hk => heap_setCell_other w6 _ _ _ hk
    refine ⟨heap_setCell_same w6 A 17 _ _ (.slice a0 n1 c0) a6, (hk (A + 1) (by omega)).trans b6, own_other ho6 fun g hg => hk g fun e => hno (e ▸ hg), ?_⟩
    refine Below.setCell (p := ⟨A, 17, none⟩) ?_ (Nat.le_refl _) _
    have hl := (unhide HZ).2.2
    exact ⟨hg6.os.trans hl.os, hg6.tape.trans hl.tape, hg6.output.trans hl.output, Nat.le_trans (Nat.le_trans hl.size (by simp)) hg6.size, fun b (hb : b < A) => (hg6.block b (by simp; omega) (fun e => by have e' : _ = z.heap.size := Option.some.inj e; omega)).trans ((Below.heap_alloc _ _ _ (by omega)).trans (hl.block b hb))⟩
  clear H6 HZ HO HM c17 k6 f6 hzA zl
  rintro q ⟨qa, qb, qo, ql⟩
  have hqA : A + 1 < q.heap.size := (Array.getElem?_eq_some_iff.1 qb).1
  have bq : Below q.heap.size q (q.alloc (.cells #[] 116)) := (Below.refl _ _).alloc (Nat.le_refl _) _
  have qa1 := (bq.block A (by omega)).trans qa
  have c18 : (q.alloc (.cells #[] 116)).cell? ⟨A, 18, none⟩ = some (.slice x2 n2 y2) := by rw [cell_of_row _ _ _ _ _ _ qa1]; rfl
  have HO := hide (madeO q)
  have HZ := hide (And.intro qa (And.intro qb (And.intro qo ql)))
  have HM : Hid (HoldsO (q.alloc (.cells #[] 116)) (.slice x2 n2 y2) F2) := hide (((unhide HH).2.below ql hA.symm).below bq rfl)
  clear qa qb qa1 bq qo
  go_upto_region 3 with (first
    | (at_builtin; refine append_od rfl _ _ rfl q.heap.size (.slice (some ⟨q.heap.size, 0, none⟩) 0 0) (.slice x2 n2 y2) [] F2 rfl rfl (unhide HO) (unhide HM) (Nat.zero_le _) (by omega) (by simp) ?_; rintro v6 w6 ho6 hg6
       have a6 := (hg6.block A (by simp; omega) (fun e => by have e' : _ = q.heap.size := Option.some.inj e; omega)).trans ((Below.heap_alloc _ _ _ (by omega)).trans (unhide HZ).1)
       have b6 := (hg6.block (A + 1) (by simp; omega) (fun e => by have e' : _ = q.heap.size := Option.some.inj e; omega)).trans ((Below.heap_alloc _ _ _ (by omega)).trans (unhide HZ).2.1)
       have k6 : w6.cell? ⟨A, 18, none⟩ = some (.slice x2 n2 y2) := by rw [cell_of_row _ _ _ _ _ _ a6]; rfl
       have f6 : w6.frozen? ⟨A, 18, none⟩ = false := frz a6 18
       have H6 := hide (And.intro a6 (And.intro b6 (And.intro ho6 hg6)))
       obtain ⟨a2, c2, hv6⟩ := own_form ho6
       rw [List.nil_append, e2] at hv6
       subst hv6
       clear a6 b6 ho6 hg6))
  refine gen_world (fun u => u.heap[A]? = some (.cells (enC e (.slice a0 n1 c0) (.slice a2 n2 c2)) 29) ∧ u.heap[A + 1]? = some (.cells enZ 29) ∧ u.ownsRow (A + 1 + 1) 116 2 (.slice a0 n1 c0) n1 (ocells F1) ∧ u.ownsRow (A + 1 + 1) 116 2 (.slice a2 n2 c2) n2 (ocells F2) ∧ Ap (.slice a0 n1 c0) (.slice a2 n2 c2) ∧ Below A w u) ?_ ?_
  · obtain ⟨a6, b6, ho6, hg6⟩ := unhide H6
    obtain ⟨_, _, qo, hl⟩ := unhide HZ
    rw [List.nil_append, e2] at ho6
    have hno : (Value.slice a2 n2 c2).ownBlock ≠ some A := fun e => by have := (ho6.lt A e).1; omega
    have hn1 : ∀ g, (Value.slice a0 n1 c0).ownBlock = some g → A + 1 + 1 ≤ g ∧ g < q.heap.size := fun g hg => ⟨by have := (qo.lt g hg).1; omega, (qo.lt g hg).2⟩
    have hk : ∀ k, k ≠ A → (w6.setCell ⟨A, 18, none⟩ (.slice a2 n2 c2)).heap[k]? = w6.heap[k]? := fun k hk => heap_setCell_other w6 _ _ _ hk
    have o1 : w6.ownsRow z.heap.size 116 2 (.slice a0 n1 c0) n1 (ocells F1) := own_other qo fun g hg => (hg6.block g (by have := (hn1 g hg).2; simp; omega) (fun e => by have e' : _ = q.heap.size := Option.some.inj e; have := (hn1 _ hg).2; omega)).trans (Below.heap_alloc _ _ _ (hn1 g hg).2)
    refine ⟨heap_setCell_same w6 A 18 _ _ (.slice a2 n2 c2) a6, (hk (A + 1) (by omega)).trans b6, own_mono (own_other o1 fun g hg => hk g fun e => by have := (hn1 g hg).1; omega) hzs, own_mono (own_other ho6 fun g hg => hk g fun e => hno (e ▸ hg)) (by omega), fun g hg e => by have h1 := (hn1 g hg).2; have h2 := (ho6.lt g e).1; omega, ?_⟩
    refine Below.setCell (p := ⟨A, 18, none⟩) ?_ (Nat.le_refl _) _
    exact ⟨hg6.os.trans hl.os, hg6.tape.trans hl.tape, hg6.output.trans hl.output, Nat.le_trans (Nat.le_trans hl.size (by simp)) hg6.size, fun b (hb : b < A) => (hg6.block b (by simp; omega) (fun e => by have e' : _ = q.heap.size := Option.some.inj e; omega)).trans ((Below.heap_alloc _ _ _ (by omega)).trans (hl.block b hb))⟩
  clear H6 HZ HO HM c18 k6 f6 hqA ql
  rintro u ⟨ua, ub, uo1, uo2, uap, ul⟩
  have hall := enC_all e a0 a2 n1 n2 c0 c2
  have HU := hide (And.intro ua (And.intro ub (And.intro uo1 (And.intro uo2 (And.intro uap ul)))))
  clear ua ub uo1 uo2 uap ul
  apply wp_region_lit
  refine wpList_load_row rfl 29 (.tmp 1) rfl A rfl 29 (enC e (.slice a0 n1 c0) (.slice a2 n2 c2)) (0, 0) _ (unhide HU).1 Tryz.underlying29 rfl infoE ?_
  refine wpList_store_rowTo rfl 29 (.tmp 2) (.tmp 13) rfl rfl (A + 1) (enC e (.slice a0 n1 c0) (.slice a2 n2 c2)) rfl rfl 29 enZ (unhide HU).2.1 infoE rfl hall ?_
  apply wpList_nil
  simp only [Act.put, List.setIfInBounds_toArray, List.set_cons_zero, List.set_cons_succ]
  go_wp2
  refine bodyPost_ret (v := .agg (enC e (.slice a0 n1 c0) (.slice a2 n2 c2))) (by simp [results, Tryz.results87, asAddr, loadEn (setRow_heap u (A + 1) _ (enC e (.slice a0 n1 c0) (.slice a2 n2 c2)) _ _ (unhide HU).2.1)]) rfl ?_
  obtain ⟨ua, ub, uo1, uo2, uap, ul⟩ := unhide HU
  rw [hA]
  exact ⟨_, _, rfl, own_mono (own_other uo1 fun g hg => setRow_ne u (A + 1) g _ fun e => by have := (uo1.lt g hg).1; omega) (by omega), own_mono (own_other uo2 fun g hg => setRow_ne u (A + 1) g _ fun e => by have := (uo2.lt g hg).1; omega) (by omega), uap, below_row ul (by omega) _⟩
end Go.Proofs.YtahpjlbaagkdoaaGreatDoor
