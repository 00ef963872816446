/- Deframe, the program's and the model's, of any Deframer and text: one answer; what lay in memory stands; the program's under the library's two tables as they are laid. -/
import Derived.Test.YtillpfcldehfdaaDoorSpecDefr
import Derived.Test.YtillpfcldehfdaaDoorImplDefr
import Derived.Test.YtillpfcldehfdaaDoorHoldF
namespace Go.Proofs.YtillpfcldehfdaaDoor
open Go.RowKit
/-- An answer, but for where its row lies. -/
structure Ans where
  wide : Bool
  x : Int
  inn : Bool
  esc : Bool
  long : Bool
  text : ByteArray
  F : List Hd.Fd
  code : Int
def ansV (A : Ans) (v : Value) : Value := .agg #[.bool A.wide, .int .i64 A.x, .bool A.inn, .bool A.esc, .bool A.long, .string A.text, v, .int .i64 A.code]
def ansOf (wide : Bool) (x : Int) (inn esc long : Bool) (u t : ByteArray) : Ans :=
  if t.size ≤ 8000 then
    if rightV x inn esc long u = true then
      ⟨wide, x, (Hd.run x.toNat ⟨inn, esc, long, u.data.toList⟩ t.data.toList).inn, (Hd.run x.toNat ⟨inn, esc, long, u.data.toList⟩ t.data.toList).esc, (Hd.run x.toNat ⟨inn, esc, long, u.data.toList⟩ t.data.toList).long, txt (Hd.run x.toNat ⟨inn, esc, long, u.data.toList⟩ t.data.toList).held, (Hd.finds (gd wide) x.toNat ⟨inn, esc, long, u.data.toList⟩ t.data.toList).take 400, 0⟩
    else ⟨false, 0, false, false, false, ⟨#[]⟩, [], 1⟩
  else ⟨false, 0, false, false, false, ⟨#[]⟩, [], 2⟩
theorem ans_F (wide : Bool) (x : Int) (inn esc long : Bool) (u t : ByteArray) : (ansOf wide x inn esc long u t).F.length ≤ 400 := by
  unfold ansOf
  split
  · split
    · show ((Hd.finds _ _ _ _).take 400).length ≤ 400
      rw [List.length_take]; omega
    · exact Nat.zero_le _
  · exact Nat.zero_le _
theorem right_get {x : Int} {inn esc long : Bool} {u : ByteArray} (h : rightV x inn esc long u = true) : (∃ a : Nat, x = a ∧ a < 4294967296) ∧ u.size ≤ 304 := by
  unfold rightV at h
  rw [Bool.and_eq_true, Bool.and_eq_true] at h
  exact ⟨accOk_get h.1, of_decide_eq_true h.2.1⟩
theorem ans_of_own {w w' : World} {v : Value} {F : List Hd.Fd} (h : w'.ownsRow w.heap.size 44 2 v F.length (fcells F)) : HoldsF w' v F ∧ ∀ g, v.ownBlock = some g → w.heap.size ≤ g :=
  ⟨HoldsF.own h, fun g hg => (World.ownsRow.lt h g hg).1⟩
set_option maxHeartbeats 1000000 in
theorem implDefr_long (wide : Bool) (x : Int) (inn esc long : Bool) (u t : ByteArray) (w : World) (ht : t.size ≤ maxLen) (h8 : ¬ t.size ≤ 8000) :
    Calls Tryd.prog 21 #[.agg #[.bool wide, .int .i64 x, .bool inn, .bool esc, .bool long, .string u], .string t] w fun e w' => e = .returned (ansV ⟨false, 0, false, false, false, ⟨#[]⟩, [], 2⟩ (.slice none 0 0)) ∧ Below w.heap.size w w' := by
  unfold maxLen at ht
  have d0 : (8000 : Int) < (t.size : Int) := by omega
  go_enter Tryd.func21, Tryd.ntmps21
  go_wp2
  refine bodyPost_ret (v := ansV ⟨false, 0, false, false, false, ⟨#[]⟩, [], 2⟩ (.slice none 0 0)) (by simp [results, Tryd.results21, go_sem, ansV]) rfl ⟨rfl, ?_⟩
  exact ((Below.refl _ _).alloc (Nat.le_refl _) _).alloc (by simp) _
set_option maxHeartbeats 1000000 in
theorem implDefr_wrong (wide : Bool) (x : Int) (inn esc long : Bool) (u t : ByteArray) (w : World) (hu : u.size ≤ maxLen) (h8 : t.size ≤ 8000) (hr : rightV x inn esc long u = false) :
    Calls Tryd.prog 21 #[.agg #[.bool wide, .int .i64 x, .bool inn, .bool esc, .bool long, .string u], .string t] w fun e w' => e = .returned (ansV ⟨false, 0, false, false, false, ⟨#[]⟩, [], 1⟩ (.slice none 0 0)) ∧ Below w.heap.size w w' := by
  have d0 : ¬ ((8000 : Int) < (t.size : Int)) := by omega
  have C1 := hide fun v => implRight wide x inn esc long u v hu
  rw [hr] at C1
  go_enter Tryd.func21, Tryd.ntmps21
  go_wp2_with fail
  refine (unhide C1 _).mono ?_
  rintro e w1 ⟨rfl, hb1⟩
  have hsz0 : ((w.alloc (.cells #[.bool wide, .int .i64 x, .bool inn, .bool esc, .bool long, .string u] 38)).alloc (.cells #[.bool false, .int .i64 0, .bool false, .bool false, .bool false, .string ⟨#[]⟩, .slice none 0 0, .int .i64 0] 41)).heap.size = w.heap.size + 2 := by simp
  have hO1 : w1.heap[w.heap.size + 1]? = some (.cells #[.bool false, .int .i64 0, .bool false, .bool false, .bool false, .string ⟨#[]⟩, .slice none 0 0, .int .i64 0] 41) := by
    rw [hb1.block (w.heap.size + 1) (by rw [hsz0]; omega)]
    have h := heap_alloc_last (w.alloc (.cells #[.bool wide, .int .i64 x, .bool inn, .bool esc, .bool long, .string u] 38)) (.cells #[.bool false, .int .i64 0, .bool false, .bool false, .bool false, .string ⟨#[]⟩, .slice none 0 0, .int .i64 0] 41)
    rw [show (w.alloc (.cells #[.bool wide, .int .i64 x, .bool inn, .bool esc, .bool long, .string u] 38)).heap.size = w.heap.size + 1 by simp] at h
    exact h
  have hB1 : Below w.heap.size w w1 := (((Below.refl _ _).alloc (Nat.le_refl _) _).alloc (by simp) _).trans (hb1.mono (by rw [hsz0]; omega))
  obtain ⟨o0, o1, o2, o3, o4, o5, o6, o7, q0, q1, q2, q3, q4, q5, q6, q7⟩ := row8s hO1
  have HL := hide (put8_load hO1)
  have HBB := hide (put8_below (B := w.heap.size + 1) hB1 (show w.heap.size ≤ w.heap.size + 1 by omega))
  clear hO1 hB1 hb1 hsz0
  go_wp2
  refine bodyPost_ret (v := ansV ⟨false, 0, false, false, false, ⟨#[]⟩, [], 1⟩ (.slice none 0 0)) ?_ rfl ⟨rfl, ?_⟩
  · have hld := unhide HL (.bool false) (.int .i64 0) (.bool false) (.bool false) (.bool false) (.string ⟨#[]⟩) (.slice none 0 0) (.int .i64 1)
    rw [results_cell rfl]
    simp [asAddr, Result.andThen, hld, ansV]
  · exact unhide HBB _ _ _ _ _ _ _ _
set_option maxHeartbeats 1000000 in
theorem specDefr_long (wide : Bool) (x : Int) (inn esc long : Bool) (u t : ByteArray) (w : World) (ht : t.size ≤ maxLen) (h8 : ¬ t.size ≤ 8000) :
    Calls Tryd.prog 23 #[.agg #[.bool wide, .int .i64 x, .bool inn, .bool esc, .bool long, .string u], .string t] w fun e w' => e = .returned (ansV ⟨false, 0, false, false, false, ⟨#[]⟩, [], 2⟩ (.slice none 0 0)) ∧ Below w.heap.size w w' := by
  unfold maxLen at ht
  have d0 : (8000 : Int) < (t.size : Int) := by omega
  go_enter Tryd.func23, Tryd.ntmps23
  go_wp2
  refine bodyPost_ret (v := ansV ⟨false, 0, false, false, false, ⟨#[]⟩, [], 2⟩ (.slice none 0 0)) (by simp [results, Tryd.results23, go_sem, ansV]) rfl ⟨rfl, ?_⟩
  exact ((Below.refl _ _).alloc (Nat.le_refl _) _).alloc (by simp) _
set_option maxHeartbeats 1000000 in
theorem specDefr_wrong (wide : Bool) (x : Int) (inn esc long : Bool) (u t : ByteArray) (w : World) (hu : u.size ≤ maxLen) (h8 : t.size ≤ 8000) (hr : rightV x inn esc long u = false) :
    Calls Tryd.prog 23 #[.agg #[.bool wide, .int .i64 x, .bool inn, .bool esc, .bool long, .string u], .string t] w fun e w' => e = .returned (ansV ⟨false, 0, false, false, false, ⟨#[]⟩, [], 1⟩ (.slice none 0 0)) ∧ Below w.heap.size w w' := by
  have d0 : ¬ ((8000 : Int) < (t.size : Int)) := by omega
  have C1 := hide fun v => specRight wide x inn esc long u v hu
  rw [hr] at C1
  go_enter Tryd.func23, Tryd.ntmps23
  go_wp2_with fail
  refine (unhide C1 _).mono ?_
  rintro e w1 ⟨rfl, hb1⟩
  have hsz0 : ((w.alloc (.cells #[.bool wide, .int .i64 x, .bool inn, .bool esc, .bool long, .string u] 38)).alloc (.cells #[.bool false, .int .i64 0, .bool false, .bool false, .bool false, .string ⟨#[]⟩, .slice none 0 0, .int .i64 0] 41)).heap.size = w.heap.size + 2 := by simp
  have hO1 : w1.heap[w.heap.size + 1]? = some (.cells #[.bool false, .int .i64 0, .bool false, .bool false, .bool false, .string ⟨#[]⟩, .slice none 0 0, .int .i64 0] 41) := by
    rw [hb1.block (w.heap.size + 1) (by rw [hsz0]; omega)]
    have h := heap_alloc_last (w.alloc (.cells #[.bool wide, .int .i64 x, .bool inn, .bool esc, .bool long, .string u] 38)) (.cells #[.bool false, .int .i64 0, .bool false, .bool false, .bool false, .string ⟨#[]⟩, .slice none 0 0, .int .i64 0] 41)
    rw [show (w.alloc (.cells #[.bool wide, .int .i64 x, .bool inn, .bool esc, .bool long, .string u] 38)).heap.size = w.heap.size + 1 by simp] at h
    exact h
  have hB1 : Below w.heap.size w w1 := (((Below.refl _ _).alloc (Nat.le_refl _) _).alloc (by simp) _).trans (hb1.mono (by rw [hsz0]; omega))
  obtain ⟨o0, o1, o2, o3, o4, o5, o6, o7, q0, q1, q2, q3, q4, q5, q6, q7⟩ := row8s hO1
  have HL := hide (put8_load hO1)
  have HBB := hide (put8_below (B := w.heap.size + 1) hB1 (show w.heap.size ≤ w.heap.size + 1 by omega))
  clear hO1 hB1 hb1 hsz0
  go_wp2
  refine bodyPost_ret (v := ansV ⟨false, 0, false, false, false, ⟨#[]⟩, [], 1⟩ (.slice none 0 0)) ?_ rfl ⟨rfl, ?_⟩
  · have hld := unhide HL (.bool false) (.int .i64 0) (.bool false) (.bool false) (.bool false) (.string ⟨#[]⟩) (.slice none 0 0) (.int .i64 1)
    rw [results_cell rfl]
    simp [asAddr, Result.andThen, hld, ansV]
  · exact unhide HBB _ _ _ _ _ _ _ _
theorem holds_nil (w : World) (ad : Option Addr) (cp : Nat) : HoldsF w (.slice ad 0 cp) [] := Or.inl ⟨_, _, rfl, rfl⟩
theorem implDefrAll (wide : Bool) (x : Int) (inn esc long : Bool) (u t : ByteArray) (w : World) (hu : u.size ≤ maxLen) (ht : t.size ≤ maxLen) (hT : Lib.Utf8Tabs 1 2 w) :
    Calls Tryd.prog 21 #[.agg #[.bool wide, .int .i64 x, .bool inn, .bool esc, .bool long, .string u], .string t] w fun e w' => ∃ v, e = .returned (ansV (ansOf wide x inn esc long u t) v) ∧ (HoldsF w' v (ansOf wide x inn esc long u t).F ∧ ∀ g, v.ownBlock = some g → w.heap.size ≤ g) ∧ Below w.heap.size w w' := by
  by_cases h8 : t.size ≤ 8000
  · cases hr : rightV x inn esc long u
    · rw [show ansOf wide x inn esc long u t = _ from (if_pos h8).trans (if_neg (by rw [hr]; decide))]
      exact (implDefr_wrong wide x inn esc long u t w hu h8 hr).mono fun e w' ⟨p1, p2⟩ => ⟨_, p1, ⟨holds_nil _ _ _, fun g hg => by cases hg⟩, p2⟩
    · obtain ⟨⟨a, rfl, ha⟩, hu4⟩ := right_get hr
      rw [show ansOf wide a inn esc long u t = _ from (if_pos h8).trans (if_pos hr), Int.toNat_natCast]
      exact (implDeframe_at wide a inn esc long u t w ha h8 hu4 hr hT).mono fun e w' ⟨v, p1, p2, p3⟩ => ⟨v, p1, ans_of_own p2, p3⟩
  · rw [show ansOf wide x inn esc long u t = _ from if_neg h8]
    exact (implDefr_long wide x inn esc long u t w ht h8).mono fun e w' ⟨p1, p2⟩ => ⟨_, p1, ⟨holds_nil _ _ _, fun g hg => by cases hg⟩, p2⟩
theorem specDefrAll (wide : Bool) (x : Int) (inn esc long : Bool) (u t : ByteArray) (w : World) (hu : u.size ≤ maxLen) (ht : t.size ≤ maxLen) :
    Calls Tryd.prog 23 #[.agg #[.bool wide, .int .i64 x, .bool inn, .bool esc, .bool long, .string u], .string t] w fun e w' => ∃ v, e = .returned (ansV (ansOf wide x inn esc long u t) v) ∧ (HoldsF w' v (ansOf wide x inn esc long u t).F ∧ ∀ g, v.ownBlock = some g → w.heap.size ≤ g) ∧ Below w.heap.size w w' := by
  by_cases h8 : t.size ≤ 8000
  · cases hr : rightV x inn esc long u
    · rw [show ansOf wide x inn esc long u t = _ from (if_pos h8).trans (if_neg (by rw [hr]; decide))]
      exact (specDefr_wrong wide x inn esc long u t w hu h8 hr).mono fun e w' ⟨p1, p2⟩ => ⟨_, p1, ⟨holds_nil _ _ _, fun g hg => by cases hg⟩, p2⟩
    · obtain ⟨⟨a, rfl, ha⟩, hu4⟩ := right_get hr
      rw [show ansOf wide a inn esc long u t = _ from (if_pos h8).trans (if_pos hr), Int.toNat_natCast]
      exact (specDeframe_at wide a inn esc long u t w ha h8 hu4 hr).mono fun e w' ⟨v, p1, p2, p3⟩ => ⟨v, p1, ans_of_own p2, p3⟩
  · rw [show ansOf wide x inn esc long u t = _ from if_neg h8]
    exact (specDefr_long wide x inn esc long u t w ht h8).mono fun e w' ⟨p1, p2⟩ => ⟨_, p1, ⟨holds_nil _ _ _, fun g hg => by cases hg⟩, p2⟩
end Go.Proofs.YtillpfcldehfdaaDoor
