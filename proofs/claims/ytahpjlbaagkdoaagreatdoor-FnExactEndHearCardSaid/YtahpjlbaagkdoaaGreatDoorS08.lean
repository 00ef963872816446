/- Are options right: the model's walk; what lay in memory stands. -/
import Derived.Test.YtahpjlbaagkdoaaGreatDoorS04
import Derived.Test.YtahpjlbaagkdoaaGreatDoorShW
namespace Go.Proofs.YtahpjlbaagkdoaaGreatDoor
open Go.RowKit
set_option maxHeartbeats 1000000 in
theorem specRight0 (ad : Option Addr) (cp : Nat) (w : World) : Calls Tryz.prog 68 #[.slice ad 0 cp] w fun e w' => e = .returned (.bool true) ∧ Below w.heap.size w w' := by
 go_enter Tryz.func68, Tryz.ntmps68
 go_wp2_with fail
 go_loopw [3] (fun y wr => y = .int .i64 0 ∧ wr = w) (fun _ _ => 0)
 case atStart => exact ⟨rfl, rfl⟩
 case round =>
  obtain ⟨rfl, rfl⟩ := hrel
  go_wp2
  go_ret
  exact ⟨rfl, Below.refl _ _⟩
set_option maxHeartbeats 2000000 in
theorem specRightG (g cp : Nat) (F : List Op.Opt) (cur : Array Value) (w : World) (hm : F.length ≤ maxLen) (h1 : w.heap[g]? = some (.cells cur 116)) (a1 : ∀ j, j < F.length * 2 → cur[j]? = (ocells F)[j]?) :
  Calls Tryz.prog 68 #[.slice (some ⟨g, 0, none⟩) F.length cp] w fun e w' => e = .returned (.bool (Op.right F)) ∧ Below w.heap.size w w' := by
 unfold maxLen at hm
 have hl1 : g < w.heap.size := (Array.getElem?_eq_some_iff.1 h1).1
 obtain ⟨n, hn⟩ : ∃ n, F.length = n := ⟨_, rfl⟩
 by_cases h20 : 20 < n
 ·have d0 : (20 : Int) < (n : Int) := by omega
  rw [right_long (by omega), hn]
  go_enter Tryz.func68, Tryz.ntmps68
  go_wp2
  go_ret
  exact ⟨rfl, Below.refl _ _⟩
 ·have d0 : ¬ ((20 : Int) < (n : Int)) := by omega
  have HA : Hid (∀ i (hi : i < n), cur[i * 2]? = some (.int .i64 (F[i]'(by omega)).kind) ∧ cur[i * 2 + 1]? = some (.string (F[i]'(by omega)).data)) := by
   refine hide fun i hi => ?_
   have q := ocells_get F i (F[i]'(by omega)) (List.getElem?_eq_getElem (by omega))
   exact ⟨(a1 _ (by omega)).trans q.1, (a1 _ (by omega)).trans q.2⟩
  have HT : Hid ((∀ k (hk : k < n), Op.ok (F[k]'(by omega)) = true) → Op.right F = true) := hide fun h => right_true (by omega) fun k hk => h k (by omega)
  have HF : Hid (∀ k (hk : k < n), Op.ok (F[k]'(by omega)) = false → Op.right F = false) := hide fun k hk h => right_false (by omega) h
  rw [hn]
  clear a1 hm
  generalize Op.right F = RT at *
  go_enter Tryz.func68, Tryz.ntmps68
  go_wp2_with fail
  go_loopw [3] (fun y wr => ∃ (i : Nat), i ≤ n ∧ y = .int .i64 i ∧ (∀ k (hk : k < i) (hkn : k < n), Op.ok (F[k]'(by omega)) = true) ∧ Below w.heap.size w wr) (fun y _ => n - (intOf y).toNat)
  case atStart => exact ⟨0, Nat.zero_le _, rfl, fun k hk => by omega, Below.refl _ _⟩
  case round =>
   obtain ⟨i, hi, rfl, hall, hb⟩ := hrel
   by_cases hlt : i < n
   ·have d1 : (i : Int) < (n : Int) := by omega
    obtain ⟨q1, q2⟩ := unhide HA i hlt
    have e1 := (hb.block g hl1).trans h1
    have hf := unhide HF i hlt
    have hall2 : Op.ok (F[i]'(by omega)) = true → ∀ k (hk : k < i + 1) (hkn : k < n), Op.ok (F[k]'(by omega)) = true := by
     intro h k hk hkn
     rcases Nat.lt_or_ge k i with hk2 | hk2
     ·exact hall k hk2 hkn
     ·have : k = i := by omega
      subst this
      exact h
    generalize hO : F[i]'(by omega) = o at *
    have k0 : wr.cell? ⟨g, i * 2, none⟩ = some (.int .i64 o.kind) := by rw [cell_of_row _ _ _ _ _ _ e1]; exact q1
    have k1 : wr.cell? ⟨g, i * 2 + 1, none⟩ = some (.string o.data) := by rw [cell_of_row _ _ _ _ _ _ e1]; exact q2
    have HAL := hide hall2
    have HFF := hide hf
    have C := hide fun v => specIs255 o.kind 1 v
    obtain ⟨kd, dt⟩ := o
    dsimp only at k0 k1 C
    clear q1 q2 e1 hall hall2 hf hO HA HT HF h1
    refine ok_ways ⟨kd, dt⟩ _ (fun a r => ?_) (fun a b r => ?_) (fun a b c r => ?_) (fun a b c r => ?_)
    all_goals dsimp only at *
    ·have hR := unhide HFF r
     subst hR
     rw [show (decide (1 ≤ kd) && decide (kd ≤ 255)) = false by simp; omega] at C
     clear HFF HAL r a
     go_wp2_with (first | (go_at_call 72; refine (unhide C _).mono ?_; rintro e w2 ⟨rfl, hw⟩; replace hw := hw.symm; subst hw))
     go_ret
     exact ⟨rfl, hb⟩
    ·have hR := unhide HFF r
     subst hR
     rw [show (decide (1 ≤ kd) && decide (kd ≤ 255)) = false by simp; omega] at C
     clear HFF HAL r a b
     go_wp2_with (first | (go_at_call 72; refine (unhide C _).mono ?_; rintro e w2 ⟨rfl, hw⟩; replace hw := hw.symm; subst hw))
     go_ret
     exact ⟨rfl, hb⟩
    ·have f2 : decide ((20 : Int) < (dt.size : Int)) = true := decide_eq_true (by omega)
     have hR := unhide HFF r
     subst hR
     rw [show (decide (1 ≤ kd) && decide (kd ≤ 255)) = true by simp; omega] at C
     clear HFF HAL r a b c
     go_wp2_with (first | (go_at_call 72; refine (unhide C _).mono ?_; rintro e w2 ⟨rfl, hw⟩; replace hw := hw.symm; subst hw))
     go_ret
     exact ⟨rfl, hb⟩
    ·have f2 : decide ((20 : Int) < (dt.size : Int)) = false := decide_eq_false (by omega)
     have hR := unhide HAL r
     have HR := hide hR
     rw [show (decide (1 ≤ kd) && decide (kd ≤ 255)) = true by simp; omega] at C
     clear HFF HAL r a b c hR
     go_wp2_with (first | (go_at_call 72; refine (unhide C _).mono ?_; rintro e w2 ⟨rfl, hw⟩; replace hw := hw.symm; subst hw))
     go_roundw
     case rel => exact ⟨i + 1, by omega, by go_num, unhide HR, hb⟩
     case measure => simp [intOf]; omega
   ·have e : i = n := by omega
    subst e
    have d1 : ¬ ((i : Int) < (i : Int)) := by omega
    have hR := unhide HT fun k hk => hall k hk hk
    subst hR
    go_wp2
    go_ret
    exact ⟨rfl, hb⟩
theorem specRightAll (v : Value) (F : List Op.Opt) (w : World) (hm : F.length ≤ maxLen) (h : HoldsO w v F) :
  Calls Tryz.prog 68 #[v] w fun e w' => e = .returned (.bool (Op.right F)) ∧ Below w.heap.size w w' := by
 rcases h with ⟨ad, cp, rfl, rfl⟩ | ⟨g, cp, cur, rfl, h2, _, h4⟩
 ·exact specRight0 ad cp w
 ·exact specRightG g cp F cur w hm h2 h4
end Go.Proofs.YtahpjlbaagkdoaaGreatDoor
