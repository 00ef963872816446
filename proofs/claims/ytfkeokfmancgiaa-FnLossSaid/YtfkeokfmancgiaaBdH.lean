/- slices.Min and slices.Clone of numbers; memory stands. -/
import Derived.Test.YtfkeokfmancgiaaBdJ
namespace Go.Proofs.Ytfkeokfmancgiaa
open Go.RowKit
/-- The least of numbers, from a first one on. -/
def minP (a : Int) (L : List Int) : Int := L.foldl min a
theorem minP_snoc (a : Int) (L : List Int) (b : Int) : minP a (L ++ [b]) = min (minP a L) b := by
  unfold minP
  rw [List.foldl_append]
  rfl
set_option maxHeartbeats 4000000 in
theorem iMinB (q : World) (L : List Int) (ad : Option Addr) (cp : Nat) (hL : HoldsI q (.slice ad L.length cp) L) (h0 : 0 < L.length) (hlen : L.length ≤ 1000) :
    Calls Try.prog 61 #[.slice ad L.length cp] q fun e q' => e = .returned (.int .i64 (minP L[0] L)) ∧ q' = q := by
  obtain ⟨g, cp', ev, c0⟩ := getI hL 0 h0
  cases ev
  have HL := hide fun i (hi : i < L.length) => getI hL i hi
  have d0 : ¬ ((L.length : Int) < 1) := by omega
  have d1 : (0 : Int) < (L.length : Int) := by omega
  generalize ha : L[0] = a at c0
  have hm1 : minP a (L.take 1) = a := by
    cases L with
    | nil => simp at h0
    | cons x L => simp at ha; subst ha; simp [minP]
  clear hL
  go_enter Try.func61, Try.ntmps61
  go_upto_region 5 with fail
  go_loopg [3, 4] L.length (fun k x y wr => ∃ i : Nat, y = .int .i64 (i : Nat) ∧ 1 ≤ i ∧ i ≤ L.length ∧ i + k = L.length + 1 ∧ x = .int .i64 (minP a (L.take i)) ∧ wr = q)
  case atStart => exact ⟨1, rfl, Nat.le_refl _, h0, by omega, by rw [hm1], rfl⟩
  case round =>
    obtain ⟨i, rfl, hi1, hil, hik, rfl, hw⟩ := hrel
    replace hw := hw.symm
    subst hw
    by_cases hlt : i < L.length
    · have e1 : (i : Int) < (L.length : Int) := by omega
      obtain ⟨g', cp', ev, c1⟩ := unhide HL i hlt
      cases ev
      have htk : L.take (i + 1) = L.take i ++ [L[i]] := by rw [List.take_succ_eq_append_getElem hlt]
      generalize L[i] = b at c1 htk
      have hms := minP_snoc a (L.take i) b
      rw [← htk] at hms
      generalize minP a (L.take i) = x at hms
      have HM := hide hms
      clear hms htk
      go_wp2_with fail
      go_roundg (gk - 1)
      case measure => omega
      case rel => exact ⟨i + 1, by push_cast; rfl, by omega, by omega, by omega, by rw [unhide HM], rfl⟩
    · have e1 : ¬ ((i : Int) < (L.length : Int)) := by omega
      have ei : i = L.length := by omega
      subst ei
      go_wp2_with fail
      go_ret
      exact ⟨rfl, rfl⟩
set_option maxHeartbeats 4000000 in
set_option maxRecDepth 100000 in
theorem iCloneB (q : World) (L : List Int) (ad : Option Addr) (cp : Nat) (hL : HoldsI q (.slice ad L.length cp) L) (h0 : 0 < L.length) (hlen : L.length ≤ 1000) :
    Calls Try.prog 60 #[.slice ad L.length cp] q fun e q' => ∃ v, e = .returned v ∧ q'.ownsRow q.heap.size 2 1 v L.length (icells L) ∧ Below q.heap.size q q' := by
  obtain ⟨g, cp', ev, _⟩ := getI hL 0 h0
  cases ev
  have hbA := (Below.refl q.heap.size q).alloc (Nat.le_refl _) (.cells #[] 2)
  have hLA := hL.below hbA rfl
  have hcl : Hid (∀ j u, (icells L)[j]? = some u → (q.alloc (.cells #[] 2)).cell? ((⟨g, 0, none⟩ : Addr).add j) = some u) := hide fun j u hu => by
    have hj : j < L.length := by have := (List.getElem?_eq_some_iff.1 hu).1; rw [icells_len] at this; exact this
    obtain ⟨g', cp', ev, c⟩ := getI hLA j hj
    cases ev
    rw [Addr.add_lit, Nat.zero_add, c, ← hu]
    simp [icells, hj]
  have how : Hid ((q.alloc (.cells #[] 2)).ownsRow q.heap.size 2 1 (.slice (some ⟨q.heap.size, 0, none⟩) 0 0) 0 (icells [])) := hide (World.ownsRow_lit _ _ 0 (Nat.le_refl _) (by decide) rfl)
  have HB := hide hbA
  clear hL hLA hbA
  obtain ⟨i0, hi0, hz0, hz1, hz2⟩ := iinfo
  have hnil : ∀ W : World, (binOp .eql 27 (.slice (some ⟨g, 0, none⟩) L.length cp) (.slice none 0 0)).run Try.prog W = .ok (.bool false) W := fun _ => rfl
  go_enter Try.func60, Try.ntmps60
  go_wp2_with (first
    | (at_builtin
       refine wpList_append_own _ rfl _ _ 27 rfl q.heap.size 2 i0 _ 1 8 Try.underlying27 hi0 hz0 hz1 hz2 rfl (by decide) (.slice (some ⟨q.heap.size, 0, none⟩) 0 0) 0 (icells []) rfl (unhide how) ⟨g, 0, none⟩ L.length cp (icells L) rfl (by rw [icells_len]; omega) (unhide hcl) (by intro u hu; simp [icells] at hu; obtain ⟨x, _, rfl⟩ := hu; rfl) (by unfold maxLen; omega) (by omega) (by simp) ?_
       rintro v9 w9 ho9 hg9 _
       have H9 := hide (And.intro ho9 hg9)
       clear ho9 hg9))
  go_ret
  have h9 := (unhide H9).1
  rw [Nat.zero_add, show icells [] ++ icells L = icells L from rfl] at h9
  exact ⟨v9, rfl, h9, (unhide HB).grown (unhide H9).2 (unhide HB).size (fun k hk => by cases hk; exact Nat.le_refl _)⟩
end Go.Proofs.Ytfkeokfmancgiaa
