/- The laws' own draw (lwAt): a number below a bound out of bytes that were handed in; the world stays as it was. Is a text among others: the law's lwIn; memory stands as it was. -/
import Derived.Test.YtfkeokfmancgiaaSrc
import Derived.Test.YtfkeokfmancgiaaStrRow
import Derived.Deep.DeepCutAuto
namespace Go.Proofs.Ytfkeokfmancgiaa
open Go.RowKit
set_option maxHeartbeats 1000000 in
theorem lwAt (w : World) (B : Nat) (sl : Value) (n q most : Nat) (hq : q < 1000) (hm : most < 4294967296) (hn : n ≤ maxLen) (hD : Dat w B sl n) :
    Calls Try.prog 25 #[sl, .int .i64 q, .int .i64 most] w fun e w' => ∃ r : Nat, e = .returned (.int .i64 r) ∧ (r < most ∨ r = 0) ∧ w' = w := by
  unfold maxLen at hn
  by_cases h1 : most ≤ 1
  · have d1 : decide ((most : Int) ≤ 1) = true := decide_eq_true (by omega)
    obtain ⟨a, cap, rfl⟩ := hD.1
    clear hD
    go_enter Try.func25, Try.ntmps25
    go_wp2
    all_goals first | (exfalso; omega) | (go_ret; exact ⟨0, rfl, Or.inr rfl, rfl⟩)
  · have d1 : decide ((most : Int) ≤ 1) = false := decide_eq_false (by omega)
    by_cases h0 : n = 0
    · obtain ⟨a, cap, rfl⟩ := hD.1
      clear hD
      have d2 : ((n : Int) == 0) = true := beq_iff_eq.2 (by omega)
      go_enter Try.func25, Try.ntmps25
      go_wp2
      all_goals first | (exfalso; omega) | (go_ret; exact ⟨0, rfl, Or.inr rfl, rfl⟩)
    · have hlt : q % n < n := Nat.mod_lt _ (by omega)
      obtain ⟨b, o, cap, x, rfl, hb, hx, hx2⟩ := hD.2 (q % n) hlt
      have d2 : ((n : Int) == 0) = false := beq_eq_false_iff_ne.2 (by omega)
      have e1 : (q : Int) % (n : Int) = ((q % n : Nat) : Int) := rfl
      clear hD
      generalize q % n = k at *
      have hk : (k : Int) < (n : Int) := by omega
      go_enter Try.func25, Try.ntmps25
      go_wp2
      go_ret
      exact ⟨x % most, rfl, Or.inl (Nat.mod_lt _ (by omega)), rfl⟩
end Go.Proofs.Ytfkeokfmancgiaa
namespace Go.Proofs.Ytfkeokfmancgiaa
open Go.RowKit
/-- Is a text among others. -/
def inT (L : List ByteArray) (t : ByteArray) : Bool := L.any fun x => x.toList == t.toList
theorem inT_snoc (L : List ByteArray) (t : ByteArray) (i : Nat) (hi : i < L.length) : inT (L.take (i + 1)) t = (inT (L.take i) t || L[i].toList == t.toList) := by
  unfold inT
  rw [List.take_succ_eq_append_getElem hi, List.any_append]
  simp
set_option maxHeartbeats 1000000 in
theorem lwInT (v : Value) (L : List ByteArray) (t : ByteArray) (w : World) (hn : L.length ≤ 1000000) (h : HoldsT w v L) :
    Calls Try.prog 26 #[v, .string t] w fun e w' => e = .returned (.bool (inT L t)) ∧ w' = w := by
  have HA : Hid (∀ i (hi : i < L.length), ∃ g, (∃ cp, v = .slice (some ⟨g, 0, none⟩) L.length cp) ∧ w.cell? ⟨g, i, none⟩ = some (.string L[i])) := by
    refine hide fun i hi => ?_
    rcases h with ⟨_, _, _, e⟩ | ⟨g, cp, cur, e, q1, q2, q3⟩
    · rw [e] at hi; exact absurd hi (Nat.not_lt_zero _)
    · exact ⟨g, ⟨cp, e⟩, by rw [cell_of_row _ _ _ _ _ _ q1, q3 i hi]; exact scells_get L i _ (List.getElem?_eq_getElem hi)⟩
  obtain ⟨a1, c1, rfl⟩ := h.form
  have HT : Hid (L.take L.length = L) := hide List.take_length
  obtain ⟨n, hL⟩ : ∃ n, L.length = n := ⟨_, rfl⟩
  obtain ⟨R, hR⟩ : ∃ R, inT L t = R := ⟨_, rfl⟩
  have HR := hide hR
  have HM : Hid (∀ i (hi : i < L.length), inT (L.take i) t = false → (L[i].toList == t.toList) = true → inT L t = true) := hide fun i hi _ he => List.any_eq_true.2 ⟨L[i], List.getElem_mem hi, he⟩
  rw [hL] at hn HT ⊢
  rw [hR]
  clear h hR
  go_enter Try.func26, Try.ntmps26
  go_wp2_with fail
  go_loop [5] (fun y => ∃ (i : Nat), i ≤ n ∧ y = .int .i64 i ∧ inT (L.take i) t = false) (fun y => n - (intOf y).toNat)
  case atStart => exact ⟨0, Nat.zero_le _, rfl, rfl⟩
  case round =>
    obtain ⟨i, hi, rfl, hf⟩ := hrel
    by_cases hlt : i < n
    · have d1 : (i : Int) < (n : Int) := by omega
      have d0 : (0 : Int) ≤ (i : Int) := by omega
      obtain ⟨g1, ⟨cp1, e1⟩, k1⟩ := unhide HA i (by omega)
      cases e1
      have HS := hide (inT_snoc L t i (by omega))
      have HMM := hide (unhide HM i (by omega) hf)
      generalize L[i]'(by omega) = x at *
      have HF := hide hf
      clear hf HA HM HT
      cases hq : (x.toList == t.toList)
      · rw [hq, unhide HF, Bool.or_false] at HS
        go_wp2_with fail
        go_round
        case rel => exact ⟨i + 1, by omega, by go_num, unhide HS⟩
        case measure => simp [intOf]; omega
      · have e := (unhide HR).symm.trans (unhide HMM hq)
        subst e
        clear HR HMM HS HF
        go_wp2
        go_ret
        exact ⟨rfl, rfl⟩
    · have e : i = n := by omega
      subst e
      have d1 : ¬ ((i : Int) < (i : Int)) := by omega
      rw [unhide HT] at hf
      have e := (unhide HR).symm.trans hf
      subst e
      clear HR HM HA HT hf
      go_wp2
      go_ret
      exact ⟨rfl, rfl⟩
end Go.Proofs.Ytfkeokfmancgiaa
