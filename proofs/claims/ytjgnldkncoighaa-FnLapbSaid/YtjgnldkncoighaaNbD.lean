/- What is read of bytes as a numbered frame: the program's walk and the model's; memory that was there stands. -/
import Derived.Test.YtjgnldkncoighaaNbB
import Derived.Test.YtjgnldkncoighaaCln
namespace Go.Proofs.Ytjgnldkncoighaa
open Go.RowKit
set_option maxHeartbeats 400000 in
theorem cloneStr (t : ByteArray) (w : World) (ht : t.size ≤ 281474976710656) : Calls Try.prog 34 #[.string t] w fun e w' => e = .returned (.string t) ∧ Below w.heap.size w w' := by
  have C := hide (Any.stringslite_Clone Try.laysCln t w ht)
  go_enter Try.func34, Try.ntmps34
  go_wp2_with fail
  refine (unhide C).mono ?_
  rintro e w1 ⟨rfl, hb⟩
  go_wp2
  go_ret
  exact ⟨rfl, hb⟩
def nbZero : Nb := ⟨0, 0, 0, ⟨#[]⟩⟩
/-- What a first byte says, and the text behind it. -/
def nbSay (c : UInt8) (t : ByteArray) : Nb := if c.toNat % 32 = 1 then ⟨2, 0, (c.toNat / 32 : Nat), t⟩ else if c.toNat % 32 = 9 then ⟨3, 0, (c.toNat / 32 : Nat), t⟩ else if c.toNat % 2 = 0 then ⟨1, (c.toNat % 32 / 2 : Nat), (c.toNat / 32 : Nat), t⟩ else ⟨0, 0, 0, t⟩
def nbFst (c : UInt8) (t : ByteArray) : Nb := if c.toNat % 32 = 1 then ⟨2, 0, (c.toNat / 32 : Nat), t⟩ else if c.toNat % 32 = 9 then ⟨3, 0, (c.toNat / 32 : Nat), t⟩ else ⟨1, (c.toNat / 2 % 8 : Nat), (c.toNat / 32 : Nat), t⟩
/-- What is read of bytes. -/
def nbRead (t : ByteArray) : Nb := match t.data.toList with
  | [] => nbZero
  | c :: l => if nbOk (nbSay c (txt l)) = true then nbSay c (txt l) else nbZero
theorem say_told (c : UInt8) (l : List UInt8) : (nbTold (nbFst c (txt l)) = txt (c :: l)) ↔ nbOk (nbSay c (txt l)) = true := by
  have hc := c.toNat_lt
  by_cases h1 : c.toNat % 32 = 1
  · have e1 : nbFst c (txt l) = nbSay c (txt l) := by unfold nbFst nbSay; rw [if_pos h1, if_pos h1]
    rw [e1]
    cases hk : nbOk (nbSay c (txt l))
    · rw [told_no hk]
      simp [txt]
    · rw [told_yes hk]
      have e2 : nbSay c (txt l) = ⟨2, 0, (c.toNat / 32 : Nat), txt l⟩ := by unfold nbSay; rw [if_pos h1]
      rw [e2]
      have e3 : nbByte ⟨2, 0, (c.toNat / 32 : Nat), txt l⟩ = c := by
        apply UInt8.toNat_inj.1
        simp [nbByte, nbLow]
        omega
      rw [e3]
      simp [txt]
      apply ByteArray.ext
      simp
  by_cases h9 : c.toNat % 32 = 9
  · have e1 : nbFst c (txt l) = nbSay c (txt l) := by unfold nbFst nbSay; rw [if_neg h1, if_neg h1, if_pos h9, if_pos h9]
    rw [e1]
    cases hk : nbOk (nbSay c (txt l))
    · rw [told_no hk]
      simp [txt]
    · rw [told_yes hk]
      have e2 : nbSay c (txt l) = ⟨3, 0, (c.toNat / 32 : Nat), txt l⟩ := by unfold nbSay; rw [if_neg h1, if_pos h9]
      rw [e2]
      have e3 : nbByte ⟨3, 0, (c.toNat / 32 : Nat), txt l⟩ = c := by
        apply UInt8.toNat_inj.1
        simp [nbByte, nbLow]
        omega
      rw [e3]
      simp [txt]
      apply ByteArray.ext
      simp
  have e1 : nbFst c (txt l) = ⟨1, (c.toNat / 2 % 8 : Nat), (c.toNat / 32 : Nat), txt l⟩ := by unfold nbFst; rw [if_neg h1, if_neg h9]
  have hB : (nbByte (nbFst c (txt l))).toNat = 32 * (c.toNat / 32) + 2 * (c.toNat / 2 % 8) := by
    rw [e1]
    simp [nbByte, nbLow]
    omega
  by_cases h2 : c.toNat % 2 = 0 ∧ c.toNat % 32 < 16
  · have e2 : nbSay c (txt l) = nbFst c (txt l) := by
      rw [e1]
      unfold nbSay
      rw [if_neg h1, if_neg h9, if_pos h2.1, show c.toNat % 32 / 2 = c.toNat / 2 % 8 by omega]
    rw [e2]
    cases hk : nbOk (nbFst c (txt l))
    · rw [told_no hk]
      simp [txt]
    · rw [told_yes hk]
      have e3 : nbByte (nbFst c (txt l)) = c := by
        apply UInt8.toNat_inj.1
        rw [hB]
        omega
      rw [e3, e1]
      simp [txt]
      apply ByteArray.ext
      simp
  · have e2 : nbOk (nbSay c (txt l)) = false := by
      unfold nbSay
      rw [if_neg h1, if_neg h9]
      by_cases h3 : c.toNat % 2 = 0
      · rw [if_pos h3]
        exact decide_eq_false (by dsimp only; omega)
      · rw [if_neg h3]
        exact decide_eq_false (by dsimp only; omega)
    rw [e2]
    refine ⟨fun h => ?_, fun h => by cases h⟩
    exfalso
    cases hk : nbOk (nbFst c (txt l))
    · rw [told_no hk] at h
      simp [txt] at h
    · rw [told_yes hk] at h
      have h4 : nbByte (nbFst c (txt l)) = c := by
        have h4 := congrArg (fun t : ByteArray => t.data.toList.head?) h
        simpa [txt] using h4
      rw [h4] at hB
      omega
set_option maxHeartbeats 1000000 in
theorem iSay (c : UInt8) (w : World) : Calls Try.prog 45 #[.int .u8 c.toNat] w fun e w' => e = .returned (nbV (nbSay c ⟨#[]⟩)) ∧ Below w.heap.size w w' := by
  have hc := c.toNat_lt
  have ho : bits .and .i64 (c.toNat : Int) 31 = ((c.toNat % 32 : Nat) : Int) := by
    rw [show (31 : Int) = ((31 : Nat) : Int) from rfl, i64_and_nat _ _ (by omega) (by omega)]
    rw [show (31 : Nat) = 2 ^ 5 - 1 from rfl, Nat.and_two_pow_sub_one_eq_mod]
  have ho2 : bits .and .i64 ((c.toNat % 32 : Nat) : Int) 1 = ((c.toNat % 2 : Nat) : Int) := by
    rw [show (1 : Int) = ((1 : Nat) : Int) from rfl, i64_and_nat _ _ (by omega) (by omega)]
    rw [show (1 : Nat) = 2 ^ 1 - 1 from rfl, Nat.and_two_pow_sub_one_eq_mod]
    congr 1
    omega
  unfold nbSay
  generalize c.toNat = n at *
  by_cases h1 : n % 32 = 1
  · rw [if_pos h1]
    go_enter Try.func45, Try.ntmps45
    go_wp2
    refine bodyPost_ret (v := .agg #[.int .i64 2, .int .i64 0, .int .i64 ((n : Int) / 32), .string ⟨#[]⟩]) (by simp [results, Try.results45, go_sem]) rfl ⟨by simp, ?_⟩
    exact (Below.refl _ _).alloc (Nat.le_refl _) _
  by_cases h9 : n % 32 = 9
  · rw [if_neg h1, if_pos h9]
    go_enter Try.func45, Try.ntmps45
    go_wp2
    refine bodyPost_ret (v := .agg #[.int .i64 3, .int .i64 0, .int .i64 ((n : Int) / 32), .string ⟨#[]⟩]) (by simp [results, Try.results45, go_sem]) rfl ⟨by simp, ?_⟩
    exact (Below.refl _ _).alloc (Nat.le_refl _) _
  have f1 : (((n % 32 : Nat) : Int) == 1) = false := beq_eq_false_iff_ne.2 (by omega)
  have f9 : (((n % 32 : Nat) : Int) == 9) = false := beq_eq_false_iff_ne.2 (by omega)
  rw [if_neg h1, if_neg h9]
  by_cases h2 : n % 2 = 0
  · rw [if_pos h2]
    have f2 : (((n % 2 : Nat) : Int) == 0) = true := beq_iff_eq.2 (by omega)
    have HB : Hid ((n % 32 / 2 : Nat) = (n : Int) % 32 / 2) := hide (by omega)
    generalize hm : n % 32 = m at *
    go_enter Try.func45, Try.ntmps45
    go_wp2
    refine bodyPost_ret (v := .agg #[.int .i64 1, .int .i64 ((m : Int) / 2), .int .i64 ((n : Int) / 32), .string ⟨#[]⟩]) (by simp [results, Try.results45, go_sem]) rfl ⟨by simp, ?_⟩
    exact (Below.refl _ _).alloc (Nat.le_refl _) _
  · rw [if_neg h2]
    have f2 : (((n % 2 : Nat) : Int) == 0) = false := beq_eq_false_iff_ne.2 (by omega)
    generalize hm : n % 32 = m at *
    go_enter Try.func45, Try.ntmps45
    go_wp2
    refine bodyPost_ret (v := .agg #[.int .i64 0, .int .i64 0, .int .i64 0, .string ⟨#[]⟩]) (by simp [results, Try.results45, go_sem]) rfl ⟨by simp, ?_⟩
    exact (Below.refl _ _).alloc (Nat.le_refl _) _
end Go.Proofs.Ytjgnldkncoighaa
