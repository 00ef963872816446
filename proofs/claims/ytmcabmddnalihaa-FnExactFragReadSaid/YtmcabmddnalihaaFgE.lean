/- What is read of bytes as a part: the model's walk; memory that was there stands. -/
import Derived.Test.YtmcabmddnalihaaFgD
namespace Go.Proofs.Ytmcabmddnalihaa
open Go.RowKit
set_option maxHeartbeats 1000000 in
theorem sFgRead_no (t : ByteArray) (w : World) (h : t.size < 4 ∨ 204 < t.size) (h2 : t.size ≤ maxLen) : Calls Try.prog 12 #[.string t] w fun e w' => e = .returned (fgV fgZero) ∧ Below w.heap.size w w' := by
  unfold maxLen at h2
  by_cases h4 : t.size < 4
  · have d1 : decide ((t.size : Int) < 4) = true := decide_eq_true (by omega)
    go_enter Try.func12, Try.ntmps12
    go_wp2
    refine bodyPost_ret (v := .agg #[.int .i64 0, .bool false, .bool false, .string ⟨#[]⟩]) (by simp [results, Try.results12, go_sem]) rfl ⟨rfl, ?_⟩
    first | exact (Below.refl _ _).alloc (Nat.le_refl _) _ | exact ((Below.refl _ _).alloc (Nat.le_refl _) _).drew | exact (((Below.refl _ _).drew).alloc (Nat.le_refl _) _)
  · have d1 : decide ((t.size : Int) < 4) = false := decide_eq_false (by omega)
    have d2 : decide ((204 : Int) < (t.size : Int)) = true := decide_eq_true (by omega)
    go_enter Try.func12, Try.ntmps12
    go_wp2
    refine bodyPost_ret (v := .agg #[.int .i64 0, .bool false, .bool false, .string ⟨#[]⟩]) (by simp [results, Try.results12, go_sem]) rfl ⟨rfl, ?_⟩
    first | exact (Below.refl _ _).alloc (Nat.le_refl _) _ | exact ((Below.refl _ _).alloc (Nat.le_refl _) _).drew | exact (((Below.refl _ _).drew).alloc (Nat.le_refl _) _)
set_option maxHeartbeats 2000000 in
theorem sFgRead_at (t : ByteArray) (c c1 c2 c3 : UInt8) (u : List UInt8) (hd : t.data.toList = c :: c1 :: c2 :: c3 :: u) (w : World) (h : t.size ≤ 204) : Calls Try.prog 12 #[.string t] w fun e w' => e = .returned (fgV (if c.toNat % 64 = 0 then fgSay c [c1, c2, c3] u else fgZero)) ∧ Below w.heap.size w w' := by
  have hl := len_dat t
  rw [hd] at hl
  simp only [List.length_cons] at hl
  have h0 : 0 < t.size := by omega
  have g0 := ix0 hd h0
  have gx := ext4 hd
  have gy := ext14 hd
  have hc := c.toNat_lt
  have d1 : decide ((t.size : Int) < 4) = false := decide_eq_false (by omega)
  have d2 : decide ((204 : Int) < (t.size : Int)) = false := decide_eq_false (by omega)
  have d3 : ¬ ((t.size : Int) < 0) := by omega
  have d4 : (4 : Int) ≤ (t.size : Int) := by omega
  have CG := hide fun v => specGetYes (txt [c1, c2, c3]) 3 v (by decide) (by rfl)
  rw [data_txt] at CG
  unfold fgSay
  generalize hu : txt u = U at *
  generalize numOf [c1, c2, c3] = n at *
  generalize hk : txt [c1, c2, c3] = K3 at *
  clear hd hl hu hk
  by_cases h64 : c.toNat % 64 = 0
  · rw [if_pos h64]
    have e1 : decide (128 ≤ c.toNat) = decide ((128 : Int) ≤ (c.toNat : Int)) := decide_eq_decide.2 (by omega)
    have e2 : decide (64 ≤ c.toNat % 128) = decide ((64 : Int) ≤ (c.toNat : Int) % 128) := decide_eq_decide.2 (by omega)
    rw [e1, e2]
    have f1 : ((c.toNat : Int) % 64 != 0) = false := by simp; omega
    clear e1 e2 h64
    go_enter Try.func12, Try.ntmps12
    go_wp2_with fail
    refine (unhide CG _).mono ?_
    rintro e w2 ⟨rfl, rfl⟩
    go_upto_region 4 with fail
    go_region
    go_wp2
    refine bodyPost_ret (v := .agg #[.int .i64 n, .bool (decide ((128 : Int) ≤ (c.toNat : Int))), .bool (decide ((64 : Int) ≤ (c.toNat : Int) % 128)), .string U]) (by simp [results, Try.results12, go_sem]) rfl ⟨rfl, ?_⟩
    first | exact (Below.refl _ _).alloc (Nat.le_refl _) _ | exact ((Below.refl _ _).alloc (Nat.le_refl _) _).drew | exact (((Below.refl _ _).drew).alloc (Nat.le_refl _) _)
  · rw [if_neg h64]
    have f1 : ((c.toNat : Int) % 64 != 0) = true := by simp; omega
    clear h64
    go_enter Try.func12, Try.ntmps12
    go_wp2
    refine bodyPost_ret (v := .agg #[.int .i64 0, .bool false, .bool false, .string ⟨#[]⟩]) (by simp [results, Try.results12, go_sem]) rfl ⟨rfl, ?_⟩
    first | exact (Below.refl _ _).alloc (Nat.le_refl _) _ | exact ((Below.refl _ _).alloc (Nat.le_refl _) _).drew | exact (((Below.refl _ _).drew).alloc (Nat.le_refl _) _)
theorem sFgRead (t : ByteArray) (w : World) (h2 : t.size ≤ maxLen) : Calls Try.prog 12 #[.string t] w fun e w' => e = .returned (fgV (fgRead t)) ∧ Below w.heap.size w w' := by
  by_cases h : t.size < 4 ∨ 204 < t.size
  · rw [fgRead_no h]
    exact sFgRead_no t w h h2
  · obtain ⟨c, c1, c2, c3, u, hd⟩ := four_of (t := t) (by omega)
    rw [fgRead_at hd (by omega)]
    exact sFgRead_at t c c1 c2 c3 u hd w (by omega)
end Go.Proofs.Ytmcabmddnalihaa
