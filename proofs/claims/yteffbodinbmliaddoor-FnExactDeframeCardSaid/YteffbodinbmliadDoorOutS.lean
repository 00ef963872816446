/- The law's words over a whole answer: are two the same, marks laid into one, marks found there; what lay in memory stands but for the marked row. -/
import Derived.Test.YteffbodinbmliadDoorDefrAll
namespace Go.Proofs.YteffbodinbmliadDoor
open Go.RowKit
/-- All stands but for one row. -/
structure But (o : Option Nat) (w w' : World) : Prop where
  os : w'.os = w.os
  tape : w'.tape = w.tape
  output : w'.output = w.output
  size : w.heap.size ≤ w'.heap.size
  block : ∀ b, b < w.heap.size → o ≠ some b → w'.heap[b]? = w.heap[b]?
theorem But.of_below {o : Option Nat} {w w' : World} (h : Below w.heap.size w w') : But o w w' := ⟨h.os, h.tape, h.output, h.size, fun b hb _ => h.block b hb⟩
theorem HoldsF.below {w w' : World} {v : Value} {F : List Hd.Fd} (h : HoldsF w v F) (hb : Below w.heap.size w w') : HoldsF w' v F :=
  h.imp id fun ⟨g, cp, cur, h1, h2, h3⟩ => ⟨g, cp, cur, h1, (hb.block g (Array.getElem?_eq_some_iff.1 h2).1).trans h2, h3⟩
theorem HoldsF.form {w : World} {v : Value} {F : List Hd.Fd} (h : HoldsF w v F) : ∃ ad cp, v = .slice ad F.length cp := by
  rcases h with ⟨ad, cp, h1, h2⟩ | ⟨g, cp, cur, h1, _⟩
  · exact ⟨ad, cp, by rw [h1, h2]; rfl⟩
  · exact ⟨_, _, h1⟩
set_option maxHeartbeats 2000000 in
theorem markS0 (ad : Option Addr) (cp k : Nat) (w : World) :
    Calls Tryd.prog 29 #[.slice ad 0 cp, .int .i64 k] w fun e w' => e = .returned (.int .i64 k) ∧ w' = w := by
  go_enter Tryd.func29, Tryd.ntmps29
  go_wp2_with fail
  go_loopw [1, 5] (fun x y wr => x = .int .i64 k ∧ y = .int .i64 0 ∧ wr = w) (fun _ _ _ => 0)
  case atStart => exact ⟨rfl, rfl, rfl⟩
  case round =>
    obtain ⟨rfl, rfl, rfl⟩ := hrel
    go_wp2
    go_ret
    exact ⟨rfl, rfl⟩
set_option maxHeartbeats 2000000 in
theorem heldS0 (ad : Option Addr) (cp k : Nat) (w : World) :
    Calls Tryd.prog 30 #[.slice ad 0 cp, .int .i64 k] w fun e w' => e = .returned (.int .i64 k) ∧ w' = w := by
  go_enter Tryd.func30, Tryd.ntmps30
  go_wp2_with fail
  go_loopw [1, 5] (fun x y wr => x = .int .i64 k ∧ y = .int .i64 0 ∧ wr = w) (fun _ _ _ => 0)
  case atStart => exact ⟨rfl, rfl, rfl⟩
  case round =>
    obtain ⟨rfl, rfl, rfl⟩ := hrel
    go_wp2
    go_ret
    exact ⟨rfl, rfl⟩
theorem markF (v : Value) (F : List Hd.Fd) (w : World) (hF : F.length ≤ 400) (h : HoldsF w v F) :
    Calls Tryd.prog 29 #[v, .int .i64 1] w fun e w' => e = .returned (.int .i64 ((1 + 2 * F.length : Nat) : Int)) ∧ HoldsF w' v (mfd 1 F.length) ∧ But v.ownBlock w w' ∧ (F = [] → Below w.heap.size w w') := by
  by_cases hFe : F = []
  · subst hFe
    obtain ⟨ad, cp, rfl⟩ := h.form
    exact (markS0 ad cp 1 w).mono fun e w' ⟨p1, p2⟩ => ⟨p1, holds_nil _ _ _, p2 ▸ But.of_below (Below.refl _ _), fun _ => p2 ▸ Below.refl _ _⟩
  · rcases h with ⟨ad, cp, rfl, e0⟩ | ⟨g, cp, cur, rfl, h2, h3, h4⟩
    · exact absurd e0 hFe
    · refine (markS g cp F.length 1 cur w (by decide) (by omega) h3 h2).mono fun e w' ⟨p1, ⟨cur', q1, q2, q3⟩, p3⟩ => ⟨p1, Or.inr ⟨g, cp, cur', by rw [mfd_len], q1, by rw [mfd_len]; omega, by rw [mfd_len]; exact q3⟩, ⟨p3.os, p3.tape, p3.output, p3.size, fun b hb hne => p3.block b hb fun e => hne (by rw [e]; rfl)⟩, fun h => absurd h hFe⟩
theorem heldF (v : Value) (n : Nat) (w : World) (hn : n ≤ 400) (h : HoldsF w v (mfd 1 n)) :
    Calls Tryd.prog 30 #[v, .int .i64 1] w fun e w' => e = .returned (.int .i64 ((1 + 2 * n : Nat) : Int)) ∧ Below w.heap.size w w' := by
  rcases h with ⟨ad, cp, rfl, e0⟩ | ⟨g, cp, cur, rfl, h2, h3, h4⟩
  · have hn0 : n = 0 := by rw [← mfd_len 1 n, e0]; rfl
    subst hn0
    exact (heldS0 ad cp 1 w).mono fun e w' ⟨p1, p2⟩ => ⟨p1, p2 ▸ Below.refl _ _⟩
  · rw [mfd_len] at h4 ⊢
    exact heldS g cp n 1 cur w (by decide) (by omega) h2 h4
set_option maxHeartbeats 2000000 in
theorem markO (A : Ans) (v : Value) (w : World) (hF : A.F.length ≤ 400) (h : HoldsF w v A.F) :
    Calls Tryd.prog 12 #[ansV A v, .int .i64 1] w fun e w' => e = .returned (.int .i64 ((1 + 2 * A.F.length : Nat) : Int)) ∧ HoldsF w' v (mfd 1 A.F.length) ∧ But v.ownBlock w w' ∧ (A.F = [] → Below w.heap.size w w') := by
  obtain ⟨ad, cp, hv⟩ := h.form
  have C := hide fun o => markF v A.F (w.alloc o) hF (h.below ((Below.refl _ _).alloc (Nat.le_refl _) o))
  subst hv
  obtain ⟨wide, x, inn, esc, long, text, F, code⟩ := A
  unfold ansV
  dsimp only at *
  go_enter Tryd.func12, Tryd.ntmps12
  go_wp2_with fail
  refine (unhide C _).mono ?_
  rintro e w2 ⟨rfl, hh2, hb2, hb2'⟩
  go_wp2
  go_ret
  refine ⟨rfl, hh2, ⟨hb2.os, hb2.tape, hb2.output, Nat.le_trans (by simp) hb2.size, fun b hb hne => (hb2.block b (by simp; omega) hne).trans (Below.heap_alloc _ _ _ hb)⟩, fun hF0 => ((Below.refl _ _).alloc (Nat.le_refl _) _).trans ((hb2' hF0).mono (by simp))⟩
set_option maxHeartbeats 2000000 in
theorem heldO (A : Ans) (v : Value) (w : World) (hF : A.F.length ≤ 400) (hf : ∃ ad cp, v = .slice ad A.F.length cp) (h : HoldsF w v (mfd 1 A.F.length)) :
    Calls Tryd.prog 13 #[ansV A v, .int .i64 1] w fun e w' => e = .returned (.int .i64 ((1 + 2 * A.F.length : Nat) : Int)) ∧ Below w.heap.size w w' := by
  obtain ⟨ad, cp, hv⟩ := hf
  have C := hide fun o => heldF v A.F.length (w.alloc o) hF (h.below ((Below.refl _ _).alloc (Nat.le_refl _) o))
  subst hv
  obtain ⟨wide, x, inn, esc, long, text, F, code⟩ := A
  unfold ansV
  dsimp only at *
  obtain ⟨K, hK⟩ : ∃ K : Nat, 1 + 2 * F.length = K := ⟨_, rfl⟩
  rw [hK] at C ⊢
  have d1 : ¬ ((K : Int) < 0) := by omega
  clear hK
  go_enter Tryd.func13, Tryd.ntmps13
  go_wp2_with fail
  refine (unhide C _).mono ?_
  rintro e w2 ⟨rfl, hb2⟩
  go_wp2
  go_ret
  exact ⟨rfl, ((Below.refl _ _).alloc (Nat.le_refl _) _).trans (hb2.mono (by simp))⟩
set_option maxHeartbeats 2000000 in
theorem eqO (A : Ans) (v1 v2 : Value) (w : World) (hF : A.F.length ≤ 400) (h1 : HoldsF w v1 A.F) (h2 : HoldsF w v2 A.F) :
    Calls Tryd.prog 11 #[ansV A v1, ansV A v2] w fun e w' => e = .returned (.bool true) ∧ Below w.heap.size w w' := by
  obtain ⟨ad1, cp1, hv1⟩ := h1.form
  obtain ⟨ad2, cp2, hv2⟩ := h2.form
  have C := hide fun v (hv : Below w.heap.size w v) => eqS v1 v2 A.F v (by omega) (h1.below hv) (h2.below hv)
  subst hv1 hv2
  obtain ⟨wide, x, inn, esc, long, text, F, code⟩ := A
  unfold ansV
  dsimp only at *
  have C1 := hide fun v => eqDfr wide x inn esc long text v
  clear h1 h2
  go_enter Tryd.func11, Tryd.ntmps11
  go_wp2_with fail
  refine (unhide C1 _).mono ?_
  rintro e w2 ⟨rfl, hb2⟩
  have hs0 : ((w.alloc (.cells #[.bool wide, .int .i64 x, .bool inn, .bool esc, .bool long, .string text, .slice ad1 F.length cp1, .int .i64 code] 30)).alloc (.cells #[.bool wide, .int .i64 x, .bool inn, .bool esc, .bool long, .string text, .slice ad2 F.length cp2, .int .i64 code] 30)).heap.size = w.heap.size + 2 := by simp
  have e1 : w2.heap[w.heap.size]? = some (.cells #[.bool wide, .int .i64 x, .bool inn, .bool esc, .bool long, .string text, .slice ad1 F.length cp1, .int .i64 code] 30) := by
    rw [hb2.block w.heap.size (by rw [hs0]; omega)]
    exact (Below.heap_alloc _ _ _ (by simp)).trans (heap_alloc_last w _)
  have e2 : w2.heap[w.heap.size + 1]? = some (.cells #[.bool wide, .int .i64 x, .bool inn, .bool esc, .bool long, .string text, .slice ad2 F.length cp2, .int .i64 code] 30) := by
    rw [hb2.block (w.heap.size + 1) (by rw [hs0]; omega)]
    have h := heap_alloc_last (w.alloc (.cells #[.bool wide, .int .i64 x, .bool inn, .bool esc, .bool long, .string text, .slice ad1 F.length cp1, .int .i64 code] 30)) (.cells #[.bool wide, .int .i64 x, .bool inn, .bool esc, .bool long, .string text, .slice ad2 F.length cp2, .int .i64 code] 30)
    rw [show (w.alloc (.cells #[.bool wide, .int .i64 x, .bool inn, .bool esc, .bool long, .string text, .slice ad1 F.length cp1, .int .i64 code] 30)).heap.size = w.heap.size + 1 by simp] at h
    exact h
  have hb : Below w.heap.size w w2 := (((Below.refl _ _).alloc (Nat.le_refl _) _).alloc (by simp) _).trans (hb2.mono (by rw [hs0]; omega))
  have k6 : w2.cell? ⟨w.heap.size, 6, none⟩ = some (.slice ad1 F.length cp1) := by rw [cell_of_row _ _ _ _ _ _ e1]; rfl
  have j6 : w2.cell? ⟨w.heap.size + 1, 6, none⟩ = some (.slice ad2 F.length cp2) := by rw [cell_of_row _ _ _ _ _ _ e2]; rfl
  have HE1 := hide e1
  have HE2 := hide e2
  have hl1 : w.heap.size < w2.heap.size := (Array.getElem?_eq_some_iff.1 e1).1
  have hl2 : w.heap.size + 1 < w2.heap.size := (Array.getElem?_eq_some_iff.1 e2).1
  clear hb2 hs0 e1 e2 C1
  go_wp2_with fail
  refine (unhide C _ hb).mono ?_
  rintro e w3 ⟨rfl, hb3⟩
  have k7 : w3.cell? ⟨w.heap.size, 7, none⟩ = some (.int .i64 code) := by rw [cell_of_row _ _ _ _ _ _ ((hb3.block _ hl1).trans (unhide HE1))]; rfl
  have j7 : w3.cell? ⟨w.heap.size + 1, 7, none⟩ = some (.int .i64 code) := by rw [cell_of_row _ _ _ _ _ _ ((hb3.block _ hl2).trans (unhide HE2))]; rfl
  clear k6 j6
  go_wp2
  go_ret
  exact ⟨rfl, hb.trans (hb3.mono hb.size)⟩
end Go.Proofs.YteffbodinbmliadDoor
