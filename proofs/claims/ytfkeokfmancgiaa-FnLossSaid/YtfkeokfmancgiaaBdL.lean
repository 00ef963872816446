/- The map of parts looked up; what a run lacks ahead and behind; memory stands. -/
import Derived.Test.YtfkeokfmancgiaaBdQ
namespace Go.Proofs.Ytfkeokfmancgiaa
open Go.RowKit
def fgZ : Fg := ⟨0, false, false, ⟨#[]⟩⟩
/-- The part of a number, or none. -/
def findP (F : List Fg) (n : Int) : Fg := (F.find? (fun g => decide (g.seq = n))).getD fgZ
def hasP (F : List Fg) (n : Int) : Bool := F.any (fun g => decide (g.seq = n))
theorem atD (F : List Fg) (n : Int) : (mapD F).atKey (.int .i64 n) (.held fgZ) = .held (findP F n) := by
  unfold mapD findP DataW.atKey
  dsimp only
  rw [List.find?_map]
  have e : ((fun p : Lit × DataW Fg => p.1.sameKey (.int .i64 n)) ∘ entP) = fun g : Fg => decide (g.seq = n) := by
    funext g
    exact same_i _ _
  rw [e]
  cases F.find? (fun g => decide (g.seq = n)) <;> rfl
theorem zeroFg (w : World) : (zeroValue 33).run Try.prog w = .ok (fgV fgZ) w := by
  kernel_rfl
theorem MapB.look {q : World} {M k : Nat} {F : List Fg} (h : MapB q M k F) (n : Int) (hn : -9223372036854775808 ≤ n ∧ n ≤ 9223372036854775807) : (Instr.lookup 67 (.map (some M)) (.int .i64 n) true).run Try.prog q = .ok (.tuple #[fgV (findP F n), .bool (hasP F n)]) q := by
  obtain ⟨v, ps, h1, h2⟩ := h.look_ok key64 Try.underlying67 (zeroFg q) (frR_mk fgZ) (keyI n hn)
  rw [atD] at h2
  rw [h1, frR_inv h2, hasD]
  rfl
theorem MapB.look1 {q : World} {M k : Nat} {F : List Fg} (h : MapB q M k F) (n : Int) (hn : -9223372036854775808 ≤ n ∧ n ≤ 9223372036854775807) : (Instr.lookup 67 (.map (some M)) (.int .i64 n) false).run Try.prog q = .ok (fgV (findP F n)) q := by
  obtain ⟨v, ps, h1, h2⟩ := h.lookup key64 Try.underlying67 (zeroFg q) (frR_mk fgZ) (keyI n hn)
  rw [atD] at h2
  rw [h1, frR_inv h2]
/-- What comes next of parts that stand by their numbers. -/
theorem find_next {P l : List Fg} {a : Fg} (h : Ris (P ++ a :: l)) : (P ++ a :: l).find? (fun g => decide (g.seq = a.seq + 1)) = match l with | [] => none | b :: _ => if b.seq = a.seq + 1 then some b else none := by
  unfold Ris at h
  rw [List.pairwise_append] at h
  obtain ⟨_, h2, h3⟩ := h
  rw [List.find?_append]
  have e1 : P.find? (fun g => decide (g.seq = a.seq + 1)) = none := by
    rw [List.find?_eq_none]
    intro x hx
    have := h3 x hx a List.mem_cons_self
    simp
    omega
  rw [e1]
  obtain ⟨h4, h5⟩ := List.pairwise_cons.1 h2
  rw [List.find?_cons_of_neg (by simp; omega)]
  cases l with
  | nil => rfl
  | cons b l =>
    by_cases e : b.seq = a.seq + 1
    · rw [List.find?_cons_of_pos (by simpa using e)]
      simp [e]
    · rw [List.find?_cons_of_neg (by simpa using e)]
      dsimp only
      rw [if_neg e]
      have hb := h4 b List.mem_cons_self
      obtain ⟨h6, _⟩ := List.pairwise_cons.1 h5
      have : l.find? (fun g => decide (g.seq = a.seq + 1)) = none := by
        rw [List.find?_eq_none]
        intro x hx
        have := h6 x hx
        simp
        omega
      rw [this]
      rfl
set_option maxHeartbeats 1000000 in
theorem iAheadB (f : Fg) (m bf : Int) (w : World) (hf : 0 ≤ f.seq ∧ f.seq ≤ 16777215) :
    Calls Try.prog 65 #[fgV f, .int .i64 m, .int .i64 bf] w fun e w' => e = .returned (.bool (!f.beg && (decide (f.seq - 1 ≤ m) || decide (f.seq - 1 = bf)))) ∧ Below w.heap.size w w' := by
  obtain ⟨s, b, e, t⟩ := f
  dsimp only at hf
  have hA := heap_alloc_new w (.cells #[.int .i64 s, .bool b, .bool e, .string t] 33)
  have HB := hide ((Below.refl w.heap.size w).alloc (Nat.le_refl _) (.cells #[.int .i64 s, .bool b, .bool e, .string t] 33))
  obtain ⟨c0, c1, c2, c3⟩ := row4g hA
  clear hA
  unfold fgV
  dsimp only
  cases b
  · by_cases h1 : s - 1 ≤ m
    · have d1 : decide (s - 1 ≤ m) = true := decide_eq_true h1
      go_enter Try.func65, Try.ntmps65
      go_wp2
      go_ret
      refine ⟨?_, unhide HB⟩
      simp [h1]
    · go_enter Try.func65, Try.ntmps65
      go_wp2
      go_ret
      refine ⟨?_, unhide HB⟩
      rw [show decide (s - 1 ≤ m) = false from decide_eq_false (by omega)]
      rfl
  · go_enter Try.func65, Try.ntmps65
    go_wp2
    go_ret
    exact ⟨rfl, unhide HB⟩
set_option maxHeartbeats 2000000 in
theorem iBehindB (w q : World) (B M k : Nat) (lv gv : Value) (F : List Fg) (lost : Int) (f : Fg) (m : Int) (hB : Bw w B M k lv gv F lost q) (hf : 0 ≤ f.seq ∧ f.seq ≤ 16777215) :
    Calls Try.prog 66 #[.pointer (some ⟨B, 0, none⟩), fgV f, .int .i64 m] q fun e q' => e = .returned (.bool (!f.fin && (decide (f.seq + 1 ≤ m) || hasP F (f.seq + 1)))) ∧ Below q.heap.size q q' := by
  obtain ⟨s, b, e, t⟩ := f
  dsimp only at hf
  have hA := heap_alloc_new q (.cells #[.int .i64 s, .bool b, .bool e, .string t] 33)
  have hb := (Below.refl q.heap.size q).alloc (Nat.le_refl _) (.cells #[.int .i64 s, .bool b, .bool e, .string t] 33)
  have hB1 := hB.step hb
  obtain ⟨c0, c1, c2, c3⟩ := row4g hA
  have k1 := (row4g hB1.c).2.1
  have hl := hB1.m.look (s + 1) (by omega)
  obtain ⟨z1, z2, z3, z4⟩ := findP F (s + 1)
  have HB := hide hb
  have hs1 : (q.alloc (.cells #[.int .i64 s, .bool b, .bool e, .string t] 33)).heap.size = q.heap.size + 1 := by simp
  clear hA hB hB1 hb
  unfold fgV at hl ⊢
  dsimp only at hl ⊢
  go_enter Try.func66, Try.ntmps66
  go_upto_region 3 with fail
  cases e
  · by_cases h1 : s + 1 ≤ m
    · have d1 : decide (s + 1 ≤ m) = true := decide_eq_true h1
      go_wp2
      go_ret
      exact ⟨by first | rfl | (rw [d1]; rfl) | simp, (unhide HB).alloc (unhide HB).size _⟩
    · have d1 : decide (s + 1 ≤ m) = false := decide_eq_false h1
      have h1' : m < s + 1 := by omega
      go_wp2
      go_ret
      exact ⟨by first | rfl | (rw [d1]; rfl) | simp, (unhide HB).alloc (unhide HB).size _⟩
  · go_wp2
    go_ret
    exact ⟨rfl, (unhide HB).alloc (unhide HB).size _⟩
end Go.Proofs.Ytfkeokfmancgiaa
