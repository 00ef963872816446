/- The bytes of a numbered frame: the program's walk and the model's; memory that was there stands. -/
import Derived.Test.YtjgnldkncoighaaNbR
namespace Go.Proofs.Ytjgnldkncoighaa
open Go.RowKit
/-- The first byte's lower bits. -/
def nbLow (f : Nb) : Nat := if f.kind = 2 then 1 else if f.kind = 3 then 9 else 2 * f.ns.toNat
def nbByte (f : Nb) : UInt8 := UInt8.ofNat (32 * f.nr.toNat + nbLow f)
/-- What NumberedBytes answers. -/
def nbTold (f : Nb) : ByteArray := if nbOk f = true then txt (nbByte f :: f.text.data.toList) else ⟨#[]⟩
/-- A right one is of one of three kinds. -/
theorem nb_three {f : Nb} (h : nbOk f = true) : ∃ a : Nat, a ≤ 7 ∧ f.nr = (a : Int) ∧ ((∃ b : Nat, b ≤ 7 ∧ f.kind = 1 ∧ f.ns = (b : Int) ∧ f.text.size ≤ 200 ∧ (nbByte f).toNat = 32 * a + 2 * b) ∨ (f.kind = 2 ∧ f.ns = 0 ∧ f.text = ⟨#[]⟩ ∧ (nbByte f).toNat = 32 * a + 1) ∨ (f.kind = 3 ∧ f.ns = 0 ∧ f.text = ⟨#[]⟩ ∧ (nbByte f).toNat = 32 * a + 9)) := by
  have h' := of_decide_eq_true h
  obtain ⟨kd, ns, nr, t⟩ := f
  dsimp only at h' ⊢
  refine ⟨nr.toNat, by omega, by omega, ?_⟩
  rcases h'.2 with ⟨h1, h2, h3⟩ | ⟨h1, h2, h3⟩
  · refine Or.inl ⟨ns.toNat, by omega, h1, by omega, h3, ?_⟩
    subst h1
    simp [nbByte, nbLow]
    omega
  · rcases h1 with h1 | h1
    · refine Or.inr (Or.inl ⟨h1, h2, empty_of h3, ?_⟩)
      subst h1
      simp [nbByte, nbLow]
      omega
    · refine Or.inr (Or.inr ⟨h1, h2, empty_of h3, ?_⟩)
      subst h1
      simp [nbByte, nbLow]
      omega
theorem row4n {w : World} {B : Nat} {x0 x1 x2 x3 : Value} {T : TypeId} (h : w.heap[B]? = some (.cells #[x0, x1, x2, x3] T)) :
    w.cell? ⟨B, 0, none⟩ = some x0 ∧ w.cell? ⟨B, 1, none⟩ = some x1 ∧ w.cell? ⟨B, 2, none⟩ = some x2 ∧ w.cell? ⟨B, 3, none⟩ = some x3 :=
  ⟨by rw [cell_of_row _ _ 0 _ _ (0, 0) h]; rfl, by rw [cell_of_row _ _ 1 _ _ (0, 0) h]; rfl, by rw [cell_of_row _ _ 2 _ _ (0, 0) h]; rfl, by rw [cell_of_row _ _ 3 _ _ (0, 0) h]; rfl⟩
theorem or32 (a b : Nat) (ha : a ≤ 7) (hb : b < 32) : bits .or .i64 ((a : Int) * 32) (b : Int) = ((32 * a + b : Nat) : Int) := by
  have h1 : a * 32 ||| b = a * 2 ^ 5 + b := by
    rw [Nat.mul_comm, show (32 : Nat) = 2 ^ 5 from rfl, ← Nat.two_pow_add_eq_or_of_lt (by omega), Nat.mul_comm]
  show IntKind.i64.wrap ((BitVec.ofInt 64 ((a : Int) * 32) ||| BitVec.ofInt 64 (b : Int)).toNat : Int) = _
  rw [show (a : Int) * 32 = ((a * 32 : Nat) : Int) by omega, BitVec.toNat_or, ofInt_u64 (a * 32) (by omega), ofInt_u64 b (by omega), h1, IntKind.wrap_i64]
  omega
set_option maxHeartbeats 1000000 in
theorem iFirst (f : Nb) (h : nbOk f = true) (w : World) : Calls Try.prog 44 #[nbV f] w fun e w' => e = .returned (.int .u8 (nbByte f).toNat) ∧ Below w.heap.size w w' := by
  obtain ⟨a, ha, e1, hh⟩ := nb_three h
  generalize hB : (nbByte f).toNat = B at *
  clear hB h
  obtain ⟨kd, ns, nr, t⟩ := f
  dsimp only at *
  subst e1
  rcases hh with ⟨b, hb, rfl, rfl, _, rfl⟩ | ⟨rfl, rfl, rfl, rfl⟩ | ⟨rfl, rfl, rfl, rfl⟩
  · have ho := or32 a (2 * b) ha (by omega)
    rw [show ((2 * b : Nat) : Int) = (b : Int) * 2 by omega] at ho
    go_enter Try.func44, Try.ntmps44
    go_wp2
    go_ret
    refine ⟨ret_int (by omega), (Below.refl _ _).alloc (Nat.le_refl _) _⟩
  · have ho : bits .or .i64 ((a : Int) * 32) 1 = ((32 * a + 1 : Nat) : Int) := or32 a 1 ha (by omega)
    go_enter Try.func44, Try.ntmps44
    go_wp2
    go_ret
    refine ⟨ret_int (by omega), (Below.refl _ _).alloc (Nat.le_refl _) _⟩
  · have ho : bits .or .i64 ((a : Int) * 32) 9 = ((32 * a + 9 : Nat) : Int) := or32 a 9 ha (by omega)
    go_enter Try.func44, Try.ntmps44
    go_wp2
    go_ret
    refine ⟨ret_int (by omega), (Below.refl _ _).alloc (Nat.le_refl _) _⟩
theorem told_no {f : Nb} (h : nbOk f = false) : nbTold f = ⟨#[]⟩ := by unfold nbTold; rw [if_neg (by rw [h]; decide)]
theorem told_yes {f : Nb} (h : nbOk f = true) : nbTold f = txt [nbByte f] ++ f.text := by
  unfold nbTold
  rw [if_pos h]
  apply ByteArray.ext
  simp [txt]
theorem conv_one (c : UInt8) (w : World) : (convert 22 9 (.slice (some ⟨w.heap.size, 0, none⟩) 1 1)).run Try.prog (w.alloc (.cells #[.int .u8 c.toNat] 5)) = .ok (.string (txt [c])) (w.alloc (.cells #[.int .u8 c.toNat] 5)) := by
  have h : (w.alloc (.cells #[.int .u8 c.toNat] 5)).ownsRow w.heap.size 5 1 (.slice (some ⟨w.heap.size, 0, none⟩) 1 1) 1 (#[.int .u8 c.toNat] : Array Value).toList := World.ownsRow_lit _ _ 1 (Nat.le_refl _) (by decide) rfl
  exact own_conv (l := [c]) h
set_option maxHeartbeats 2000000 in
theorem iNbBytes (f : Nb) (w : World) : Calls Try.prog 17 #[nbV f] w fun e w' => e = .returned (.string (nbTold f)) ∧ Below w.heap.size w w' := by
  have C := hide fun v => iNbRight f v
  cases hk : nbOk f
  · rw [told_no hk]
    rw [hk] at C
    obtain ⟨kd, ns, nr, t⟩ := f
    clear hk
    go_enter Try.func17, Try.ntmps17
    go_wp2_with fail
    refine (unhide C _).mono ?_
    rintro e w2 ⟨rfl, hb2⟩
    go_wp2
    go_ret
    exact ⟨rfl, ((Below.refl _ _).alloc (Nat.le_refl _) _).trans (hb2.mono (by simp))⟩
  · rw [told_yes hk]
    have C2 := hide fun v => iFirst f hk v
    rw [hk] at C
    have hsz : f.text.size ≤ 200 := by have := of_decide_eq_true hk; omega
    clear hk
    generalize nbByte f = c at *
    obtain ⟨kd, ns, nr, t⟩ := f
    dsimp only at *
    go_enter Try.func17, Try.ntmps17
    go_wp2_with fail
    refine (unhide C _).mono ?_
    rintro e w2 ⟨rfl, hb2⟩
    have hs0 : (w.alloc (.cells #[.int .i64 kd, .int .i64 ns, .int .i64 nr, .string t] 30)).heap.size = w.heap.size + 1 := by simp
    have hO2 : w2.heap[w.heap.size]? = some (.cells #[.int .i64 kd, .int .i64 ns, .int .i64 nr, .string t] 30) := (hb2.block w.heap.size (by rw [hs0]; omega)).trans (heap_alloc_new w _)
    have hB2 : Below w.heap.size w w2 := ((Below.refl _ _).alloc (Nat.le_refl _) _).trans (hb2.mono (by rw [hs0]; omega))
    have hl2 : w.heap.size < w2.heap.size := (Array.getElem?_eq_some_iff.1 hO2).1
    obtain ⟨c0, c1, c2, c3⟩ := row4n hO2
    have HO2 := hide hO2
    clear hO2 hb2 C
    go_wp2_with fail
    go_region_held (fun q => q.cell? ⟨w.heap.size, 0, none⟩ = some (.int .i64 kd) ∧ q.cell? ⟨w.heap.size, 1, none⟩ = some (.int .i64 ns) ∧ q.cell? ⟨w.heap.size, 2, none⟩ = some (.int .i64 nr) ∧ q.cell? ⟨w.heap.size, 3, none⟩ = some (.string t)) (go_keep) (first
      | (go_at_call 44; refine (unhide C2 _).mono ?_; rintro e w3 ⟨rfl, hb3⟩
         have hs3 : w2.heap.size ≤ w3.heap.size := hb3.size
         have k0 := (hb3.cell (p := ⟨w.heap.size, 0, none⟩) hl2).trans c0
         have k1 := (hb3.cell (p := ⟨w.heap.size, 1, none⟩) hl2).trans c1
         have k2 := (hb3.cell (p := ⟨w.heap.size, 2, none⟩) hl2).trans c2
         have k3 := (hb3.cell (p := ⟨w.heap.size, 3, none⟩) hl2).trans c3
         have hB3 : Below w.heap.size w w3 := hB2.trans ((show Below w2.heap.size w2 w3 from ⟨hb3.os, hb3.tape, hb3.output, hb3.size, hb3.block⟩).mono hB2.size)
         obtain ⟨Z, hZ, hcv, hcat⟩ : ∃ Z, Hid (Z = txt [c]) ∧ (convert 22 9 (.slice (some ⟨w3.heap.size, 0, none⟩) 1 1)).run Try.prog (w3.alloc (.cells #[.int .u8 c.toNat] 5)) = .ok (.string Z) (w3.alloc (.cells #[.int .u8 c.toNat] 5)) ∧ ¬ (9223372036854775807 < Z.size + t.size) :=
           ⟨_, hide rfl, conv_one c w3, by rw [txt_size]; simp; omega⟩
         clear hb3))
    all_goals
      go_wp2
      go_ret
      refine ⟨by rw [unhide hZ]; rfl, hB3.alloc hB3.size _⟩
set_option maxHeartbeats 2000000 in
theorem sNbBytes (f : Nb) (w : World) : Calls Try.prog 19 #[nbV f] w fun e w' => e = .returned (.string (nbTold f)) ∧ Below w.heap.size w w' := by
  have C := hide fun v => sNbRight f v
  cases hk : nbOk f
  · rw [told_no hk]
    rw [hk] at C
    obtain ⟨kd, ns, nr, t⟩ := f
    clear hk
    go_enter Try.func19, Try.ntmps19
    go_wp2_with fail
    refine (unhide C _).mono ?_
    rintro e w2 ⟨rfl, hb2⟩
    go_wp2
    go_ret
    exact ⟨rfl, ((Below.refl _ _).alloc (Nat.le_refl _) _).trans (hb2.mono (by simp))⟩
  · rw [told_yes hk]
    rw [hk] at C
    obtain ⟨a, ha, e1, hh⟩ := nb_three hk
    have hsz : f.text.size ≤ 200 := by have := of_decide_eq_true hk; omega
    clear hk
    generalize hc : nbByte f = c at *
    clear hc
    obtain ⟨kd, ns, nr, t⟩ := f
    dsimp only at *
    subst e1
    go_enter Try.func19, Try.ntmps19
    go_wp2_with fail
    refine (unhide C _).mono ?_
    rintro e w2 ⟨rfl, hb2⟩
    have hs0 : (w.alloc (.cells #[.int .i64 kd, .int .i64 ns, .int .i64 a, .string t] 30)).heap.size = w.heap.size + 1 := by simp
    have hO2 : w2.heap[w.heap.size]? = some (.cells #[.int .i64 kd, .int .i64 ns, .int .i64 a, .string t] 30) := (hb2.block w.heap.size (by rw [hs0]; omega)).trans (heap_alloc_new w _)
    have hB2 : Below w.heap.size w w2 := ((Below.refl _ _).alloc (Nat.le_refl _) _).trans (hb2.mono (by rw [hs0]; omega))
    have hl2 : w.heap.size < w2.heap.size := (Array.getElem?_eq_some_iff.1 hO2).1
    have hl2' : ¬ (w.heap.size = w2.heap.size) := by omega
    obtain ⟨c0, c1, c2, c3⟩ := row4n hO2
    clear hO2 hb2 C
    obtain ⟨Z, hZ, hcv, hcat⟩ : ∃ Z, Hid (Z = txt [c]) ∧ (convert 22 9 (.slice (some ⟨w2.heap.size, 0, none⟩) 1 1)).run Try.prog (w2.alloc (.cells #[.int .u8 c.toNat] 5)) = .ok (.string Z) (w2.alloc (.cells #[.int .u8 c.toNat] 5)) ∧ ¬ (9223372036854775807 < Z.size + t.size) :=
      ⟨_, hide rfl, conv_one c w2, by rw [txt_size]; simp; omega⟩
    rcases hh with ⟨b, hb, rfl, rfl, _, hcc⟩ | ⟨rfl, rfl, rfl, hcc⟩ | ⟨rfl, rfl, rfl, hcc⟩
    · rw [hcc, show ((32 * a + 2 * b : Nat) : Int) = 32 * (a : Int) + 2 * (b : Int) by omega] at hcv
      go_wp2
      go_ret
      refine ⟨by rw [unhide hZ]; rfl, hB2.alloc hB2.size _⟩
    · rw [hcc, show ((32 * a + 1 : Nat) : Int) = 32 * (a : Int) + 1 by omega] at hcv
      go_wp2
      go_ret
      refine ⟨by rw [unhide hZ]; rfl, hB2.alloc hB2.size _⟩
    · rw [hcc, show ((32 * a + 9 : Nat) : Int) = 32 * (a : Int) + 9 by omega] at hcv
      go_wp2
      go_ret
      refine ⟨by rw [unhide hZ]; rfl, hB2.alloc hB2.size _⟩
end Go.Proofs.Ytjgnldkncoighaa
