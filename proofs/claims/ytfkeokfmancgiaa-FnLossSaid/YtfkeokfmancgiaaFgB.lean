/- The bytes of a part: the program's walk and the model's; memory that was there stands. -/
import Derived.Test.YtfkeokfmancgiaaFgFl
import Derived.Test.YtfkeokfmancgiaaNum3
import Derived.Test.YtfkeokfmancgiaaLies
namespace Go.Proofs.Ytfkeokfmancgiaa
open Go.RowKit
/-- What FragBytes answers. -/
def fgTold (f : Fg) : ByteArray := if fgOk f = true then txt [fgByte f] ++ put3 f.seq.toNat ++ f.text else ⟨#[]⟩
theorem fgTold_no {f : Fg} (h : fgOk f = false) : fgTold f = ⟨#[]⟩ := by unfold fgTold; rw [if_neg (by rw [h]; decide)]
theorem fgTold_yes {f : Fg} (h : fgOk f = true) : fgTold f = txt [fgByte f] ++ put3 f.seq.toNat ++ f.text := by unfold fgTold; rw [if_pos h]
theorem row4g {w : World} {B : Nat} {x0 x1 x2 x3 : Value} {T : TypeId} (h : w.heap[B]? = some (.cells #[x0, x1, x2, x3] T)) :
    w.cell? ⟨B, 0, none⟩ = some x0 ∧ w.cell? ⟨B, 1, none⟩ = some x1 ∧ w.cell? ⟨B, 2, none⟩ = some x2 ∧ w.cell? ⟨B, 3, none⟩ = some x3 :=
  ⟨by rw [cell_of_row _ _ 0 _ _ (0, 0) h]; rfl, by rw [cell_of_row _ _ 1 _ _ (0, 0) h]; rfl, by rw [cell_of_row _ _ 2 _ _ (0, 0) h]; rfl, by rw [cell_of_row _ _ 3 _ _ (0, 0) h]; rfl⟩
theorem conv_at9 (c : UInt8) {w : World} {B : Nat} (h : w.heap[B]? = some (.cells #[.int .u8 c.toNat] 5)) : (convert 22 9 (.slice (some ⟨B, 0, none⟩) 1 1)).run Try.prog w = .ok (.string (txt [c])) w := by
  refine conv_lies (l := [c]) (cap := 1) ?_
  intro i hi
  simp at hi
  subst hi
  rw [cell_of_row _ _ 0 _ _ (0, 0) h]
  rfl
theorem frag_box {w w2 : World} {o : Obj} (hb2 : Below (w.alloc o).heap.size (w.alloc o) w2) : Hid (w2.heap[w.heap.size]? = some o ∧ Below w.heap.size w w2 ∧ w.heap.size < w2.heap.size) := by
  have hs0 : (w.alloc o).heap.size = w.heap.size + 1 := by simp
  have h1 : w2.heap[w.heap.size]? = some o := (hb2.block w.heap.size (by rw [hs0]; omega)).trans (heap_alloc_new w _)
  exact hide ⟨h1, ((Below.refl _ _).alloc (Nat.le_refl _) _).trans (hb2.mono (by rw [hs0]; omega)), (Array.getElem?_eq_some_iff.1 h1).1⟩
theorem und {B : Nat} {a b : World} (h : Below B a.drew b) : Below B a b := ⟨h.os, h.tape, h.output, h.size, h.block⟩
theorem frag_put {w w2 w4 : World} {o : Obj} (h : w2.heap[w.heap.size]? = some o ∧ Below w.heap.size w w2 ∧ w.heap.size < w2.heap.size) (hb4 : Below w2.heap.size w2 w4) : w4.heap[w.heap.size]? = some o ∧ Hid (Below w.heap.size w w4) :=
  ⟨(hb4.block w.heap.size h.2.2).trans h.1, hide (h.2.1.trans (hb4.mono h.2.1.size))⟩
theorem frag_put3 {w w2 w4 : World} {o : Obj} (h : w2.heap[w.heap.size]? = some o ∧ Below w.heap.size w w2 ∧ w.heap.size < w2.heap.size) (hb4 : Below w2.heap.size w2 w4) : Hid (w4.heap[w.heap.size]? = some o ∧ Below w.heap.size w w4 ∧ w.heap.size < w4.heap.size) :=
  hide ⟨(frag_put h hb4).1, unhide (frag_put h hb4).2, Nat.lt_of_lt_of_le h.2.2 hb4.size⟩
theorem frag_put2 {w w2 w4 : World} {o o' : Obj} (h : w2.heap[w.heap.size]? = some o ∧ Below w.heap.size w w2 ∧ w.heap.size < w2.heap.size) (hb4 : Below (w2.alloc o').heap.size (w2.alloc o') w4) : w4.heap[w.heap.size]? = some o ∧ Hid (Below w.heap.size w w4) :=
  ⟨(hb4.block w.heap.size (by have := h.2.2; simp; omega)).trans ((Below.heap_alloc _ _ _ h.2.2).trans h.1), hide ((h.2.1.alloc h.2.1.size _).trans (hb4.mono (by have := h.2.1.size; simp; omega)))⟩
set_option maxHeartbeats 2000000 in
theorem iFgBytes (f : Fg) (w : World) : Calls Try.prog 11 #[fgV f] w fun e w' => e = .returned (.string (fgTold f)) ∧ Below w.heap.size w w' := by
  have C := hide fun v => iFgRight f v
  cases hk : fgOk f
  · rw [fgTold_no hk]
    rw [hk] at C
    obtain ⟨sq, bg, fn, t⟩ := f
    clear hk
    go_enter Try.func11, Try.ntmps11
    go_wp2_with fail
    refine (unhide C _).mono ?_
    rintro e w2 ⟨rfl, hb2⟩
    go_wp2
    go_ret
    exact ⟨rfl, ((Below.refl _ _).alloc (Nat.le_refl _) _).trans (hb2.mono (by simp))⟩
  · rw [fgTold_yes hk]
    have C2 := hide fun v => iFlags f v
    rw [hk] at C
    have hsz : f.text.size ≤ 200 := (of_decide_eq_true hk).2
    have hsq := (of_decide_eq_true hk).1
    clear hk
    generalize fgByte f = c at *
    obtain ⟨sq, bg, fn, t⟩ := f
    dsimp only at *
    obtain ⟨n, rfl⟩ : ∃ n : Nat, sq = (n : Int) := ⟨sq.toNat, by omega⟩
    rw [Int.toNat_natCast]
    have C3 := hide fun v => num3 n v
    have hp := put3_size n
    generalize put3 n = P at *
    clear hsq
    go_enter Try.func11, Try.ntmps11
    go_wp2_with fail
    refine (unhide C _).mono ?_
    rintro e w2 ⟨rfl, hb2⟩
    have HX := frag_box hb2
    obtain ⟨c0, c1, c2, c3⟩ := row4g (unhide HX).1
    clear hb2 C
    obtain ⟨Z, hZ, hcat, hcat2⟩ : ∃ Z, Hid (Z = txt [c]) ∧ ¬ (9223372036854775807 < Z.size + P.size) ∧ ¬ (9223372036854775807 < Z.size + P.size + t.size) :=
      ⟨_, hide rfl, by rw [txt_size, hp]; simp, by rw [txt_size, hp]; simp; omega⟩
    have CV : Hid (∀ (v : World) (B : Nat), v.heap[B]? = some (.cells #[.int .u8 c.toNat] 5) → (convert 22 9 (.slice (some ⟨B, 0, none⟩) 1 1)).run Try.prog v = .ok (.string Z) v) := hide (by rw [unhide hZ]; exact fun v B h => conv_at9 c h)
    clear hp
    go_wp2_with fail
    go_region_held (fun q => q.cell? ⟨w.heap.size, 0, none⟩ = some (.int .i64 n) ∧ q.cell? ⟨w.heap.size, 1, none⟩ = some (.bool bg) ∧ q.cell? ⟨w.heap.size, 2, none⟩ = some (.bool fn) ∧ q.cell? ⟨w.heap.size, 3, none⟩ = some (.string t)) (go_keep) (first
      | (go_at_call 40; refine (unhide C2 _).mono ?_; rintro e w3 ⟨rfl, hb3⟩
         have HX3 := frag_put3 (unhide HX) (und hb3)
         obtain ⟨k0, k1, k2, k3⟩ := row4g (unhide HX3).1
         have hv3 := unhide CV (w3.alloc (.cells #[.int .u8 c.toNat] 5)) w3.heap.size (heap_alloc_new w3 _)
         clear hb3)
      | (go_at_call 42
         first
         | (refine (unhide C3 w3).mono ?_; rintro e w4 ⟨rfl, hb4⟩
            obtain ⟨hO4, HB4⟩ := frag_put (unhide HX3) hb4
            obtain ⟨j0, j1, j2, j3⟩ := row4g hO4
            have hv4 := unhide CV (w4.alloc (.cells #[.int .u8 c.toNat] 5)) w4.heap.size (heap_alloc_new w4 _)
            clear hb4 hO4)
         | (refine (unhide C3 (w3.alloc (.cells #[.int .u8 c.toNat] 5))).mono ?_; rintro e w4 ⟨rfl, hb4⟩
            obtain ⟨hO4, HB4⟩ := frag_put2 (unhide HX3) hb4
            obtain ⟨j0, j1, j2, j3⟩ := row4g hO4
            have hv4 := unhide CV w4 w3.heap.size ((hb4.block w3.heap.size (by simp)).trans (heap_alloc_new w3 _))
            clear hb4 hO4)))
    all_goals
      go_wp2
      go_ret
      refine ⟨by rw [unhide hZ]; rfl, ?_⟩
      first | exact unhide HB4 | exact (unhide HB4).alloc (unhide HB4).size _
set_option maxHeartbeats 2000000 in
theorem sFgBytes (f : Fg) (w : World) : Calls Try.prog 16 #[fgV f] w fun e w' => e = .returned (.string (fgTold f)) ∧ Below w.heap.size w w' := by
  have C := hide fun v => sFgRight f v
  cases hk : fgOk f
  · rw [fgTold_no hk]
    rw [hk] at C
    obtain ⟨sq, bg, fn, t⟩ := f
    clear hk
    go_enter Try.func16, Try.ntmps16
    go_wp2_with fail
    refine (unhide C _).mono ?_
    rintro e w2 ⟨rfl, hb2⟩
    go_wp2
    go_ret
    exact ⟨rfl, ((Below.refl _ _).alloc (Nat.le_refl _) _).trans (hb2.mono (by simp))⟩
  · rw [fgTold_yes hk]
    rw [hk] at C
    have hsz : f.text.size ≤ 200 := (of_decide_eq_true hk).2
    have hsq := (of_decide_eq_true hk).1
    clear hk
    have hcn := fgByte_nat f
    generalize fgByte f = c at *
    obtain ⟨sq, bg, fn, t⟩ := f
    dsimp only at *
    obtain ⟨n, rfl⟩ : ∃ n : Nat, sq = (n : Int) := ⟨sq.toNat, by omega⟩
    rw [Int.toNat_natCast]
    have C3 := hide fun v => sput3 n v
    have hp := put3_size n
    generalize put3 n = P at *
    clear hsq
    obtain ⟨Z, hZ, hcat, hcat2⟩ : ∃ Z, Hid (Z = txt [c]) ∧ ¬ (9223372036854775807 < Z.size + P.size) ∧ ¬ (9223372036854775807 < Z.size + P.size + t.size) :=
      ⟨_, hide rfl, by rw [txt_size, hp]; simp, by rw [txt_size, hp]; simp; omega⟩
    have CV : Hid (∀ (v : World) (B : Nat), v.heap[B]? = some (.cells #[.int .u8 c.toNat] 5) → (convert 22 9 (.slice (some ⟨B, 0, none⟩) 1 1)).run Try.prog v = .ok (.string Z) v) := hide (by rw [unhide hZ]; exact fun v B h => conv_at9 c h)
    clear hp
    cases bg <;> cases fn
    all_goals
      simp only [Bool.false_eq_true, if_false, if_true, Nat.zero_add, Nat.add_zero] at hcn
      first
        | (have hcx : (c.toNat : Int) = 0 := by omega
           rw [hcx] at CV)
        | (have hcx : (c.toNat : Int) = 64 := by omega
           rw [hcx] at CV)
        | (have hcx : (c.toNat : Int) = 128 := by omega
           rw [hcx] at CV)
        | (have hcx : (c.toNat : Int) = 192 := by omega
           rw [hcx] at CV)
      clear hcn hcx
      go_enter Try.func16, Try.ntmps16
      go_wp2_with fail
      refine (unhide C _).mono ?_
      rintro e w2 ⟨rfl, hb2⟩
      have HX := frag_box hb2
      obtain ⟨c0, c1, c2, c3⟩ := row4g (unhide HX).1
      clear hb2 C
      have hv2 := unhide CV (w2.alloc _).drew w2.heap.size (heap_alloc_new w2 _)
      go_wp2_with fail
      go_region_held (fun q => q.cell? ⟨w.heap.size, 0, none⟩ = some (.int .i64 n) ∧ q.cell? ⟨w.heap.size, 3, none⟩ = some (.string t)) (go_keep) (first
        | (go_at_call 50
           first
           | (refine (unhide C3 w2.drew).mono ?_; rintro e w4 ⟨rfl, hb4⟩
              obtain ⟨hO4, HB4⟩ := frag_put (unhide HX) (und hb4)
              obtain ⟨j0, j1, j2, j3⟩ := row4g hO4
              have hv4 := unhide CV (w4.alloc _) w4.heap.size (heap_alloc_new w4 _)
              clear hb4 hO4)
           | (refine (unhide C3 (w2.alloc _).drew).mono ?_; rintro e w4 ⟨rfl, hb4⟩
              obtain ⟨hO4, HB4⟩ := frag_put2 (unhide HX) (und hb4)
              obtain ⟨j0, j1, j2, j3⟩ := row4g hO4
              have hv4 := unhide CV w4 w2.heap.size ((hb4.block w2.heap.size (by simp)).trans (heap_alloc_new w2 _))
              clear hb4 hO4)))
      all_goals
        go_wp2
        go_ret
        refine ⟨by rw [unhide hZ]; rfl, ?_⟩
        first | exact unhide HB4 | exact (unhide HB4).alloc (unhide HB4).size _
end Go.Proofs.Ytfkeokfmancgiaa
