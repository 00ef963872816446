/- PacketBytes, the program's and the model's: of any packet its bytes; what lay in memory stands. -/
import Derived.Test.YtghopihgnmnlcaaGreatDoorS02
import Derived.Test.YtghopihgnmnlcaaGreatDoorS03
import Derived.Test.YtghopihgnmnlcaaGreatDoorS13
namespace Go.Proofs.YtghopihgnmnlcaaGreatDoor
open Go.RowKit
theorem pok_ways (p : Op.Pk) (P : Prop) (h1 : ¬ (0 ≤ p.code ∧ p.code ≤ 255) → Op.pok p = false → P) (h2 : 0 ≤ p.code ∧ p.code ≤ 255 → ¬ (0 ≤ p.id ∧ p.id ≤ 255) → Op.pok p = false → P)
    (h3 : 0 ≤ p.code ∧ p.code ≤ 255 → 0 ≤ p.id ∧ p.id ≤ 255 → 250 < p.data.size → Op.pok p = false → P) (h4 : 0 ≤ p.code ∧ p.code ≤ 255 → 0 ≤ p.id ∧ p.id ≤ 255 → p.data.size ≤ 250 → Op.pok p = true → P) : P := by
  by_cases a : 0 ≤ p.code ∧ p.code ≤ 255
  · by_cases b : 0 ≤ p.id ∧ p.id ≤ 255
    · by_cases c : p.data.size ≤ 250
      · exact h4 a b c (decide_eq_true (by omega))
      · exact h3 a b (by omega) (decide_eq_false (by omega))
    · exact h2 a b (decide_eq_false (by omega))
  · exact h1 a (decide_eq_false (by omega))
theorem in255 {x : Int} (h : 0 ≤ x ∧ x ≤ 255) : (decide (0 ≤ x) && decide (x ≤ 255)) = true := by simp; omega
theorem out255 {x : Int} (h : ¬ (0 ≤ x ∧ x ≤ 255)) : (decide (0 ≤ x) && decide (x ≤ 255)) = false := by simp; omega
set_option maxHeartbeats 1000000 in
theorem implPkRight_at (x y : Int) (t : ByteArray) (w : World) : Calls Tryz.prog 46 #[.agg #[.int .i64 x, .int .i64 y, .string t]] w fun e w' => e = .returned (.bool (Op.pok ⟨x, y, t⟩)) ∧ Below w.heap.size w w' := by
  have C1 := hide fun v => byteR x v
  have C2 := hide fun v => byteR y v
  obtain ⟨R, hR⟩ : ∃ R, Op.pok ⟨x, y, t⟩ = R := ⟨_, rfl⟩
  rw [hR]
  refine pok_ways ⟨x, y, t⟩ _ (fun a r => ?_) (fun a b r => ?_) (fun a b c r => ?_) (fun a b c r => ?_)
  all_goals
    dsimp only at a
    rw [hR] at r
    subst r
    clear hR
  · rw [out255 a] at C1
    clear a C2
    go_enter Tryz.func46, Tryz.ntmps46
    go_wp2_with (first
      | (go_at_call 82; refine (unhide C1 _).mono ?_; rintro e w2 ⟨rfl, rfl⟩))
    go_ret
    exact ⟨rfl, (Below.refl _ _).alloc (Nat.le_refl _) _⟩
  · dsimp only at b
    rw [in255 a] at C1
    rw [out255 b] at C2
    clear a b
    go_enter Tryz.func46, Tryz.ntmps46
    go_wp2_with fail
    refine (unhide C1 _).mono ?_
    rintro e w2 ⟨rfl, rfl⟩
    go_wp2_with fail
    refine (unhide C2 _).mono ?_
    rintro e w2 ⟨rfl, rfl⟩
    go_wp2
    go_ret
    exact ⟨rfl, (Below.refl _ _).alloc (Nat.le_refl _) _⟩
  · dsimp only at b c
    rw [in255 a] at C1
    rw [in255 b] at C2
    have f1 : decide ((t.size : Int) ≤ 250) = false := decide_eq_false (by omega)
    clear a b c
    go_enter Tryz.func46, Tryz.ntmps46
    go_wp2_with fail
    refine (unhide C1 _).mono ?_
    rintro e w2 ⟨rfl, rfl⟩
    go_wp2_with fail
    refine (unhide C2 _).mono ?_
    rintro e w2 ⟨rfl, rfl⟩
    go_wp2
    go_ret
    exact ⟨rfl, (Below.refl _ _).alloc (Nat.le_refl _) _⟩
  · dsimp only at b c
    rw [in255 a] at C1
    rw [in255 b] at C2
    have f1 : decide ((t.size : Int) ≤ 250) = true := decide_eq_true (by omega)
    clear a b c
    go_enter Tryz.func46, Tryz.ntmps46
    go_wp2_with fail
    refine (unhide C1 _).mono ?_
    rintro e w2 ⟨rfl, rfl⟩
    go_wp2_with fail
    refine (unhide C2 _).mono ?_
    rintro e w2 ⟨rfl, rfl⟩
    go_wp2
    go_ret
    exact ⟨rfl, (Below.refl _ _).alloc (Nat.le_refl _) _⟩
set_option maxHeartbeats 400000 in
theorem specByte (x : Int) (w : World) : Calls Tryz.prog 75 #[.int .i64 x] w fun e w' => e = .returned (.bool (decide (0 ≤ x) && decide (x ≤ 255))) ∧ w' = w := by
  have C := hide fun v => specIs255 x 0 v
  go_enter Tryz.func75, Tryz.ntmps75
  go_wp2_with fail
  refine (unhide C _).mono ?_
  rintro e w2 ⟨rfl, hw⟩
  replace hw := hw.symm
  subst hw
  go_wp2
  go_ret
  exact ⟨rfl, rfl⟩
set_option maxHeartbeats 1000000 in
theorem specPkRight_at (x y : Int) (t : ByteArray) (w : World) : Calls Tryz.prog 48 #[.agg #[.int .i64 x, .int .i64 y, .string t]] w fun e w' => e = .returned (.bool (Op.pok ⟨x, y, t⟩)) ∧ Below w.heap.size w w' := by
  have C1 := hide fun v => specByte x v
  have C2 := hide fun v => specByte y v
  obtain ⟨R, hR⟩ : ∃ R, Op.pok ⟨x, y, t⟩ = R := ⟨_, rfl⟩
  rw [hR]
  refine pok_ways ⟨x, y, t⟩ _ (fun a r => ?_) (fun a b r => ?_) (fun a b c r => ?_) (fun a b c r => ?_)
  all_goals
    dsimp only at a
    rw [hR] at r
    subst r
    clear hR
  · rw [out255 a] at C1
    clear a C2
    go_enter Tryz.func48, Tryz.ntmps48
    go_wp2_with (first
      | (go_at_call 75; refine (unhide C1 _).mono ?_; rintro e w2 ⟨rfl, rfl⟩))
    go_ret
    exact ⟨rfl, (Below.refl _ _).alloc (Nat.le_refl _) _⟩
  · dsimp only at b
    rw [in255 a] at C1
    rw [out255 b] at C2
    clear a b
    go_enter Tryz.func48, Tryz.ntmps48
    go_wp2_with fail
    refine (unhide C1 _).mono ?_
    rintro e w2 ⟨rfl, rfl⟩
    go_wp2_with fail
    refine (unhide C2 _).mono ?_
    rintro e w2 ⟨rfl, rfl⟩
    go_wp2
    go_ret
    exact ⟨rfl, (Below.refl _ _).alloc (Nat.le_refl _) _⟩
  · dsimp only at b c
    rw [in255 a] at C1
    rw [in255 b] at C2
    have f1 : decide ((t.size : Int) ≤ 250) = false := decide_eq_false (by omega)
    clear a b c
    go_enter Tryz.func48, Tryz.ntmps48
    go_wp2_with fail
    refine (unhide C1 _).mono ?_
    rintro e w2 ⟨rfl, rfl⟩
    go_wp2_with fail
    refine (unhide C2 _).mono ?_
    rintro e w2 ⟨rfl, rfl⟩
    go_wp2
    go_ret
    exact ⟨rfl, (Below.refl _ _).alloc (Nat.le_refl _) _⟩
  · dsimp only at b c
    rw [in255 a] at C1
    rw [in255 b] at C2
    have f1 : decide ((t.size : Int) ≤ 250) = true := decide_eq_true (by omega)
    clear a b c
    go_enter Tryz.func48, Tryz.ntmps48
    go_wp2_with fail
    refine (unhide C1 _).mono ?_
    rintro e w2 ⟨rfl, rfl⟩
    go_wp2_with fail
    refine (unhide C2 _).mono ?_
    rintro e w2 ⟨rfl, rfl⟩
    go_wp2
    go_ret
    exact ⟨rfl, (Below.refl _ _).alloc (Nat.le_refl _) _⟩
theorem byte_of {x : Int} (h : 0 ≤ x ∧ x ≤ 255) : ∃ c : UInt8, x = (c.toNat : Int) ∧ UInt8.ofNat x.toNat = c := by
  refine ⟨UInt8.ofNat x.toNat, ?_, rfl⟩
  have : (UInt8.ofNat x.toNat).toNat = x.toNat := by simp; omega
  omega
theorem pok_get {p : Op.Pk} (h : Op.pok p = true) : ∃ a b : UInt8, p.code = (a.toNat : Int) ∧ p.id = (b.toNat : Int) ∧ p.data.size ≤ 250 ∧ Op.phead p = [a, b, UInt8.ofNat ((p.data.size + 4) / 256), UInt8.ofNat (p.data.size + 4)] := by
  have h' := of_decide_eq_true h
  obtain ⟨a, ha, ha2⟩ := byte_of (x := p.code) ⟨h'.1, h'.2.1⟩
  obtain ⟨b, hb, hb2⟩ := byte_of (x := p.id) ⟨h'.2.2.1, h'.2.2.2.1⟩
  refine ⟨a, b, ha, hb, h'.2.2.2.2, ?_⟩
  unfold Op.phead
  rw [ha2, hb2]
theorem wB8 : ∀ c : UInt8, IntKind.u8.wrap (c.toNat : Int) = (c.toNat : Int) := fun c => by rw [IntKind.wrap_u8]; have := c.toNat_lt; omega
theorem mB8 : ∀ c : UInt8, (c.toNat : Int) % 256 = (c.toNat : Int) := fun c => by have := c.toNat_lt; omega
/-- What PacketBytes answers. -/
def ptV (p : Op.Pk) : ByteArray := txt (Op.ptold p)
theorem ptV_no {p : Op.Pk} (h : Op.pok p = false) : ptV p = ⟨#[]⟩ := by unfold ptV Op.ptold; rw [if_neg (by rw [h]; decide)]; rfl
theorem ptV_yes {p : Op.Pk} (h : Op.pok p = true) : ptV p = txt (Op.phead p) ++ p.data := by
  unfold ptV Op.ptold
  rw [if_pos h, txt_append]
  rfl
set_option maxHeartbeats 2000000 in
theorem implPkBytes (p : Op.Pk) (w : World) : Calls Tryz.prog 247 #[.agg #[.int .i64 p.code, .int .i64 p.id, .string p.data]] w fun e w' => e = .returned (.string (ptV p)) ∧ Below w.heap.size w w' := by
  cases hk : Op.pok p
  · rw [ptV_no hk]
    obtain ⟨x, y, t⟩ := p
    have C := hide fun v => implPkRight_at x y t v
    rw [hk] at C
    dsimp only
    clear hk
    go_enter Tryz.func247, Tryz.ntmps247
    go_wp2_with (first
      | (go_at_call 46; refine (unhide C _).mono ?_; rintro e w2 ⟨rfl, hb2⟩))
    go_ret
    exact ⟨rfl, ((Below.refl _ _).alloc (Nat.le_refl _) _).trans (hb2.mono (by simp))⟩
  · rw [ptV_yes hk]
    obtain ⟨a, b, e1, e2, e3, e4⟩ := pok_get hk
    obtain ⟨x, y, t⟩ := p
    dsimp only at e1 e2 e3 e4 ⊢
    subst e1 e2
    have C := hide fun v => implPkRight_at (a.toNat : Int) (b.toNat : Int) t v
    rw [hk] at C
    have C2 := hide fun v => pairOf (4 + t.size) (by omega) v
    rw [show ((4 + t.size : Nat) : Int) = 4 + (t.size : Int) by omega, show 4 + t.size = t.size + 4 by omega] at C2
    rw [e4]
    generalize UInt8.ofNat ((t.size + 4) / 256) = hi at *
    generalize UInt8.ofNat (t.size + 4) = lo at *
    have wb := wB8
    have mb := mB8
    clear e4 hk
    go_enter Tryz.func247, Tryz.ntmps247
    go_wp2_with fail
    refine (unhide C _).mono ?_
    rintro e w2 ⟨rfl, hb2⟩
    have hsz : (w.alloc (.cells #[.int .i64 a.toNat, .int .i64 b.toNat, .string t] 35)).heap.size = w.heap.size + 1 := by simp
    have hO2 : w2.heap[w.heap.size]? = some (.cells #[.int .i64 a.toNat, .int .i64 b.toNat, .string t] 35) := (hb2.block w.heap.size (by rw [hsz]; omega)).trans (heap_alloc_new w _)
    have hlt2 : w.heap.size < w2.heap.size := (Array.getElem?_eq_some_iff.1 hO2).1
    have hB2 : Below w.heap.size w w2 := ((Below.refl _ _).alloc (Nat.le_refl _) _).trans (hb2.mono (by rw [hsz]; omega))
    have c0 : w2.cell? ⟨w.heap.size, 0, none⟩ = some (.int .i64 a.toNat) := by rw [cell_of_row _ _ _ _ _ _ hO2]; rfl
    have c1 : w2.cell? ⟨w.heap.size, 1, none⟩ = some (.int .i64 b.toNat) := by rw [cell_of_row _ _ _ _ _ _ hO2]; rfl
    have c2 : w2.cell? ⟨w.heap.size, 2, none⟩ = some (.string t) := by rw [cell_of_row _ _ _ _ _ _ hO2]; rfl
    clear hb2 hO2 C
    go_wp2_with fail
    refine (unhide C2 _).mono ?_
    rintro e w3 ⟨rfl, hw3⟩
    have hb3 : Below w2.heap.size w2 w3 := by rw [hw3]; exact (Below.refl _ _).alloc (Nat.le_refl _) _
    have hB3 := hB2.trans (hb3.mono hB2.size)
    have k0 := (hb3.cell (p := ⟨w.heap.size, 0, none⟩) hlt2).trans c0
    have k1 := (hb3.cell (p := ⟨w.heap.size, 1, none⟩) hlt2).trans c1
    have k2 := (hb3.cell (p := ⟨w.heap.size, 2, none⟩) hlt2).trans c2
    have hs3 := hb3.size
    have hl3 : w.heap.size < w3.heap.size := by omega
    have hl3' : ¬ (w.heap.size = w3.heap.size) := by omega
    clear hw3 hb3 c0 c1 c2 C2
    have hown : ((w3.alloc (.cells #[.int .u8 hi.toNat, .int .u8 lo.toNat] 302)).alloc (.cells #[.int .u8 a.toNat, .int .u8 b.toNat, .int .u8 hi.toNat, .int .u8 lo.toNat] 5)).ownsRow w.heap.size 5 1 (.slice (some ⟨w3.heap.size + 1, 0, none⟩) 4 4) [a, b, hi, lo].length (vals [a, b, hi, lo]) := by
      have h : ((w3.alloc (.cells #[.int .u8 hi.toNat, .int .u8 lo.toNat] 302)).alloc (.cells #[.int .u8 a.toNat, .int .u8 b.toNat, .int .u8 hi.toNat, .int .u8 lo.toNat] 5)).ownsRow w.heap.size 5 1 (.slice (some ⟨(w3.alloc (.cells #[.int .u8 hi.toNat, .int .u8 lo.toNat] 302)).heap.size, 0, none⟩) 4 4) 4 (#[.int .u8 a.toNat, .int .u8 b.toNat, .int .u8 hi.toNat, .int .u8 lo.toNat] : Array Value).toList := World.ownsRow_lit _ _ 4 (by simp; omega) (by decide) rfl
      rw [show (w3.alloc (.cells #[.int .u8 hi.toNat, .int .u8 lo.toNat] 302)).heap.size = w3.heap.size + 1 by simp] at h
      exact h
    have HOW := hide hown
    clear hown
    go_wp2_with (first
      | (at_builtin; refine str_append rfl _ _ rfl w.heap.size (.slice (some ⟨w3.heap.size + 1, 0, none⟩) 4 4) [a, b, hi, lo] rfl (unhide HOW) t rfl (by simp; omega) (by simp; omega) ?_; rintro v4 w4 ho4 hb4; replace ho4 : w4.ownsRow w.heap.size 5 1 v4 (4 + t.size) (vals ([a, b, hi, lo] ++ t.data.toList)) := ho4; obtain ⟨ad, cp, rfl⟩ := own_form ho4; have hcv := own_conv ho4; clear ho4 HOW))
    go_ret
    have ht4 : txt [a, b, hi, lo] ++ t = txt (a :: b :: hi :: lo :: t.data.toList) := (txt_append [a, b, hi, lo] t.data.toList).symm
    refine ⟨by rw [ht4]; rfl, ((hB3.alloc hB3.size _).alloc (by simp; omega) _).trans hb4⟩
set_option maxHeartbeats 2000000 in
theorem specPkBytes (p : Op.Pk) (w : World) : Calls Tryz.prog 128 #[.agg #[.int .i64 p.code, .int .i64 p.id, .string p.data]] w fun e w' => e = .returned (.string (ptV p)) ∧ Below w.heap.size w w' := by
  cases hk : Op.pok p
  · rw [ptV_no hk]
    obtain ⟨x, y, t⟩ := p
    have C := hide fun v => specPkRight_at x y t v
    rw [hk] at C
    dsimp only
    clear hk
    go_enter Tryz.func128, Tryz.ntmps128
    go_wp2_with (first
      | (go_at_call 48; refine (unhide C _).mono ?_; rintro e w2 ⟨rfl, hb2⟩))
    go_ret
    exact ⟨rfl, ((Below.refl _ _).alloc (Nat.le_refl _) _).trans (hb2.mono (by simp))⟩
  · rw [ptV_yes hk]
    obtain ⟨a, b, e1, e2, e3, e4⟩ := pok_get hk
    obtain ⟨x, y, t⟩ := p
    dsimp only at e1 e2 e3 e4 ⊢
    subst e1 e2
    have C := hide fun v => specPkRight_at (a.toNat : Int) (b.toNat : Int) t v
    rw [hk] at C
    have HH := hi_byte (k := t.size + 4) (by omega)
    have HL := lo_byte (t.size + 4)
    rw [show ((t.size + 4 : Nat) : Int) = (t.size : Int) + 4 by omega] at HH HL
    rw [e4]
    generalize UInt8.ofNat ((t.size + 4) / 256) = hi at *
    generalize UInt8.ofNat (t.size + 4) = lo at *
    have wb := wB8
    have mb := mB8
    have HHH := hide HH
    have HLL := hide HL
    clear e4 hk HH HL
    go_enter Tryz.func128, Tryz.ntmps128
    go_wp2_with fail
    refine (unhide C _).mono ?_
    rintro e w2 ⟨rfl, hb2⟩
    have hsz : (w.alloc (.cells #[.int .i64 a.toNat, .int .i64 b.toNat, .string t] 35)).heap.size = w.heap.size + 1 := by simp
    have hO2 : w2.heap[w.heap.size]? = some (.cells #[.int .i64 a.toNat, .int .i64 b.toNat, .string t] 35) := (hb2.block w.heap.size (by rw [hsz]; omega)).trans (heap_alloc_new w _)
    have hlt2 : w.heap.size < w2.heap.size := (Array.getElem?_eq_some_iff.1 hO2).1
    have hB2 : Below w.heap.size w w2 := ((Below.refl _ _).alloc (Nat.le_refl _) _).trans (hb2.mono (by rw [hsz]; omega))
    have c0 : w2.cell? ⟨w.heap.size, 0, none⟩ = some (.int .i64 a.toNat) := by rw [cell_of_row _ _ _ _ _ _ hO2]; rfl
    have c1 : w2.cell? ⟨w.heap.size, 1, none⟩ = some (.int .i64 b.toNat) := by rw [cell_of_row _ _ _ _ _ _ hO2]; rfl
    have c2 : w2.cell? ⟨w.heap.size, 2, none⟩ = some (.string t) := by rw [cell_of_row _ _ _ _ _ _ hO2]; rfl
    have hlt2' : ¬ (w.heap.size = w2.heap.size) := by omega
    obtain ⟨Z, hZ, hcv, hcat⟩ : ∃ Z, Hid (Z = txt [a, b, hi, lo]) ∧ (convert 22 9 (.slice (some ⟨w2.heap.size, 0, none⟩) 4 4)).run Tryz.prog (w2.alloc (.cells #[.int .u8 a.toNat, .int .u8 b.toNat, .int .u8 (((t.size : Int) + 4) / 256), .int .u8 ((t.size : Int) + 4)] 5)) = .ok (.string Z) (w2.alloc (.cells #[.int .u8 a.toNat, .int .u8 b.toNat, .int .u8 (((t.size : Int) + 4) / 256), .int .u8 ((t.size : Int) + 4)] 5)) ∧ ¬ (9223372036854775807 < Z.size + t.size) := by
      refine ⟨_, hide rfl, ?_, by rw [txt_size]; simp; omega⟩
      have hlo : (t.size : Int) + 4 = (lo.toNat : Int) := by
        have := unhide HLL
        omega
      rw [unhide HHH, hlo]
      have h : (w2.alloc (.cells #[.int .u8 a.toNat, .int .u8 b.toNat, .int .u8 hi.toNat, .int .u8 lo.toNat] 5)).ownsRow w2.heap.size 5 1 (.slice (some ⟨w2.heap.size, 0, none⟩) 4 4) 4 (#[.int .u8 a.toNat, .int .u8 b.toNat, .int .u8 hi.toNat, .int .u8 lo.toNat] : Array Value).toList := World.ownsRow_lit _ _ 4 (Nat.le_refl _) (by decide) rfl
      exact own_conv (l := [a, b, hi, lo]) h
    clear hb2 hO2 C HHH HLL
    go_wp2
    go_ret
    refine ⟨by rw [unhide hZ]; rfl, hB2.alloc hB2.size _⟩
end Go.Proofs.YtghopihgnmnlcaaGreatDoor
