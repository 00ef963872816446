/- PppPack, the program's and the model's: of a protocol and a text its packet; what lay in memory stands. -/
import Derived.Test.YteffbodinbmliaaPair
import Derived.ArgAppend
import Derived.Lib.AppendStr
import Derived.Deep.DeepCutAuto
namespace Go.Proofs.Yteffbodinbmliaa
open Go.RowKit
/-- The ways of a packet's head. -/
theorem head_ways (k : Nat) (a p : Bool) (P : Prop)
    (h0 : k = 49185 → Pp.head k a p = [0xff, 3] ++ [UInt8.ofNat (k / 256)] ++ [UInt8.ofNat k] → P)
    (h1 : k ≠ 49185 → a = false → p = false → Pp.head k a p = [0xff, 3] ++ [UInt8.ofNat (k / 256)] ++ [UInt8.ofNat k] → P)
    (h2 : k ≠ 49185 → a = false → p = true → 255 < k → Pp.head k a p = [0xff, 3] ++ [UInt8.ofNat (k / 256)] ++ [UInt8.ofNat k] → P)
    (h3 : k ≠ 49185 → a = false → p = true → k ≤ 255 → Pp.head k a p = [0xff, 3] ++ [UInt8.ofNat k] → P)
    (h4 : k ≠ 49185 → a = true → p = false → Pp.head k a p = [UInt8.ofNat (k / 256)] ++ [UInt8.ofNat k] → P)
    (h5 : k ≠ 49185 → a = true → p = true → 255 < k → Pp.head k a p = [UInt8.ofNat (k / 256)] ++ [UInt8.ofNat k] → P)
    (h6 : k ≠ 49185 → a = true → p = true → k ≤ 255 → Pp.head k a p = [UInt8.ofNat k] → P) : P := by
  by_cases e : k = 49185
  · exact h0 e (by simp [Pp.head, e])
  · cases a <;> cases p
    · exact h1 e rfl rfl (by simp [Pp.head])
    · by_cases f : 255 < k
      · exact h2 e rfl rfl f (by simp [Pp.head, f])
      · exact h3 e rfl rfl (by omega) (by simp [Pp.head, f, e])
    · exact h4 e rfl rfl (by simp [Pp.head, e])
    · by_cases f : 255 < k
      · exact h5 e rfl rfl f (by simp [Pp.head, f, e])
      · exact h6 e rfl rfl (by omega) (by simp [Pp.head, f, e])
theorem cell1 {x : Int} {c : UInt8} (h : x = (c.toNat : Int)) : (#[Value.int .u8 x]).toList = vals [c] := by rw [h]; rfl
theorem own_conv4 {w : World} {base : Nat} {v : Value} {n : Nat} {l : List UInt8} {t : ByteArray} (h : w.ownsRow base 5 1 v n (vals l)) (hl : l.length ≤ 4) (ht : t.size ≤ 8000) :
    ∃ Z, Hid (Z = txt l) ∧ (convert 22 9 v).run Try.prog w = .ok (.string Z) w ∧ ¬ (9223372036854775807 < Z.size + t.size) :=
  ⟨txt l, hide rfl, own_conv h, by rw [txt_size]; omega⟩
set_option maxHeartbeats 2000000 in
theorem specPack_at (k : Nat) (t : ByteArray) (a p : Bool) (w : World) (hk : k < 65536) (ht : t.size ≤ 8000) :
    Calls Try.prog 20 #[.int .i64 k, .string t, .bool a, .bool p] w fun e w' => e = .returned (.string (txt (Pp.head k a p) ++ t)) ∧ Below w.heap.size w w' := by
  have HH := hide (hi_byte hk)
  have HL := hide (lo_byte k)
  obtain ⟨hi, hhi⟩ : ∃ c, UInt8.ofNat (k / 256) = c := ⟨_, rfl⟩
  obtain ⟨lo, hlo⟩ : ∃ c, UInt8.ofNat k = c := ⟨_, rfl⟩
  have HW := head_ways k a p
  rw [hhi] at HH
  rw [hlo] at HL
  rw [hhi, hlo] at HW
  clear hhi hlo
  refine HW _ (fun e r => ?_) (fun e e1 e2 r => ?_) (fun e e1 e2 e3 r => ?_) (fun e e1 e2 e3 r => ?_) (fun e e1 e2 r => ?_) (fun e e1 e2 e3 r => ?_) (fun e e1 e2 e3 r => ?_)
  all_goals
    rw [r]
    clear r HW
    first
      | (have d1 : ((k : Int) == 49185) = true := by (rw [e]; rfl))
      | (have d1 : ((k : Int) == 49185) = false := beq_eq_false_iff_ne.2 (by omega))
    try subst e1
    try subst e2
    first
      | (have d2 : decide ((255 : Int) < (k : Int)) = true := decide_eq_true (by omega))
      | (have d2 : decide ((255 : Int) < (k : Int)) = false := decide_eq_false (by omega))
      | skip
    clear e
    go_enter Try.func20, Try.ntmps20
    go_upto_region 2 with fail
    go_cut [10] (fun v wx => wx.ownsRow w.heap.size 5 1 v ([] : List UInt8).length (vals []) ∧ Below w.heap.size w wx)
    case first =>
      go_wp2_with fail
      go_meet
      exact ⟨World.ownsRow_lit w #[] 0 (by omega) (Nat.zero_le _) rfl, (Below.refl _ _).alloc (Nat.le_refl _) _⟩
    case rest =>
      obtain ⟨ho0, hb0⟩ := hcut
      have HO0 := hide ho0
      clear ho0
      have hs0 := hb0.size
      go_wp2_with (first
        | (at_builtin; refine append_bytes rfl _ _ rfl w.heap.size u10 [] [0xff, 3] rfl (unhide HO0) 2 rfl rfl rfl (by simp) hs0 ?_; rintro v1 w1 ho1 hb1; have HO1 := hide ho1; clear ho1 HO0; have hs1 := Nat.le_trans hs0 hb1.size)
        | (at_builtin; refine append_bytes rfl _ _ rfl w.heap.size u10 [] [hi] rfl (unhide HO0) 1 rfl rfl (cell1 (unhide HH)) (by simp) hs0 ?_; rintro v2 w2 ho2 hb2; have HO2 := hide ho2; clear ho2 HO0; have hs2 := Nat.le_trans hs0 hb2.size)
        | (at_builtin; refine append_bytes rfl _ _ rfl w.heap.size v1 [0xff, 3] [hi] rfl (unhide HO1) 1 rfl rfl (cell1 (unhide HH)) (by simp) hs1 ?_; rintro v2 w2 ho2 hb2; have HO2 := hide ho2; clear ho2 HO1; have hs2 := Nat.le_trans hs1 hb2.size)
        | (at_builtin; refine append_bytes rfl _ _ rfl w.heap.size v2 _ [lo] rfl (unhide HO2) 1 rfl rfl (cell1 (by first | exact unhide HL | (have hl := unhide HL; omega))) (by simp) hs2 ?_; rintro v3 w3 ho3 hb3; obtain ⟨Z, hZ, hcv, hcat⟩ := own_conv4 ho3 (by simp) ht; clear ho3 HO2)
        | (at_builtin; refine append_bytes rfl _ _ rfl w.heap.size v1 [0xff, 3] [lo] rfl (unhide HO1) 1 rfl rfl (cell1 (by first | exact unhide HL | (have hl := unhide HL; omega))) (by simp) hs1 ?_; rintro v3 w3 ho3 hb3; obtain ⟨Z, hZ, hcv, hcat⟩ := own_conv4 ho3 (by simp) ht; clear ho3 HO1)
        | (at_builtin; refine append_bytes rfl _ _ rfl w.heap.size u10 [] [lo] rfl (unhide HO0) 1 rfl rfl (cell1 (by first | exact unhide HL | (have hl := unhide HL; omega))) (by simp) hs0 ?_; rintro v3 w3 ho3 hb3; obtain ⟨Z, hZ, hcv, hcat⟩ := own_conv4 ho3 (by simp) ht; clear ho3 HO0))
      go_ret
      first
        | exact ⟨by rw [unhide hZ]; rfl, hb0.trans (hb1.trans (hb2.trans hb3))⟩
        | exact ⟨by rw [unhide hZ]; rfl, hb0.trans (hb1.trans hb3)⟩
        | exact ⟨by rw [unhide hZ]; rfl, hb0.trans (hb2.trans hb3)⟩
        | exact ⟨by rw [unhide hZ]; rfl, hb0.trans hb3⟩
end Go.Proofs.Yteffbodinbmliaa
