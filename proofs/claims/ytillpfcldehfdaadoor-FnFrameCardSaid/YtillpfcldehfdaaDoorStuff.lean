/- Stuff, the program's and the model's: of an accm and a text of few enough bytes what is stuffed; what lay in memory stands. -/
import Derived.Test.YtillpfcldehfdaaDoorAccm
import Derived.Test.YtillpfcldehfdaaDoorTxt
namespace Go.Proofs.YtillpfcldehfdaaDoor
open Go.RowKit
theorem xor20 (c : UInt8) : bits .xor .u8 (c.toNat : Int) 32 = ((c ^^^ 0x20).toNat : Int) := by
  have := u8_xor_nat c.toNat 32 c.toNat_lt (by decide)
  rw [UInt8.toNat_xor]
  exact this
/-- The ways of a byte: a flag, an escape, mapped, or none of these. -/
theorem odd_ways (a : Nat) (c : UInt8) (P : Prop)
    (h1 : ((c.toNat : Int) == 126) = true → Hd.stuff1 a c = [0x7d, c ^^^ 0x20] → P)
    (h2 : ((c.toNat : Int) == 126) = false → ((c.toNat : Int) == 125) = true → Hd.stuff1 a c = [0x7d, c ^^^ 0x20] → P)
    (h3 : ((c.toNat : Int) == 126) = false → ((c.toNat : Int) == 125) = false → Hd.mapped a c = true → Hd.stuff1 a c = [0x7d, c ^^^ 0x20] → P)
    (h4 : ((c.toNat : Int) == 126) = false → ((c.toNat : Int) == 125) = false → Hd.mapped a c = false → Hd.stuff1 a c = [c] → P) : P := by
  by_cases e1 : c = 0x7e
  · subst e1
    exact h1 rfl (by simp [Hd.stuff1, Hd.odd])
  · have d1 : ((c.toNat : Int) == 126) = false := u8_ne e1
    by_cases e2 : c = 0x7d
    · subst e2
      exact h2 rfl rfl (by simp [Hd.stuff1, Hd.odd])
    · have d2 : ((c.toNat : Int) == 125) = false := u8_ne e2
      cases hm : Hd.mapped a c
      · exact h4 d1 d2 hm (by simp [Hd.stuff1, Hd.odd, e1, e2, hm])
      · exact h3 d1 d2 hm (by simp [Hd.stuff1, Hd.odd, hm])

set_option maxHeartbeats 1000000 in
theorem specStuff (t : ByteArray) (a : Nat) (w : World) (ha : a < 4294967296) (ht : t.size ≤ 100000) :
    Calls Tryd.prog 56 #[.string t, .int .i64 a] w fun e w' => e = .returned (.string (txt (Hd.stuff a t.data.toList))) ∧ Below w.heap.size w w' := by
  go_enter Tryd.func56, Tryd.ntmps56
  go_wp2_with fail
  go_loopw [5, 6] (fun v i wr => ∃ (k : Nat), k ≤ t.size ∧ i = .int .i64 k ∧ wr.ownsRow w.heap.size 5 1 v (Hd.stuff a (t.data.toList.take k)).length (vals (Hd.stuff a (t.data.toList.take k))) ∧ Below w.heap.size w wr) (fun _ i _ => t.size - (intOf i).toNat)
  case atStart => exact ⟨0, Nat.zero_le _, rfl, World.ownsRow_lit w #[] 0 (by omega) (Nat.zero_le _) rfl, (Below.refl _ _).alloc (Nat.le_refl _) _⟩
  case round =>
    obtain ⟨k, hk, rfl, hown, hb1⟩ := hrel
    by_cases hlt : k < t.size
    · have hn := Hd.stuff_len a (t.data.toList.take k)
      rw [List.length_take] at hn
      have HS : Hid (Hd.stuff a (t.data.toList.take (k + 1)) = Hd.stuff a (t.data.toList.take k) ++ Hd.stuff1 a t[k]) := by
        refine hide ?_
        rw [take_snoc t k hlt, Hd.stuff_snoc]
      have hn2 : (Hd.stuff a (t.data.toList.take k)).length ≤ 200000 := by omega
      generalize Hd.stuff a (t.data.toList.take k) = L at *
      have C := hide (fun w => specMapped a t[k] w ha)
      have hxo := xor20 t[k]
      have hsz := hb1.size
      have HO := hide hown
      clear hown hn
      refine odd_ways a t[k] _ (fun d1 hs => ?_) (fun d1 d2 hs => ?_) (fun d1 d2 d3 hs => ?_) (fun d1 d2 d3 hs => ?_)
      case' refine_1 => have HT : Hid (Hd.stuff a (t.data.toList.take (k + 1)) = L ++ [0x7d, t[k] ^^^ 0x20]) := hide (by rw [unhide HS, hs])
      case' refine_2 => have HT : Hid (Hd.stuff a (t.data.toList.take (k + 1)) = L ++ [0x7d, t[k] ^^^ 0x20]) := hide (by rw [unhide HS, hs])
      case' refine_3 => have HT : Hid (Hd.stuff a (t.data.toList.take (k + 1)) = L ++ [0x7d, t[k] ^^^ 0x20]) := hide (by rw [unhide HS, hs])
      case' refine_4 => have HT : Hid (Hd.stuff a (t.data.toList.take (k + 1)) = L ++ [t[k]]) := hide (by rw [unhide HS, hs])
      all_goals clear hs HS
      case' refine_3 => rw [d3] at C
      case' refine_4 => rw [d3] at C
      all_goals
        try generalize (t[k] ^^^ 0x20) = c' at *
        go_wp2_with (first
          | (go_at_call 64; refine (unhide C _).mono ?_; rintro e w1 ⟨rfl, rfl⟩)
          | (at_builtin; refine append_bytes rfl _ _ rfl w.heap.size u5 L [0x7d, c'] rfl (unhide HO) 2 rfl rfl rfl (by simp; omega) hsz ?_; rintro v' w2 ho2 hb2; have HO2 := hide ho2; clear ho2)
          | (at_builtin; refine append_bytes rfl _ _ rfl w.heap.size u5 L [t[k]] rfl (unhide HO) 1 rfl rfl rfl (by simp; omega) hsz ?_; rintro v' w2 ho2 hb2; have HO2 := hide ho2; clear ho2))
        go_roundw
        case rel =>
          refine ⟨k + 1, by omega, by go_num, ?_, hb1.trans hb2⟩
          rw [unhide HT]
          exact unhide HO2
        case measure => simp [intOf]; omega
    · have hlt' : ¬ ((k : Int) < (t.size : Int)) := by omega
      have hcv := own_conv hown
      rw [List.take_of_length_le (by simp; omega)] at hcv
      go_wp2
      go_ret
      exact ⟨rfl, hb1⟩

set_option maxHeartbeats 1000000 in
theorem implStuff (t : ByteArray) (a : Nat) (w : World) (ha : a < 4294967296) (ht : t.size ≤ 8000) :
    Calls Tryd.prog 19 #[.string t, .int .i64 a] w fun e w' => e = .returned (.string (txt (Hd.stuff a t.data.toList))) ∧ Below w.heap.size w w' := by
  have d0 : ¬ ((8000 : Int) < (t.size : Int)) := by omega
  have c1 := accmRight a w
  rw [accOk_nat ha] at c1
  go_enter Tryd.func19, Tryd.ntmps19
  go_wp2_with (first
    | (go_at_call 54; refine c1.mono ?_; rintro e w1 ⟨rfl, hw⟩; replace hw := hw.symm; subst hw)
    | (go_at_call 57; refine (mappedBy a _).mono ?_; rintro e w1 ⟨rfl, rfl⟩)
    | (at_make; refine mk_bytes rfl _ _ rfl (w.heap.size + 1) _ (2 * t.size) rfl rfl (by go_num) (by omega) (by simp) ?_; rintro v0 w2 ho2 hb2; have HO2 := hide ho2; have HB2 := hide hb2; clear ho2 hb2))
  go_loopw [6, 7] (fun v i wr => ∃ (k : Nat), k ≤ t.size ∧ i = .int .i64 k ∧ wr.ownsRow (w.heap.size + 1) 5 1 v (Hd.stuff a (t.data.toList.take k)).length (vals (Hd.stuff a (t.data.toList.take k))) ∧ Below (w.heap.size + 1) (w.alloc (.cells #[.int .i64 a] 2)) wr) (fun _ i _ => t.size - (intOf i).toNat)
  case atStart => exact ⟨0, Nat.zero_le _, rfl, unhide HO2, unhide HB2⟩
  case round =>
    obtain ⟨k, hk, rfl, hown, hb1⟩ := hrel
    have hcell : wr.cell? ⟨w.heap.size, 0, none⟩ = some (.int .i64 a) := by
      rw [hb1.cell (p := ⟨w.heap.size, 0, none⟩) (Nat.lt_succ_self _), World.cell?_alloc_at _ _ _ _ rfl]
      rfl
    by_cases hlt : k < t.size
    · have hn := Hd.stuff_len a (t.data.toList.take k)
      rw [List.length_take] at hn
      have HS : Hid (Hd.stuff a (t.data.toList.take (k + 1)) = Hd.stuff a (t.data.toList.take k) ++ Hd.stuff1 a t[k]) := by
        refine hide ?_
        rw [take_snoc t k hlt, Hd.stuff_snoc]
      have hn2 : (Hd.stuff a (t.data.toList.take k)).length ≤ 200000 := by omega
      generalize Hd.stuff a (t.data.toList.take k) = L at *
      have C := hide (implMapped a t[k] w.heap.size wr ha hcell)
      have hxo := xor20 t[k]
      have hsz : w.heap.size + 1 ≤ wr.heap.size := by simpa using hb1.size
      have HO := hide hown
      clear hown hn hcell HO2 HB2
      refine odd_ways a t[k] _ (fun d1 hs => ?_) (fun d1 d2 hs => ?_) (fun d1 d2 d3 hs => ?_) (fun d1 d2 d3 hs => ?_)
      case' refine_1 => have HT : Hid (Hd.stuff a (t.data.toList.take (k + 1)) = L ++ [0x7d, t[k] ^^^ 0x20]) := hide (by rw [unhide HS, hs])
      case' refine_2 => have HT : Hid (Hd.stuff a (t.data.toList.take (k + 1)) = L ++ [0x7d, t[k] ^^^ 0x20]) := hide (by rw [unhide HS, hs])
      case' refine_3 => have HT : Hid (Hd.stuff a (t.data.toList.take (k + 1)) = L ++ [0x7d, t[k] ^^^ 0x20]) := hide (by rw [unhide HS, hs])
      case' refine_4 => have HT : Hid (Hd.stuff a (t.data.toList.take (k + 1)) = L ++ [t[k]]) := hide (by rw [unhide HS, hs])
      all_goals clear hs HS
      case' refine_3 => rw [d3] at C
      case' refine_4 => rw [d3] at C
      all_goals
        try generalize (t[k] ^^^ 0x20) = c' at *
        go_wp2_with (first
          | (go_at_call 80; refine (unhide C).mono ?_; rintro e w1 ⟨rfl, rfl⟩)
          | (at_builtin; refine append_bytes rfl _ _ rfl (w.heap.size + 1) u6 L [0x7d, c'] rfl (unhide HO) 2 rfl rfl rfl (by simp; omega) hsz ?_; rintro v' w2 ho2 hb2; have HO2 := hide ho2; clear ho2)
          | (at_builtin; refine append_bytes rfl _ _ rfl (w.heap.size + 1) u6 L [t[k]] rfl (unhide HO) 1 rfl rfl rfl (by simp; omega) hsz ?_; rintro v' w2 ho2 hb2; have HO2 := hide ho2; clear ho2))
        go_roundw
        case rel =>
          refine ⟨k + 1, by omega, by go_num, ?_, hb1.trans hb2⟩
          rw [unhide HT]
          exact unhide HO2
        case measure => simp [intOf]; omega
    · have hlt' : ¬ ((k : Int) < (t.size : Int)) := by omega
      have hcv := own_conv hown
      rw [List.take_of_length_le (by simp; omega)] at hcv
      go_wp2
      go_ret
      exact ⟨rfl, ((Below.refl _ _).alloc (Nat.le_refl _) _).trans (hb1.mono (Nat.le_succ _))⟩
/-- What Stuff answers. -/
def stuffV (t : ByteArray) (x : Int) : ByteArray := if t.size ≤ 8000 ∧ accOk x = true then txt (Hd.stuff x.toNat t.data.toList) else ⟨#[]⟩
set_option maxHeartbeats 400000 in
theorem implStuffAll (t : ByteArray) (x : Int) (w : World) (ht : t.size ≤ maxLen) :
    Calls Tryd.prog 19 #[.string t, .int .i64 x] w fun e w' => e = .returned (.string (stuffV t x)) ∧ Below w.heap.size w w' := by
  unfold maxLen at ht
  by_cases h8 : t.size ≤ 8000
  · by_cases hx : accOk x = true
    · obtain ⟨a, rfl, ha⟩ := accOk_get hx
      rw [show stuffV t a = _ from if_pos ⟨h8, hx⟩, Int.toNat_natCast]
      exact implStuff t a w ha h8
    · rw [show stuffV t x = _ from if_neg fun h => hx h.2]
      have d0 : ¬ ((8000 : Int) < (t.size : Int)) := by omega
      have c1 := accmRight x w
      rw [Bool.not_eq_true] at hx
      rw [hx] at c1
      go_enter Tryd.func19, Tryd.ntmps19
      go_wp2_with (first
        | (go_at_call 54; refine c1.mono ?_; rintro e w1 ⟨rfl, rfl⟩))
      go_ret
      exact ⟨rfl, Below.refl _ _⟩
  · rw [show stuffV t x = _ from if_neg fun h => h8 h.1]
    have d0 : (8000 : Int) < (t.size : Int) := by omega
    go_enter Tryd.func19, Tryd.ntmps19
    go_wp2
    go_ret
    exact ⟨rfl, Below.refl _ _⟩
end Go.Proofs.YtillpfcldehfdaaDoor
