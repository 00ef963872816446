/- HexRead, the model's and the program's: of a text of at most 8000 digits, an even count of them, the bytes, else the empty text; what lay in memory stands. -/
import Derived.Test.YtdhhkdkppcijnaaHxI
import Derived.Lib.Bytealg
import Derived.Laws.StandIn
namespace Go.Proofs.Ytdhhkdkppcijnaa
open Go.RowKit
/-- The number of a digit, 16 if it is none. -/
def dv (c : UInt8) : Nat := if 48 ≤ c.toNat ∧ c.toNat ≤ 57 then c.toNat - 48 else if 97 ≤ c.toNat ∧ c.toNat ≤ 102 then c.toNat - 87 else 16
theorem dv_le (c : UInt8) : dv c ≤ 16 := by unfold dv; split <;> (try split) <;> omega
/-- The bytes of the first k pairs, if each is of digits. -/
def hxOk (t : ByteArray) (k : Nat) : Prop := ∀ i, i < 2 * k → ∀ h : i < t.size, dv (t[i]'h) < 16
def hxAt (t : ByteArray) (i : Nat) : Nat := if h : i < t.size then dv (t[i]'h) else 0
def hxB (t : ByteArray) (k : Nat) : List UInt8 := (List.range k).map fun i => UInt8.ofNat (16 * hxAt t (2 * i) + hxAt t (2 * i + 1))
open Classical in
/-- What HexRead answers. -/
noncomputable def hexRV (t : ByteArray) : ByteArray := if t.size ≤ 8000 ∧ t.size % 2 = 0 ∧ hxOk t (t.size / 2) then txt (hxB t (t.size / 2)) else ⟨#[]⟩
theorem hxB_succ (t : ByteArray) (k : Nat) : hxB t (k + 1) = hxB t k ++ [UInt8.ofNat (16 * hxAt t (2 * k) + hxAt t (2 * k + 1))] := by
  unfold hxB
  rw [List.range_succ, List.map_append]
  rfl
theorem hxB_len (t : ByteArray) (k : Nat) : (hxB t k).length = k := by simp [hxB]
theorem hxAt_le (t : ByteArray) (i : Nat) : hxAt t i ≤ 16 := by
  unfold hxAt
  split
  · exact dv_le _
  · omega
theorem hxOk_succ {t : ByteArray} {k : Nat} (h : hxOk t k) (h1 : hxAt t (2 * k) < 16) (h2 : hxAt t (2 * k + 1) < 16) : hxOk t (k + 1) := by
  intro i hi hs
  by_cases e0 : i < 2 * k
  · exact h i e0 hs
  by_cases e1 : i = 2 * k
  · subst e1
    unfold hxAt at h1
    rw [dif_pos hs] at h1
    exact h1
  · have e2 : i = 2 * k + 1 := by omega
    subst e2
    unfold hxAt at h2
    rw [dif_pos hs] at h2
    exact h2
theorem hexRV_no {t : ByteArray} {i : Nat} (hi : i < t.size) (h : hxAt t i = 16) : hexRV t = ⟨#[]⟩ := by
  refine if_neg fun hh => ?_
  have := hh.2.2 i (by omega) hi
  unfold hxAt at h
  rw [dif_pos hi] at h
  omega
theorem digit_ways (c : UInt8) (P : Prop)
    (h1 : (48 : Int) ≤ (c.toNat : Int) → (c.toNat : Int) ≤ 57 → ((dv c : Nat) : Int) = (c.toNat : Int) - 48 → P)
    (h2 : ¬ ((48 : Int) ≤ (c.toNat : Int) ∧ (c.toNat : Int) ≤ 57) → (97 : Int) ≤ (c.toNat : Int) → (c.toNat : Int) ≤ 102 → ((dv c : Nat) : Int) = (c.toNat : Int) - 87 → P)
    (h3 : ¬ ((48 : Int) ≤ (c.toNat : Int) ∧ (c.toNat : Int) ≤ 57) → ¬ ((97 : Int) ≤ (c.toNat : Int) ∧ (c.toNat : Int) ≤ 102) → dv c = 16 → P) : P := by
  by_cases e1 : 48 ≤ c.toNat ∧ c.toNat ≤ 57
  · exact h1 (by omega) (by omega) (by unfold dv; rw [if_pos e1]; omega)
  by_cases e2 : 97 ≤ c.toNat ∧ c.toNat ≤ 102
  · exact h2 (by omega) (by omega) (by omega) (by unfold dv; rw [if_neg e1, if_pos e2]; omega)
  · exact h3 (by omega) (by omega) (by unfold dv; rw [if_neg e1, if_neg e2])
set_option maxHeartbeats 400000 in
theorem sDigit (c : UInt8) (w : World) : Calls Try.prog 17 #[.int .u8 c.toNat] w fun e w' => e = .returned (.int .u8 ((dv c : Nat) : Int)) ∧ w' = w := by
  have hc := c.toNat_lt
  refine digit_ways c _ (fun a b e => ?_) (fun x a b e => ?_) (fun x y e => ?_)
  · have hw : IntKind.u8.wrap ((c.toNat : Int) - 48) = (c.toNat : Int) - 48 := by rw [IntKind.wrap_u8]; omega
    rw [e]
    go_enter Try.func17, Try.ntmps17
    go_wp2
    go_ret
    exact ⟨rfl, rfl⟩
  · have a1 : (48 : Int) ≤ (c.toNat : Int) := by omega
    have b1 : ¬ ((c.toNat : Int) ≤ 57) := by omega
    have hw : IntKind.u8.wrap ((c.toNat : Int) - 97) = (c.toNat : Int) - 97 := by rw [IntKind.wrap_u8]; omega
    have hw2 : IntKind.u8.wrap ((c.toNat : Int) - 97 + 10) = (c.toNat : Int) - 87 := by rw [IntKind.wrap_u8]; omega
    rw [e]
    go_enter Try.func17, Try.ntmps17
    go_wp2
    go_ret
    exact ⟨rfl, rfl⟩
  · rw [e]
    by_cases a1 : (48 : Int) ≤ (c.toNat : Int)
    · have b1 : ¬ ((c.toNat : Int) ≤ 57) := fun h => x ⟨a1, h⟩
      by_cases a2 : (97 : Int) ≤ (c.toNat : Int)
      · have b2 : ¬ ((c.toNat : Int) ≤ 102) := fun h => y ⟨a2, h⟩
        clear x y e
        go_enter Try.func17, Try.ntmps17
        go_wp2
        go_ret
        exact ⟨rfl, rfl⟩
      · clear x y e
        go_enter Try.func17, Try.ntmps17
        go_wp2
        go_ret
        exact ⟨rfl, rfl⟩
    · have a2 : ¬ ((97 : Int) ≤ (c.toNat : Int)) := by omega
      clear x y e
      go_enter Try.func17, Try.ntmps17
      go_wp2
      go_ret
      exact ⟨rfl, rfl⟩
/-- The place of a digit in the text of digits. -/
theorem idx_dv (c : UInt8) : Lib.indexByte hxS.data.toList c = if dv c < 16 then ((dv c : Nat) : Int) else -1 := by
  have : ∀ n, n < 256 → Lib.indexByte hxS.data.toList (UInt8.ofNat n) = if dv (UInt8.ofNat n) < 16 then ((dv (UInt8.ofNat n) : Nat) : Int) else -1 := by decide +kernel
  have h := this c.toNat c.toNat_lt
  rw [UInt8.ofNat_toNat] at h
  exact h
theorem call_idx (s : ByteArray) (c : UInt8) (W : World) : (callFunc 20 #[.string s, .int .u8 (c.toNat : Int)]).run Try.prog W = .ok (.value (.int .i64 (Lib.indexByte s.data.toList c))) W := by
  rw [run_callFunc_indexByte Try.func20 (by kernel_rfl) (by kernel_rfl) (by kernel_rfl) (by kernel_rfl), Lib.run_indexByteString]
  simp
set_option maxHeartbeats 400000 in
theorem iIndexL (s : ByteArray) (c : UInt8) (w : World) : Calls Try.prog 19 #[.string s, .int .u8 c.toNat] w fun e w' => e = .returned (.int .i64 (Lib.indexByte s.data.toList c)) ∧ w' = w := by
  have hC := call_idx s c
  generalize Lib.indexByte s.data.toList c = z at *
  go_enter Try.func19, Try.ntmps19
  go_wp2
  go_ret
  exact ⟨rfl, rfl⟩
set_option maxHeartbeats 400000 in
theorem iIndex (s : ByteArray) (c : UInt8) (w : World) : Calls Try.prog 18 #[.string s, .int .u8 c.toNat] w fun e w' => e = .returned (.int .i64 (Lib.indexByte s.data.toList c)) ∧ w' = w := by
  have C := iIndexL s c w
  generalize Lib.indexByte s.data.toList c = z at *
  go_enter Try.func18, Try.ntmps18
  go_wp2_with fail
  refine C.mono ?_
  rintro e w1 ⟨rfl, rfl⟩
  go_wp2
  go_ret
  exact ⟨rfl, rfl⟩
theorem hexRV_yes {t : ByteArray} {k : Nat} (hk : 2 * k = t.size) (h8 : t.size ≤ 8000) (h : hxOk t k) : hexRV t = txt (hxB t k) := by
  have e : t.size / 2 = k := by omega
  unfold hexRV
  rw [e]
  exact if_pos ⟨h8, by omega, h⟩
theorem hxAt_of {t : ByteArray} {i : Nat} (h : i < t.size) : dv (t[i]'h) = hxAt t i := by
  unfold hxAt
  rw [dif_pos h]
theorem byte_of (h l : Nat) (hh : h < 16) (hl : l < 16) : ((UInt8.ofNat (16 * h + l)).toNat : Int) = 16 * (h : Int) + (l : Int) := by
  rw [UInt8.toNat_ofNat', Nat.mod_eq_of_lt (by omega)]
  omega
set_option maxHeartbeats 1000000 in
theorem sHexR8 (t : ByteArray) (w : World) (ht : t.size ≤ 8000) (he : t.size % 2 = 0) :
    Calls Try.prog 13 #[.string t] w fun e w' => e = .returned (.string (hexRV t)) ∧ Below w.heap.size w w' := by
  have d0 : ¬ ((8000 : Int) < (t.size : Int)) := by omega
  have d1 : (t.size : Int).tmod 2 = 0 := by rw [Int.tmod_eq_emod_of_nonneg (by omega)]; omega
  go_enter Try.func13, Try.ntmps13
  go_wp2_with fail
  go_loopw [3, 4] (fun v i wr => ∃ (k : Nat), 2 * k ≤ t.size ∧ i = .int .i64 (2 * (k : Int)) ∧ hxOk t k ∧ wr.ownsRow w.heap.size 5 1 v (hxB t k).length (vals (hxB t k)) ∧ Below w.heap.size w wr) (fun _ i _ => t.size - (intOf i).toNat)
  case atStart => exact ⟨0, Nat.zero_le _, rfl, fun i hi => by omega, World.ownsRow_lit w #[] 0 (by omega) (Nat.zero_le _) rfl, (Below.refl _ _).alloc (Nat.le_refl _) _⟩
  case round =>
    obtain ⟨k, hk, rfl, hok, hown, hb1⟩ := hrel
    by_cases hlt : 2 * k < t.size
    · have hlt2 : 2 * k + 1 < t.size := by omega
      have hn2 : (hxB t k).length ≤ 4000 := by rw [hxB_len]; omega
      have HS := hide (hxB_succ t k)
      have HK := hide (hxOk_succ hok)
      have HN := hide (fun i hi h => @hexRV_no t i hi h)
      have C1 := hide fun w => sDigit (t[2 * k]'hlt) w
      have C2 := hide fun w => sDigit (t[2 * k + 1]'hlt2) w
      rw [hxAt_of hlt] at C1
      rw [hxAt_of hlt2] at C2
      have l1 := hxAt_le t (2 * k)
      have l2 := hxAt_le t (2 * k + 1)
      have hix1 : ∀ W, (Instr.index 9 (.string t) (.int .i64 (2 * (k : Int)))).run Try.prog W = .ok (.int .u8 ((t[2 * k]'hlt).toNat : Int)) W := by
        intro W
        rw [run_index_string _ _ _ _ _ Try.underlying9, dif_pos (by omega)]
        congr 4
      have hix2 : ∀ W, (Instr.index 9 (.string t) (.int .i64 (2 * (k : Int) + 1))).run Try.prog W = .ok (.int .u8 ((t[2 * k + 1]'hlt2).toNat : Int)) W := by
        intro W
        rw [run_index_string _ _ _ _ _ Try.underlying9, dif_pos (by omega)]
        congr 4
      have hsz := hb1.size
      have HO := hide hown
      have HB := hide hb1
      clear hown hok hb1 he
      generalize t[2 * k]'hlt = c1 at *
      generalize t[2 * k + 1]'hlt2 = c2 at *
      have HH := hide (byte_of (hxAt t (2 * k)) (hxAt t (2 * k + 1)))
      generalize hhv : hxAt t (2 * k) = h at *
      generalize hlv : hxAt t (2 * k + 1) = l at *
      have HV := hide (And.intro hhv hlv)
      clear hhv hlv
      have hd : (2 * (k : Int) < (t.size : Int)) := by omega
      by_cases e1 : h < 16
      · by_cases e2 : l < 16
        · have q1 : ¬ ((15 : Int) < (h : Int)) := by omega
          have q2 : ¬ ((15 : Int) < (l : Int)) := by omega
          have hw1 : IntKind.u8.wrap (16 * (h : Int)) = 16 * (h : Int) := by rw [IntKind.wrap_u8]; omega
          have hb := unhide HH e1 e2
          have hw2 : IntKind.u8.wrap (16 * (h : Int) + (l : Int)) = ((UInt8.ofNat (16 * h + l)).toNat : Int) := by rw [hb, IntKind.wrap_u8]; omega
          clear hb
          generalize UInt8.ofNat (16 * h + l) = b at *
          generalize hxB t k = L at *
          go_wp2_with fail
          refine (unhide C1 _).mono ?_
          rintro e w1 ⟨rfl, hw⟩
          replace hw := hw.symm
          subst hw
          go_wp2_with fail
          refine (unhide C2 _).mono ?_
          rintro e w1 ⟨rfl, hw⟩
          replace hw := hw.symm
          subst hw
          go_wp2_with (first
            | (at_builtin; refine append_bytes rfl _ _ rfl w.heap.size u3 L [b] rfl (unhide HO) 1 rfl rfl rfl (by simp; omega) hsz ?_; rintro v' w2 ho2 hb2; have HO2 := hide ho2; clear ho2))
          go_roundw
          case rel =>
            refine ⟨k + 1, by omega, by go_num, unhide HK e1 e2, ?_, (unhide HB).trans hb2⟩
            rw [unhide HS]
            exact unhide HO2
          case measure => simp [intOf]; omega
        · have q1 : ¬ ((15 : Int) < (h : Int)) := by omega
          have q2 : ((15 : Int) < (l : Int)) := by omega
          have HE := hide (unhide HN (2 * k + 1) hlt2 (by have := unhide HV; omega))
          go_wp2_with fail
          refine (unhide C1 _).mono ?_
          rintro e w1 ⟨rfl, hw⟩
          replace hw := hw.symm
          subst hw
          go_wp2_with fail
          refine (unhide C2 _).mono ?_
          rintro e w1 ⟨rfl, hw⟩
          replace hw := hw.symm
          subst hw
          go_wp2
          go_ret
          exact ⟨by rw [unhide HE]; rfl, unhide HB⟩
      · have q1 : ((15 : Int) < (h : Int)) := by omega
        have HE := hide (unhide HN (2 * k) hlt (by have := unhide HV; omega))
        go_wp2_with fail
        refine (unhide C1 _).mono ?_
        rintro e w1 ⟨rfl, hw⟩
        replace hw := hw.symm
        subst hw
        go_wp2_with fail
        refine (unhide C2 _).mono ?_
        rintro e w1 ⟨rfl, hw⟩
        replace hw := hw.symm
        subst hw
        go_wp2
        go_ret
        exact ⟨by rw [unhide HE]; rfl, unhide HB⟩
    · have hlt' : ¬ (2 * (k : Int) < (t.size : Int)) := by omega
      have hcv := own_conv hown
      have HE := hide (hexRV_yes (by omega) ht hok)
      generalize txt (hxB t k) = z at *
      go_wp2
      go_ret
      exact ⟨by rw [unhide HE]; rfl, hb1⟩
end Go.Proofs.Ytdhhkdkppcijnaa
