/- The program's HexRead: of a text of at most 8000 digits, an even count of them, the bytes, else the empty text; what lay in memory stands. -/
import Derived.Test.YtdhhkdkppcijnaaHxR
namespace Go.Proofs.Ytdhhkdkppcijnaa
open Go.RowKit
/-- The row of n bytes, of which k are set. -/
def hxW (t : ByteArray) (n k : Nat) : List Value := vals (hxB t k) ++ List.replicate (n - k) (.int .u8 0)
theorem hxW_len {t : ByteArray} {n k : Nat} (h : k ≤ n) : (hxW t n k).length = n := by
  unfold hxW
  rw [List.length_append, vals_len, hxB_len, List.length_replicate]
  omega
theorem hxW_at {t : ByteArray} {n k : Nat} (h : k < n) : (hxW t n k)[k]? = some (.int .u8 0) := by
  unfold hxW
  rw [List.getElem?_append_right (by rw [vals_len, hxB_len]; omega), vals_len, hxB_len, Nat.sub_self, List.getElem?_replicate, if_pos (by omega)]
theorem hxW_set {t : ByteArray} {n k : Nat} (h : k < n) (b : UInt8) (hb : b = UInt8.ofNat (16 * hxAt t (2 * k) + hxAt t (2 * k + 1))) : (hxW t n k).set k (.int .u8 b.toNat) = hxW t n (k + 1) := by
  unfold hxW
  rw [List.set_append_right _ _ (by rw [vals_len, hxB_len]; omega), vals_len, hxB_len, Nat.sub_self, hxB_succ, ← hb, vals_append, List.append_assoc]
  congr 1
  obtain ⟨m, hm⟩ : ∃ m, n - k = m + 1 := ⟨n - k - 1, by omega⟩
  rw [hm, show n - (k + 1) = m by omega, List.replicate_succ, List.set_cons_zero]
  rfl
theorem hx_made {w w1 : World} {n : Nat} {t : ByteArray} (ho : w1.ownsRow w.heap.size 5 1 (.slice (some ⟨w.heap.size, 0, none⟩) n n) n (madeCells (Value.int .u8 0).cells (n * 1)).toList) : w1.heap[w.heap.size]? = some (.cells (hxW t n 0).toArray 5) := by
  rcases ho.2 with ⟨e, _⟩ | ⟨g, cap, cur, e, _, h3, h4, _, h6, h7⟩
  · cases e
  · cases e
    rw [h3]
    congr 2
    rw [Nat.mul_one] at h6 h7
    rw [List.take_of_length_le (by simp; omega)] at h7
    have e1 : (madeCells (Value.int .u8 0).cells n).toList = List.replicate n (.int .u8 0) := toList_madeCells_one _ _
    rw [e1] at h7
    have e2 : hxW t n 0 = List.replicate n (.int .u8 0) := rfl
    rw [e2, ← h7]
theorem hx_conv {w : World} {B n : Nat} {t : ByteArray} (h : w.heap[B]? = some (.cells (hxW t n n).toArray 5)) : (convert 30 9 (.slice (some ⟨B, 0, none⟩) n n)).run Try.prog w = .ok (.string (txt (hxB t n))) w := by
  have hl := hxB_len t n
  have := run_convert_bytes_back (P := Try.prog) w 30 9 5 ⟨B, 0, none⟩ n (hxB t n) Try.underlying30 Try.underlying5 Try.underlying9 (fun j hj => by
    rw [Addr.add_lit, Nat.zero_add, cell_of_row _ _ _ _ _ _ h]
    have e2 : hxW t n n = vals (hxB t n) := by unfold hxW; rw [Nat.sub_self]; exact List.append_nil _
    rw [e2]
    simp [vals, nums, hj])
  rw [hl] at this
  exact this
theorem or_byte (h l : Nat) (hh : h < 16) (hl : l < 16) : bits .or .i64 ((h : Int) * 16) (l : Int) % 256 = ((UInt8.ofNat (16 * h + l)).toNat : Int) := by
  have : ∀ h : Nat, h < 16 → ∀ l : Nat, l < 16 → bits .or .i64 ((h : Int) * 16) (l : Int) % 256 = ((UInt8.ofNat (16 * h + l)).toNat : Int) := by decide +kernel
  exact this h hh l hl
set_option maxHeartbeats 1000000 in
theorem iHexR8 (t : ByteArray) (w : World) (ht : t.size ≤ 8000) (he : t.size % 2 = 0) :
    Calls Try.prog 14 #[.string t] w fun e w' => e = .returned (.string (hexRV t)) ∧ Below w.heap.size w w' := by
  have d0 : ¬ ((8000 : Int) < (t.size : Int)) := by omega
  have d1 : (t.size : Int).tmod 2 = 0 := by rw [Int.tmod_eq_emod_of_nonneg (by omega)]; omega
  obtain ⟨n, hn⟩ : ∃ n, t.size = 2 * n := ⟨t.size / 2, by omega⟩
  have d2 : (t.size : Int) / 2 = (n : Int) := by omega
  have hn4 : n ≤ 4000 := by omega
  have hi1 := u8info
  obtain ⟨ui, hi1, hi2, hi3, hi4⟩ := u8info
  have HN := hide hn
  clear hn
  go_enter Try.func14, Try.ntmps14
  go_wp2_with (first
    | (at_make; refine wpList_make_full w rfl _ _ 30 rfl w.heap.size 5 ui (.int .u8 0) 1 Try.underlying30 hi1 hi2 hi3 .i64 .i64 _ _ n rfl rfl (by go_num) (by go_num) (by rw [hi4]; omega) (by unfold maxLen; omega) (Nat.le_refl _) ?_; rintro w1 ho1 hg1; have HM := hide (And.intro (hx_made (t := t) ho1) ((Below.refl w.heap.size w).grown hg1 (Nat.le_refl _) (fun q hq => by cases hq))); clear ho1 hg1))
  go_loopw [22] (fun i wr => ∃ (k : Nat), k ≤ n ∧ i = .int .i64 (k : Int) ∧ hxOk t k ∧ wr.heap[w.heap.size]? = some (.cells (hxW t n k).toArray 5) ∧ Below w.heap.size w wr) (fun i _ => n - (intOf i).toNat)
  case atStart => exact ⟨0, Nat.zero_le _, rfl, fun i hi => by omega, (unhide HM).1, (unhide HM).2⟩
  case round =>
    obtain ⟨k, hk, rfl, hok, hrow, hb1⟩ := hrel
    by_cases hlk : k < n
    · have hlt : 2 * k < t.size := by have := unhide HN; omega
      have hlt2 : 2 * k + 1 < t.size := by have := unhide HN; omega
      have HS := hide (fun b => @hxW_set t n k hlk b)
      have HK := hide (hxOk_succ hok)
      have HE := hide (fun i hi h => @hexRV_no t i hi h)
      have C1 := hide fun w => iIndex hxS (t[2 * k]'hlt) w
      have C2 := hide fun w => iIndex hxS (t[2 * k + 1]'hlt2) w
      rw [idx_dv, hxAt_of hlt] at C1
      rw [idx_dv, hxAt_of hlt2] at C2
      have l1 := hxAt_le t (2 * k)
      have l2 := hxAt_le t (2 * k + 1)
      have hix1 : ∀ W, (Instr.index 9 (.string t) (.int .i64 (2 * (k : Int)))).run Try.prog W = .ok (.int .u8 ((t[2 * k]'hlt).toNat : Int)) W := by
        intro W
        rw [run_index_string _ _ _ _ _ Try.underlying9, dif_pos (by omega)]
        congr 4
      have hix2 : ∀ W, (Instr.index 9 (.string t) (.int .i64 (2 * (k : Int) + 1))).run Try.prog W = .ok (.int .u8 ((t[2 * k + 1]'hlt2).toNat : Int)) W := by
        intro W
        rw [run_index_string _ _ _ _ _ Try.underlying9, dif_pos (by omega)]
        congr 4
      have k1 : wr.cell? ⟨w.heap.size, k, none⟩ = some (.int .u8 0) := by rw [cell_of_row _ _ _ _ _ _ hrow, List.getElem?_toArray]; exact hxW_at hlk
      have k2 := frz hrow k
      have HB := hide (And.intro hrow hb1)
      clear hrow hok hb1 he HM
      generalize t[2 * k]'hlt = c1 at *
      generalize t[2 * k + 1]'hlt2 = c2 at *
      have HH := hide (byte_of (hxAt t (2 * k)) (hxAt t (2 * k + 1)))
      generalize hhv : hxAt t (2 * k) = h at *
      generalize hlv : hxAt t (2 * k + 1) = l at *
      have HV := hide (And.intro hhv hlv)
      clear hhv hlv
      have hd : ((k : Int) < (n : Int)) := by omega
      by_cases e1 : h < 16
      · rw [if_pos e1] at C1
        have q1 : ¬ ((h : Int) < 0) := by omega
        by_cases e2 : l < 16
        · rw [if_pos e2] at C2
          have q2 : ¬ ((l : Int) < 0) := by omega
          go_wp2_with fail
          refine (unhide C1 _).mono ?_
          rintro e w1 ⟨rfl, hw⟩
          replace hw := hw.symm
          subst hw
          go_wp2_with fail
          refine (unhide C2 _).mono ?_
          rintro e w1 ⟨rfl, hw⟩
          replace hw := hw.symm
          subst hw
          go_wp2
          rw [or_byte h l e1 e2]
          refine ⟨⟨k + 1, by omega, by go_num, unhide HK e1 e2, ?_, ?_⟩, ?_⟩
          · rw [heap_setCell_same _ _ _ _ _ _ (unhide HB).1, List.setIfInBounds_toArray, unhide HS _ rfl]
          · exact (unhide HB).2.setCell (p := ⟨w.heap.size, k, none⟩) (Nat.le_refl _) _
          · simp [intOf]; omega
        · rw [if_neg e2] at C2
          have HQ := hide (unhide HE (2 * k + 1) hlt2 (by have := unhide HV; omega))
          go_wp2_with fail
          refine (unhide C1 _).mono ?_
          rintro e w1 ⟨rfl, hw⟩
          replace hw := hw.symm
          subst hw
          go_wp2_with fail
          refine (unhide C2 _).mono ?_
          rintro e w1 ⟨rfl, hw⟩
          replace hw := hw.symm
          subst hw
          go_wp2
          go_ret
          exact ⟨by rw [unhide HQ]; rfl, (unhide HB).2⟩
      · rw [if_neg e1] at C1
        have HQ := hide (unhide HE (2 * k) hlt (by have := unhide HV; omega))
        generalize (if l < 16 then (l : Int) else -1) = lz at *
        go_wp2_with fail
        refine (unhide C1 _).mono ?_
        rintro e w1 ⟨rfl, hw⟩
        replace hw := hw.symm
        subst hw
        go_wp2_with fail
        refine (unhide C2 _).mono ?_
        rintro e w1 ⟨rfl, hw⟩
        replace hw := hw.symm
        subst hw
        go_wp2
        go_ret
        exact ⟨by rw [unhide HQ]; rfl, (unhide HB).2⟩
    · have hlt' : ¬ ((k : Int) < (n : Int)) := by omega
      have hkn : k = n := by omega
      subst hkn
      have hcv := hx_conv hrow
      have HE := hide (hexRV_yes (by have := unhide HN; omega) ht hok)
      generalize txt (hxB t k) = z at *
      go_wp2
      go_ret
      exact ⟨by rw [unhide HE]; rfl, hb1⟩
set_option maxHeartbeats 400000 in
theorem sHexR (t : ByteArray) (w : World) (ht : t.size ≤ maxLen) :
    Calls Try.prog 13 #[.string t] w fun e w' => e = .returned (.string (hexRV t)) ∧ Below w.heap.size w w' := by
  unfold maxLen at ht
  by_cases h8 : t.size ≤ 8000
  · by_cases he : t.size % 2 = 0
    · exact sHexR8 t w h8 he
    · rw [show hexRV t = _ from if_neg fun h => he h.2.1]
      have d0 : ¬ ((8000 : Int) < (t.size : Int)) := by omega
      have d1 : (t.size : Int).tmod 2 = 1 := by rw [Int.tmod_eq_emod_of_nonneg (by omega)]; omega
      go_enter Try.func13, Try.ntmps13
      go_wp2
      go_ret
      exact ⟨rfl, Below.refl _ _⟩
  · rw [show hexRV t = _ from if_neg fun h => h8 h.1]
    have d0 : (8000 : Int) < (t.size : Int) := by omega
    go_enter Try.func13, Try.ntmps13
    go_wp2
    go_ret
    exact ⟨rfl, Below.refl _ _⟩
set_option maxHeartbeats 400000 in
theorem iHexR (t : ByteArray) (w : World) (ht : t.size ≤ maxLen) :
    Calls Try.prog 14 #[.string t] w fun e w' => e = .returned (.string (hexRV t)) ∧ Below w.heap.size w w' := by
  unfold maxLen at ht
  by_cases h8 : t.size ≤ 8000
  · by_cases he : t.size % 2 = 0
    · exact iHexR8 t w h8 he
    · rw [show hexRV t = _ from if_neg fun h => he h.2.1]
      have d0 : ¬ ((8000 : Int) < (t.size : Int)) := by omega
      have d1 : (t.size : Int).tmod 2 = 1 := by rw [Int.tmod_eq_emod_of_nonneg (by omega)]; omega
      go_enter Try.func14, Try.ntmps14
      go_wp2
      go_ret
      exact ⟨rfl, Below.refl _ _⟩
  · rw [show hexRV t = _ from if_neg fun h => h8 h.1]
    have d0 : (8000 : Int) < (t.size : Int) := by omega
    go_enter Try.func14, Try.ntmps14
    go_wp2
    go_ret
    exact ⟨rfl, Below.refl _ _⟩
end Go.Proofs.Ytdhhkdkppcijnaa
