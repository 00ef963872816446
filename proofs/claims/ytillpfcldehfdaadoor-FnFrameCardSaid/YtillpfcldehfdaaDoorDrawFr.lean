/- The draw of a text, an accm and a width: a text of at most 301 bytes; what lay in memory stands. -/
import Derived.Test.YtillpfcldehfdaaDoorDrawBy
namespace Go.Proofs.YtillpfcldehfdaaDoor
open Go.RowKit
theorem made_zeros (n : Nat) : (madeCells (Value.int .u8 0).cells (n * 1)).toList = (List.replicate n (0 : Int)).map (Value.int .u8) := by
  apply List.ext_getElem
  · simp [madeCells, Value.cells]
  · intro i h1 h2
    simp [madeCells, Value.cells, Nat.mod_one]
set_option maxHeartbeats 1000000 in
theorem drawFrame (w : World) (sl : Value) (n : Nat) (hn : n ≤ maxLen) (hD : Dat w w.heap.size sl n) :
    Calls Tryd.prog 16 #[sl] w fun e w' => ∃ (t : ByteArray) (x : Int) (b : Bool), e = .returned (.tuple #[.string t, .int .i64 x, .bool b]) ∧ t.size ≤ 301 ∧ Below w.heap.size w w' := by
  obtain ⟨ui, hi1, hi2, hi3, hi4⟩ := u8info
  have c := src_new w sl n hn hD
  have HD := hide hD
  clear hD
  go_enter Tryd.func16, Tryd.ntmps16
  go_wp2_with fail
  refine c.mono ?_
  rintro e w1 ⟨rfl, hS1, hb1⟩
  have HS1 := hide hS1
  clear hS1 c
  go_wp2_with fail
  refine (src_n w1 w.heap.size sl n 20 (by decide) hn (unhide HS1) ((unhide HD).below hb1)).mono ?_
  rintro e w3 ⟨r, rfl, hr, hS3, ht3⟩
  have hb4 := hb1.trans ht3.below
  have HS3 := hide hS3
  clear hS3 ht3
  go_wp2_with fail
  refine (src_odd w3 w.heap.size sl n r (by omega) hn (unhide HS3) ((unhide HD).below hb4)).mono ?_
  rintro e w4 ⟨t, rfl, hts, hS4, hb5⟩
  have hb6 := hb4.trans hb5
  have hts2 : t.size ≤ 301 := by omega
  have HS4 := hide hS4
  clear hS4 hts hr
  go_wp2_with fail
  refine (src_one w4 w.heap.size sl n 20 (by decide) hn (unhide HS4) ((unhide HD).below hb6)).mono ?_
  rintro e w5 ⟨b, rfl, hS5, ht5⟩
  have hb7 := hb6.trans ht5.below
  have HS5 := hide hS5
  clear hS5 ht5
  cases b
  · go_wp2_with fail
    refine (src_accm w5 w.heap.size sl n hn (unhide HS5) ((unhide HD).below hb7)).mono ?_
    rintro e w6 ⟨x, rfl, _, _, hS6, hb8⟩
    have hb9 := hb7.trans hb8
    have HS6 := hide hS6
    clear hS6
    go_wp2_with fail
    refine (src_one w6 w.heap.size sl n 2 (by decide) hn (unhide HS6) ((unhide HD).below hb9)).mono ?_
    rintro e w7 ⟨p, rfl, hS7, ht7⟩
    go_wp2
    refine bodyPost_ret (v := .tuple #[.string t, .int .i64 x, .bool p]) (by simp [results, Tryd.results16, go_sem]) rfl ⟨t, x, p, rfl, hts2, hb9.trans ht7.below⟩
  · go_wp2_with fail
    refine (src_n w5 w.heap.size sl n 3 (by decide) hn (unhide HS5) ((unhide HD).below hb7)).mono ?_
    rintro e w6 ⟨r, rfl, hr, hS6, ht6⟩
    have hb8 := hb7.trans ht6.below
    have hsz := hb8.size
    have hr6 : r < 3 := by omega
    have hlt := hS6.lt
    have HS6 := hide hS6
    clear hS6 ht6 hr
    go_wp2_with (first
      | (at_make; refine wpList_make_full w6 rfl _ _ 22 rfl w6.heap.size 5 ui (.int .u8 0) 1 Tryd.underlying22 hi1 hi2 hi3 .i64 .i64 _ _ (299 + r) rfl rfl (by go_num) (by go_num) (by rw [hi4]; omega) (by unfold maxLen; omega) (Nat.le_refl _) ?_; rintro w7 ho7 hg7; rw [made_zeros] at ho7; have hcv := conv_own ho7; have hb9 : Below w6.heap.size w6 w7 := (Below.refl _ _).grown hg7 (Nat.le_refl _) (fun k hk => by cases hk); clear ho7 hg7))
    have hb10 : Below w.heap.size w w7 := hb8.trans (hb9.mono hsz)
    have HS7 := hide ((unhide HS6).same (hb9.block w.heap.size hlt))
    have hzs : (strOfNums (List.replicate (299 + r) 0)).size ≤ 301 := by rw [strOfNums_size, List.length_replicate]; omega
    generalize strOfNums (List.replicate (299 + r) 0) = z at *
    clear hcv hb9 HS6
    refine (src_accm w7 w.heap.size sl n hn (unhide HS7) ((unhide HD).below hb10)).mono ?_
    rintro e w8 ⟨x, rfl, _, _, hS8, hb8'⟩
    have hb11 := hb10.trans hb8'
    have HS8 := hide hS8
    clear hS8
    go_wp2_with fail
    refine (src_one w8 w.heap.size sl n 2 (by decide) hn (unhide HS8) ((unhide HD).below hb11)).mono ?_
    rintro e w9 ⟨p, rfl, hS9, ht9⟩
    go_wp2
    refine bodyPost_ret (v := .tuple #[.string z, .int .i64 x, .bool p]) (by simp [results, Tryd.results16, go_sem]) rfl ⟨z, x, p, rfl, hzs, hb11.trans ht9.below⟩
end Go.Proofs.YtillpfcldehfdaaDoor
