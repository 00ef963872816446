/- Hex, the model's and the program's: of a text of at most 4000 bytes each byte as two digits; what lay in memory stands. -/
import Derived.Test.YtdhhkdkppcijnaaHxM
import Derived.Deep.RegionHeld3
namespace Go.Proofs.Ytdhhkdkppcijnaa
open Go.RowKit
theorem and15 (c : UInt8) : bits .and .u8 (c.toNat : Int) 15 = ((c.toNat % 16 : Nat) : Int) := by
  rw [← Nat.and_two_pow_sub_one_eq_mod c.toNat 4]
  exact u8_and_nat c.toNat 15 c.toNat_lt (by decide)
/-- A text as bytes of its own; its block bears a mark. -/
theorem bytes_of2 (t : ByteArray) (W : World) : ∃ cap cs m W', (convert 9 30 (.string t)).run Try.prog W = .ok (.slice (some ⟨W.heap.size, 0, none⟩) t.size cap) W' ∧ t.size ≤ cap ∧ W'.heap[W.heap.size]? = some (.cells cs 5 (m, m + 1)) ∧ (∀ i (h : i < t.size), cs[i]? = some (.int .u8 t[i].toNat)) ∧ Below W.heap.size W W' ∧ W.heap.size < W'.heap.size := by
  have h := run_bytes_of_string (P := Try.prog) W 9 30 5 t Try.underlying9 Try.underlying30 Try.underlying5
  have hg := grownCap_ge W t.size 0 5
  refine ⟨_, _, _, _, h, by omega, heap_alloc_new W.drew _, ?_, (Below.refl _ _).drew.alloc (Nat.le_refl _) _, by simp⟩
  intro i hi
  simp [bytesRow, Array.getElem?_append, hi]
  rfl
theorem own_unmarked {w : World} {base : Nat} {e : TypeId} {size : Nat} {v : Value} {n B m : Nat} {xs : List Value} {cs : Array Value} (h : w.ownsRow base e size v n xs) (hB : w.heap[B]? = some (.cells cs e (m, m + 1))) : v.ownBlock ≠ some B := by
  intro hv
  rcases h.2 with ⟨rfl, _⟩ | ⟨g, cap, cur, rfl, _, h3, _⟩
  · cases hv
  · cases hv
    rw [h3] at hB
    injection hB with hB
    injection hB with _ _ hB
    cases hB
theorem own_lo {w w' : World} {base : Nat} {e : TypeId} {size : Nat} {v : Value} {n : Nat} {xs : List Value} (h : w.ownsRow base e size v n xs) (hb : Below w.heap.size w w') : w'.ownsRow base e size v n xs :=
  ⟨h.1, h.2.imp id fun ⟨g, cap, cur, p1, p2, p3, p4⟩ => ⟨g, cap, cur, p1, p2, (hb.block g (Array.getElem?_eq_some_iff.1 p3).1).trans p3, p4⟩⟩
theorem step_append_by {ops : Array Oper} {o : Oper} {a : Act} {K : Act → World → Prop} {Q : Exit → Act → World → Prop} {E : Prop} {wr : World} (w : World) (hgd : o.guard = none) (s x : Operand)
    (ho : o.op = .call { callee := .builtin .append, args := #[s, x], argTypes := #[30, 30] }) (base : Nat) (v : Value) (L news : List UInt8) (A : Nat) (hs : a.eval s = v) (m : Nat) (hm : news.length = m) (hx : a.eval x = .slice (some ⟨A, 0, none⟩) m m)
    (hown : wr.ownsRow base 5 1 v L.length (vals L)) (hb : Below wr.heap.size wr w) (hA : ∃ cs fr, w.heap[A]? = some (.cells cs 5 fr) ∧ cs.toList = vals news) (hL : L.length + news.length ≤ 10000000) (hbase : base ≤ wr.heap.size)
    (h : ∀ v' w', w'.ownsRow base 5 1 v' (L ++ news).length (vals (L ++ news)) → Below base wr w' → (∀ B, B < wr.heap.size → v.ownBlock ≠ some B → w'.heap[B]? = wr.heap[B]?) → K (a.put o.dst v') w') :
    if Region.wanted o (yielded ops a.tmps) = true then Oper.wp Try.prog o a w K Q else E := by
  have hw : Region.wanted o (yielded ops a.tmps) = true := by simp [Region.wanted, hgd]
  rw [if_pos hw]
  obtain ⟨i, hi, hz, hsz, hby⟩ := u8info
  obtain ⟨cs, fr, hA, hcs⟩ := hA
  subst hm
  have hlow : w.ownsRow base 5 1 v L.length (vals L) := own_lo hown hb
  obtain ⟨v', w', hr, h2, h3, _⟩ := run_append_own (P := Try.prog) w base 30 o.type 5 i _ 1 1 Try.underlying30 hi hz hsz hby rfl (by decide) v L.length (vals L) hlow ⟨A, 0, none⟩ news.length news.length (vals news) (by rw [vals_len, Nat.mul_one]) (fun j u hu => by
      rw [Addr.add_lit, Nat.zero_add, cell_of_row _ _ _ _ _ _ hA, ← hu, ← hcs, Array.getElem?_toList]) (fun u hu => by
      simp only [vals, nums, List.map_map, List.mem_map] at hu
      obtain ⟨x, _, rfl⟩ := hu
      rfl) (by unfold maxLen; omega) (by omega) (Nat.le_trans hbase hb.size)
  unfold Oper.wp execOp
  simp only [ho, resolve, invoke, builtin, Sem.run_bind, Sem.run_pure, Result.andThen_ok, List.map_toArray, List.map_cons, List.map_nil, hs, hx, hr]
  exact h v' w' (by rw [List.length_append, vals_append]; exact h2) ((hb.mono hbase).grown h3 (Nat.le_trans hbase hb.size) (fun q hq => (World.ownsRow.lt hlow q hq).1)) (fun B hB hv => (h3.block B (Nat.lt_of_lt_of_le hB hb.size) (fun e => hv e.symm)).trans (hb.block B hB))
set_option maxHeartbeats 1000000 in
theorem sHexL (t : ByteArray) (w : World) (ht : t.size ≤ 100000) :
    Calls Try.prog 16 #[.string t] w fun e w' => e = .returned (.string (txt (hexL t.data.toList))) ∧ Below w.heap.size w w' := by
  go_enter Try.func16, Try.ntmps16
  go_wp2_with fail
  go_loopw [3, 4] (fun v i wr => ∃ (k : Nat), k ≤ t.size ∧ i = .int .i64 k ∧ wr.ownsRow w.heap.size 5 1 v (hexL (t.data.toList.take k)).length (vals (hexL (t.data.toList.take k))) ∧ Below w.heap.size w wr) (fun _ i _ => t.size - (intOf i).toNat)
  case atStart => exact ⟨0, Nat.zero_le _, rfl, World.ownsRow_lit w #[] 0 (by omega) (Nat.zero_le _) rfl, (Below.refl _ _).alloc (Nat.le_refl _) _⟩
  case round =>
    obtain ⟨k, hk, rfl, hown, hb1⟩ := hrel
    by_cases hlt : k < t.size
    · have hn := hexL_len (t.data.toList.take k)
      rw [List.length_take] at hn
      have HS : Hid (hexL (t.data.toList.take (k + 1)) = hexL (t.data.toList.take k) ++ hex1 t[k]) := by
        refine hide ?_
        rw [take_snoc t k hlt, hexL_snoc]
      have hn2 : (hexL (t.data.toList.take k)).length ≤ 200000 := by omega
      generalize hexL (t.data.toList.take k) = L at *
      have hsz := hb1.size
      have HO := hide hown
      clear hown hn
      generalize hc : t[k] = c at *
      have hi1 : ∀ W, (Instr.index 9 (.string ⟨#[48, 49, 50, 51, 52, 53, 54, 55, 56, 57, 97, 98, 99, 100, 101, 102]⟩) (.int .u8 (IntKind.u8.wrap ((c.toNat : Int) / 16)))).run Try.prog W = .ok (.int .u8 ((dg (c.toNat / 16)).toNat : Int)) W := by
        intro W
        have hq : IntKind.u8.wrap ((c.toNat : Int) / 16) = ((c.toNat / 16 : Nat) : Int) := by have := c.toNat_lt; rw [IntKind.wrap_u8]; omega
        rw [hq]
        exact dg_index _ (by have := c.toNat_lt; omega) W
      have hi2 : ∀ W, (Instr.index 9 (.string ⟨#[48, 49, 50, 51, 52, 53, 54, 55, 56, 57, 97, 98, 99, 100, 101, 102]⟩) (.int .u8 (((c.toNat : Int).tmod 16)))).run Try.prog W = .ok (.int .u8 ((dg (c.toNat % 16)).toNat : Int)) W := by
        intro W
        have hq : ((c.toNat : Int).tmod 16) = ((c.toNat % 16 : Nat) : Int) := by have := c.toNat_lt; rw [Int.tmod_eq_emod_of_nonneg (by omega)]; omega
        rw [hq]
        exact dg_index _ (by omega) W
      unfold hex1 at HS
      generalize dg (c.toNat / 16) = d1 at *
      generalize dg (c.toNat % 16) = d2 at *
      go_wp2_with fail
      go_region_held3 (fun _ => True) (trivial) (first
          | (refine step_append_by _ (by rfl) _ _ (by rfl) w.heap.size u3 L [d1, d2] wr.heap.size (by rfl) 2 (by rfl) (by rfl) (unhide HO) (by first | exact ((Below.refl _ _).alloc (Nat.le_refl _) _).drew | exact ((Below.refl _ _).drew.alloc (Nat.le_refl _) _)) ⟨_, _, heap_alloc_new wr _, rfl⟩ (by simp; omega) hsz ?_; rintro v' w2 ho2 hb2 _; have HO2 := hide ho2; clear ho2))
      all_goals
        go_wp2_with fail
        go_roundw
        case rel =>
          refine ⟨k + 1, by omega, by go_num, ?_, hb1.trans hb2⟩
          rw [unhide HS]
          exact unhide HO2
        case measure => simp [intOf]; omega
    · have hlt' : ¬ ((k : Int) < (t.size : Int)) := by omega
      have hcv := own_conv hown
      rw [List.take_of_length_le (by simp; omega)] at hcv
      go_wp2
      go_ret
      exact ⟨rfl, hb1⟩
set_option maxHeartbeats 1000000 in
theorem sHex (t : ByteArray) (w : World) (ht : t.size ≤ maxLen) :
    Calls Try.prog 11 #[.string t] w fun e w' => e = .returned (.string (hexV t)) ∧ Below w.heap.size w w' := by
  unfold maxLen at ht
  by_cases h4 : t.size ≤ 4000
  · rw [show hexV t = _ from if_pos h4]
    have d0 : ¬ ((4000 : Int) < (t.size : Int)) := by omega
    have C := sHexL t w (by omega)
    generalize txt (hexL t.data.toList) = z at *
    go_enter Try.func11, Try.ntmps11
    go_wp2_with fail
    refine C.mono ?_
    rintro e w1 ⟨rfl, hb1⟩
    go_wp2
    go_ret
    exact ⟨rfl, hb1⟩
  · rw [show hexV t = _ from if_neg h4]
    have d0 : (4000 : Int) < (t.size : Int) := by omega
    go_enter Try.func11, Try.ntmps11
    go_wp2
    go_ret
    exact ⟨rfl, Below.refl _ _⟩
set_option maxHeartbeats 1000000 in
theorem iHex4 (t : ByteArray) (w : World) (ht : t.size ≤ 4000) :
    Calls Try.prog 12 #[.string t] w fun e w' => e = .returned (.string (txt (hexL t.data.toList))) ∧ Below w.heap.size w w' := by
  have d0 : ¬ ((4000 : Int) < (t.size : Int)) := by omega
  go_enter Try.func12, Try.ntmps12
  go_wp2_with (first
    | (at_make; refine mk_bytes rfl _ _ rfl w.heap.size _ (2 * t.size) rfl rfl (by go_num) (by omega) (by simp) ?_; rintro v0 w2 ho2 hb2; obtain ⟨cap, cs, m, W1, hcv, hcap, hbl, hcs, hb1, hlt1⟩ := bytes_of2 t w2; have HO2 := hide ho2; have HB2 := hide hb2; clear ho2 hb2))
  have HL := hide hbl
  have HC := hide hcs
  have HB1 := hide hb1
  clear hbl hcs hb1 hcv
  have hs2 := (unhide HB2).size
  go_loopw [3, 16] (fun v i wr => ∃ (k : Nat), k ≤ t.size ∧ i = .int .i64 k ∧ wr.ownsRow w.heap.size 5 1 v (hexL (t.data.toList.take k)).length (vals (hexL (t.data.toList.take k))) ∧ Below w.heap.size w wr ∧ wr.heap[w2.heap.size]? = some (.cells cs 5 (m, m + 1))) (fun _ i _ => t.size - (intOf i).toNat)
  case atStart => exact ⟨0, Nat.zero_le _, rfl, own_lo (unhide HO2) (unhide HB1), (unhide HB2).trans ((unhide HB1).mono hs2), unhide HL⟩
  case round =>
    obtain ⟨k, hk, rfl, hown, hb1, hly⟩ := hrel
    by_cases hlt : k < t.size
    · have hn := hexL_len (t.data.toList.take k)
      rw [List.length_take] at hn
      have HS : Hid (hexL (t.data.toList.take (k + 1)) = hexL (t.data.toList.take k) ++ hex1 t[k]) := by
        refine hide ?_
        rw [take_snoc t k hlt, hexL_snoc]
      have hn2 : (hexL (t.data.toList.take k)).length ≤ 200000 := by omega
      have hcell : wr.cell? ⟨w2.heap.size, k, none⟩ = some (.int .u8 t[k].toNat) := by rw [cell_of_row _ _ _ _ _ _ hly]; exact unhide HC k hlt
      generalize hexL (t.data.toList.take k) = L at *
      have hsz := hb1.size
      have HO := hide hown
      have HY := hide (And.intro (own_unmarked hown hly) hly)
      clear hown hn hly
      generalize hc : t[k] = c at *
      have hi1 : ∀ W, (Instr.index 9 (.string ⟨#[48, 49, 50, 51, 52, 53, 54, 55, 56, 57, 97, 98, 99, 100, 101, 102]⟩) (.int .u8 ((c.toNat : Int) / 16))).run Try.prog W = .ok (.int .u8 ((dg (c.toNat / 16)).toNat : Int)) W := by
        intro W
        rw [show (c.toNat : Int) / 16 = ((c.toNat / 16 : Nat) : Int) by omega]
        exact dg_index _ (by have := c.toNat_lt; omega) W
      have hi2 : ∀ W, (Instr.index 9 (.string ⟨#[48, 49, 50, 51, 52, 53, 54, 55, 56, 57, 97, 98, 99, 100, 101, 102]⟩) (.int .u8 (bits .and .u8 (c.toNat : Int) 15))).run Try.prog W = .ok (.int .u8 ((dg (c.toNat % 16)).toNat : Int)) W := by
        intro W
        rw [and15 c]
        exact dg_index _ (by omega) W
      unfold hex1 at HS
      generalize dg (c.toNat / 16) = d1 at *
      generalize dg (c.toNat % 16) = d2 at *
      go_wp2_with fail
      go_region_held3 (fun _ => True) (trivial) (first
          | (refine step_append_by _ (by rfl) _ _ (by rfl) w.heap.size u3 L [d1, d2] wr.heap.size (by rfl) 2 (by rfl) (by rfl) (unhide HO) (by first | exact ((Below.refl _ _).alloc (Nat.le_refl _) _).drew | exact ((Below.refl _ _).drew.alloc (Nat.le_refl _) _)) ⟨_, _, heap_alloc_new wr _, rfl⟩ (by simp; omega) hsz ?_; rintro v' w3 ho2 hb2 hg2; have HO3 := hide ho2; have HG3 := hide (And.intro hb2 hg2); clear ho2 hb2 hg2))
      all_goals
        go_wp2_with fail
        go_roundw
        case rel =>
          refine ⟨k + 1, by omega, by go_num, ?_, hb1.trans (unhide HG3).1, ?_⟩
          · rw [unhide HS]
            exact unhide HO3
          · rw [(unhide HG3).2 _ (Array.getElem?_eq_some_iff.1 (unhide HY).2).1 (unhide HY).1]
            exact (unhide HY).2
        case measure => simp [intOf]; omega
    · have hlt' : ¬ ((k : Int) < (t.size : Int)) := by omega
      have hcv := own_conv hown
      rw [List.take_of_length_le (by simp; omega)] at hcv
      go_wp2
      go_ret
      exact ⟨rfl, hb1⟩
theorem iHex (t : ByteArray) (w : World) (ht : t.size ≤ maxLen) :
    Calls Try.prog 12 #[.string t] w fun e w' => e = .returned (.string (hexV t)) ∧ Below w.heap.size w w' := by
  unfold maxLen at ht
  by_cases h4 : t.size ≤ 4000
  · rw [show hexV t = _ from if_pos h4]
    exact iHex4 t w h4
  · rw [show hexV t = _ from if_neg h4]
    have d0 : (4000 : Int) < (t.size : Int) := by omega
    go_enter Try.func12, Try.ntmps12
    go_wp2
    go_ret
    exact ⟨rfl, Below.refl _ _⟩
end Go.Proofs.Ytdhhkdkppcijnaa
