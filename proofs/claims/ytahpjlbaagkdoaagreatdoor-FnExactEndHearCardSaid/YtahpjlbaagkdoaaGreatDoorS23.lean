/- The model's end at work: an id more, a try less, a packet put behind those that are sent; what lay in memory stands but for those cells. The law's marks of options: a text of a number, options marked by numbers, and whether the marks are there; two rows held against each other; what lay in memory stands but for the marked row. The marks that the law lays in an End's rows, and whether they are held; its size; what else lay in memory stands. The model's end at work: up, and down: the lines of what was agreed to; what lay in memory stands but for those cells. -/
import Derived.Test.YtahpjlbaagkdoaaGreatDoorS15
import Derived.Great.Walk
import Derived.Test.YtahpjlbaagkdoaaGreatDoorS04
import Derived.Test.YtahpjlbaagkdoaaGreatDoorS14
import Derived.Test.YtahpjlbaagkdoaaGreatDoorS09
import Derived.Test.YtahpjlbaagkdoaaGreatDoorShW
namespace Go.Proofs.YtahpjlbaagkdoaaGreatDoor
open Go.RowKit
set_option maxHeartbeats 1000000 in
theorem wkNext (B : Nat) (cs : Array Value) (id : Int) (w : World) (hB : w.heap[B]? = some (.cells cs 89)) (hid : cs[15]? = some (.int .i64 id)) (h1 : 0 ≤ id) (h2 : id ≤ 255) :
    Calls Tryz.prog 122 #[.pointer (some ⟨B, 0, none⟩)] w fun e w' => e = .returned (.int .i64 ((id + 1) % 256)) ∧ w' = w.setCell ⟨B, 15, none⟩ (.int .i64 ((id + 1) % 256)) := by
  have c0 : w.cell? ⟨B, 15, none⟩ = some (.int .i64 id) := by rw [cell_of_row _ _ _ _ _ _ hB]; exact hid
  have f0 : w.frozen? ⟨B, 15, none⟩ = false := frz hB 15
  have hm : (id + 1).tmod 256 = (id + 1) % 256 := Int.tmod_eq_emod_of_nonneg (by omega)
  have c1 : (w.setCell ⟨B, 15, none⟩ (.int .i64 ((id + 1) % 256))).cell? ⟨B, 15, none⟩ = some (.int .i64 ((id + 1) % 256)) := by
    rw [cell_of_row _ _ _ _ _ _ (heap_setCell_same _ _ 15 _ _ _ hB), Array.getElem?_setIfInBounds, if_pos rfl, if_pos (Array.getElem?_eq_some_iff.1 hid).1]
  clear hB hid
  go_enter Tryz.func122, Tryz.ntmps122
  go_wp2
  go_ret
  exact ⟨rfl, rfl⟩
set_option maxHeartbeats 400000 in
theorem specMax0 (y : Int) (w : World) : Calls Tryz.prog 139 #[.int .i64 0, .int .i64 y] w fun e w' => e = .returned (.int .i64 (max 0 y)) ∧ w' = w := by
  by_cases h : 0 ≤ y
  · rw [Int.max_eq_right h]
    by_cases h0 : y = 0
    · subst h0
      go_enter Tryz.func139, Tryz.ntmps139
      go_wp2
      go_ret
      exact ⟨rfl, rfl⟩
    · have h1 : 0 < y := by omega
      go_enter Tryz.func139, Tryz.ntmps139
      go_wp2
      go_ret
      exact ⟨rfl, rfl⟩
  · rw [Int.max_eq_left (by omega)]
    have h1 : y < 0 := by omega
    have h2 : ¬ (0 < y) := by omega
    go_enter Tryz.func139, Tryz.ntmps139
    go_wp2
    go_ret
    exact ⟨rfl, rfl⟩
set_option maxHeartbeats 1000000 in
theorem wkTry (B : Nat) (cs : Array Value) (tr du now : Int) (w : World) (hB : w.heap[B]? = some (.cells cs 89)) (h13 : cs[13]? = some (.int .i64 tr)) (h14 : cs[14]? = some (.int .i64 du)) (h30 : cs[30]? = some (.int .i64 now)) (h1 : 0 ≤ tr) (h2 : tr ≤ 5) (h3 : 0 ≤ now) (h4 : now ≤ 1000000000) :
    Calls Tryz.prog 123 #[.pointer (some ⟨B, 0, none⟩)] w fun e w' => e = .returned (.tuple #[]) ∧ w' = (w.setCell ⟨B, 13, none⟩ (.int .i64 (max 0 (tr - 1)))).setCell ⟨B, 14, none⟩ (.int .i64 (now + 3)) := by
  have c0 : w.cell? ⟨B, 13, none⟩ = some (.int .i64 tr) := by rw [cell_of_row _ _ _ _ _ _ hB]; exact h13
  have f0 : w.frozen? ⟨B, 13, none⟩ = false := frz hB 13
  have hB1 := heap_setCell_same w B 13 _ _ (.int .i64 (max 0 (tr - 1))) hB
  have c1 : (w.setCell ⟨B, 13, none⟩ (.int .i64 (max 0 (tr - 1)))).cell? ⟨B, 30, none⟩ = some (.int .i64 now) := by
    rw [cell_of_row _ _ _ _ _ _ hB1, Array.getElem?_setIfInBounds, if_neg (by decide)]; exact h30
  have c2 : (w.setCell ⟨B, 13, none⟩ (.int .i64 (max 0 (tr - 1)))).cell? ⟨B, 14, none⟩ = some (.int .i64 du) := by
    rw [cell_of_row _ _ _ _ _ _ hB1, Array.getElem?_setIfInBounds, if_neg (by decide)]; exact h14
  have f2 : (w.setCell ⟨B, 13, none⟩ (.int .i64 (max 0 (tr - 1)))).frozen? ⟨B, 14, none⟩ = false := frz hB1 14
  have C := hide fun W => specMax0 (tr - 1) W
  clear hB hB1 h13 h14 h30
  generalize max 0 (tr - 1) = t2 at *
  go_enter Tryz.func123, Tryz.ntmps123
  go_wp2_with (first | (go_at_call 139; refine (unhide C _).mono ?_; rintro e w1 ⟨rfl, hw1⟩; replace hw1 := hw1.symm; subst hw1))
  exact Great.bodyPost_end0 rfl rfl ⟨rfl, rfl⟩
set_option maxHeartbeats 1000000 in
theorem wkPut (B base : Nat) (cs : Array Value) (vs : Value) (S : List Op.Pk) (cd id : Int) (dt : ByteArray) (w : World) (hB : w.heap[B]? = some (.cells cs 89)) (h37 : cs[37]? = some vs) (hS : S.length ≤ 1000) (ho : w.ownsRow base 35 3 vs S.length (pkcells S)) (hne : vs.ownBlock ≠ some B) (hbase : base ≤ w.heap.size) :
    Calls Tryz.prog 121 #[.pointer (some ⟨B, 0, none⟩), .int .i64 cd, .int .i64 id, .string dt] w fun e w' => e = .returned (.tuple #[]) ∧ ∃ v w1, w' = w1.setCell ⟨B, 37, none⟩ v ∧ w1.ownsRow base 35 3 v (S.length + 1) (pkcells (S ++ [⟨cd, id, dt⟩])) ∧ (w.alloc (.cells #[.int .i64 cd, .int .i64 id, .string dt] 35)).grownBy w1 vs.ownBlock := by
  have c0 : w.cell? ⟨B, 37, none⟩ = some vs := by rw [cell_of_row _ _ _ _ _ _ hB]; exact h37
  obtain ⟨ad, cp, rfl⟩ := own_form ho
  have HB := hide (And.intro hB (And.intro h37 hne))
  have HO := hide ho
  have hl : B < w.heap.size := (Array.getElem?_eq_some_iff.1 hB).1
  obtain ⟨n, hn⟩ : ∃ n, S.length = n := ⟨_, rfl⟩
  clear hB h37 hne ho
  rw [hn] at c0 HO hS HB ⊢
  go_enter Tryz.func121, Tryz.ntmps121
  go_wp2_with (first
    | (at_builtin; refine append_pk rfl _ _ rfl base (.slice ad n cp) S n hn rfl (unhide HO) cd id dt rfl hS hbase ?_; rintro v6 w6 ho6 hg6; obtain ⟨a6, c6, rfl⟩ := own_form ho6
       have e6 := (hg6.block B (by simp; omega) (fun e => (unhide HB).2.2 e.symm)).trans ((Below.heap_alloc _ _ _ hl).trans (unhide HB).1)
       have k6 : w6.cell? ⟨B, 37, none⟩ = some (.slice ad n cp) := by rw [cell_of_row _ _ _ _ _ _ e6]; exact (unhide HB).2.1
       have f6 : w6.frozen? ⟨B, 37, none⟩ = false := frz e6 37
       clear e6))
  exact Great.bodyPost_end0 rfl rfl ⟨rfl, _, w6, rfl, ho6, hg6⟩
def mfd (k n : Nat) : List Op.Opt := (List.range n).map fun i => ⟨((k + 2 * i : Nat) : Int), mtx (k + 2 * i + 1)⟩
theorem mfd_len (k n : Nat) : (mfd k n).length = n := by simp [mfd]
theorem mfd_get (k n i K : Nat) (h : i < n) (hK : k + 2 * i = K) : (ocells (mfd k n))[i * 2]? = some (.int .i64 (K : Int)) ∧ (ocells (mfd k n))[i * 2 + 1]? = some (.string (mtx (K + 1))) := by
 subst hK
 exact ocells_get (mfd k n) i ⟨((k + 2 * i : Nat) : Int), mtx (k + 2 * i + 1)⟩ (by simp [mfd, h])
theorem set_two (cur' : Array Value) (L : List Value) (i : Nat) (A B : Value) (hi : i * 2 + 1 < cur'.size) (h1 : L[i * 2]? = some A) (h2 : L[i * 2 + 1]? = some B) (ha : ∀ j, j < i * 2 → cur'[j]? = L[j]?) :
  ∀ j, j < (i + 1) * 2 → ((cur'.setIfInBounds (i * 2) A).setIfInBounds (i * 2 + 1) B)[j]? = L[j]? := by
 intro j hj
 rw [Array.getElem?_setIfInBounds]
 by_cases e1 : i * 2 + 1 = j
 ·rw [if_pos e1, if_pos (by simpa using hi), ← e1, h2]
 ·rw [if_neg e1, Array.getElem?_setIfInBounds]
  by_cases e2 : i * 2 = j
  ·rw [if_pos e2, if_pos (by omega), ← e2, h1]
  ·rw [if_neg e2]
   exact ha j (by omega)
set_option maxHeartbeats 2000000 in
theorem markS (g cap n k : Nat) (cur : Array Value) (w : World) (hk : 0 < k) (hn : k + 2 * n < 9000000) (hc : n * 2 ≤ cur.size) (hg : w.heap[g]? = some (.cells cur 116)) :
  Calls Tryz.prog 59 #[.slice (some ⟨g, 0, none⟩) n cap, .int .i64 k] w fun e w' => e = .returned (.int .i64 ((k + 2 * n : Nat) : Int)) ∧
   (∃ cur', w'.heap[g]? = some (.cells cur' 116) ∧ cur'.size = cur.size ∧ ∀ j, j < n * 2 → cur'[j]? = (ocells (mfd k n))[j]?) ∧ Nr g w w' := by
 have hgl : g < w.heap.size := (Array.getElem?_eq_some_iff.1 hg).1
 go_enter Tryz.func59, Tryz.ntmps59
 go_wp2_with fail
 go_loopw [1, 5] (fun x y wr => ∃ (i : Nat), i ≤ n ∧ y = .int .i64 i ∧ x = .int .i64 ((k + 2 * i : Nat) : Int) ∧ (∃ cur', wr.heap[g]? = some (.cells cur' 116) ∧ cur'.size = cur.size ∧ ∀ j, j < i * 2 → cur'[j]? = (ocells (mfd k n))[j]?) ∧ Nr g w wr) (fun _ y _ => n - (intOf y).toNat)
 case atStart => exact ⟨0, Nat.zero_le _, rfl, rfl, ⟨cur, hg, rfl, fun j hj => by omega⟩, Nr.refl _ _⟩
 case round =>
  obtain ⟨i, hi, rfl, rfl, ⟨cur', hg', hs', ha'⟩, hnr⟩ := hrel
  by_cases hlt : i < n
  ·have d1 : (i : Int) < (n : Int) := by omega
   have hgl' : g < wr.heap.size := Nat.lt_of_lt_of_le hgl hnr.size
   obtain ⟨K, hK⟩ : ∃ K : Nat, k + 2 * i = K := ⟨_, rfl⟩
   rw [hK]
   have hMg := mfd_get k n i K hlt hK
   have HMg := hide hMg
   have HKe : Hid ((K : Int) + 1 + 1 = ((k + 2 * (i + 1) : Nat) : Int)) := hide (by omega)
   have hK9 : K + 1 < 9000000 := by omega
   have HI : Hid (i * 2 + 1 < cur'.size) := hide (by omega)
   have C := hide fun v => markText (K + 1) v (by omega) (by omega)
   rw [show ((K + 1 : Nat) : Int) = (K : Int) + 1 from rfl] at C
   clear hK hMg
   obtain ⟨y0, hy0⟩ : ∃ y, wr.cell? ⟨g, i * 2, none⟩ = some y := ⟨cur'[i * 2]'(by have := unhide HI; omega), by rw [cell_of_row _ _ _ _ _ _ hg', Array.getElem?_eq_getElem (by have := unhide HI; omega)]⟩
   have hf0 : wr.frozen? ⟨g, i * 2, none⟩ = false := frz hg' _
   have HG1 : Hid ((wr.setCell ⟨g, i * 2, none⟩ (.int .i64 (K : Int))).heap[g]? = some (.cells (cur'.setIfInBounds (i * 2) (.int .i64 (K : Int))) 116)) := hide (heap_setCell_same _ _ (i * 2) _ _ _ hg')
   have HN1 := hide (hnr.setCell (i * 2) (.int .i64 (K : Int)))
   have hsz1 : (wr.setCell ⟨g, i * 2, none⟩ (.int .i64 (K : Int))).heap.size = wr.heap.size := by simp [World.setCell]
   generalize mtx (K + 1) = M at *
   have HA := hide ha'
   clear ha' hnr
   go_wp2_with fail
   refine (unhide C _).mono ?_
   rintro e w2 ⟨rfl, hb2⟩
   have hg2 := (hb2.block g (by rw [hsz1]; exact hgl')).trans (unhide HG1)
   have HN2 := hide ((unhide HN1).of_below hb2)
   obtain ⟨y1, hy1⟩ : ∃ y, w2.cell? ⟨g, i * 2 + 1, none⟩ = some y := ⟨(cur'.setIfInBounds (i * 2) (.int .i64 (K : Int)))[i * 2 + 1]'(by have := unhide HI; simpa using this), by rw [cell_of_row _ _ _ _ _ _ hg2, Array.getElem?_eq_getElem (by have := unhide HI; simpa using this)]⟩
   have hf1 : w2.frozen? ⟨g, i * 2 + 1, none⟩ = false := frz hg2 _
   have HG2 := hide hg2
   clear hg2 hb2 HG1 HN1 hy0 hf0 hsz1 hg'
   go_wp2_with fail
   go_roundw
   case rel =>
    refine ⟨i + 1, by omega, by go_num, by rw [unhide HKe], ⟨_, heap_setCell_same _ _ (i * 2 + 1) _ _ _ (unhide HG2), by simp [hs'], ?_⟩, (unhide HN2).setCell (i * 2 + 1) _⟩
    exact set_two cur' _ i _ _ (unhide HI) (unhide HMg).1 (unhide HMg).2 (unhide HA)
   case measure => simp [intOf]; omega
  ·have e : i = n := by omega
   subst e
   have d1 : ¬ ((i : Int) < (i : Int)) := by omega
   go_wp2
   go_ret
   exact ⟨rfl, ⟨cur', hg', hs', ha'⟩, hnr⟩
set_option maxHeartbeats 2000000 in
theorem heldS (g cap n k : Nat) (cur : Array Value) (w : World) (hk : 0 < k) (hn : k + 2 * n < 9000000) (hg : w.heap[g]? = some (.cells cur 116)) (ha : ∀ j, j < n * 2 → cur[j]? = (ocells (mfd k n))[j]?) :
  Calls Tryz.prog 104 #[.slice (some ⟨g, 0, none⟩) n cap, .int .i64 k] w fun e w' => e = .returned (.int .i64 ((k + 2 * n : Nat) : Int)) ∧ Below w.heap.size w w' := by
 have hgl : g < w.heap.size := (Array.getElem?_eq_some_iff.1 hg).1
 go_enter Tryz.func104, Tryz.ntmps104
 go_wp2_with fail
 go_loopw [1, 5] (fun x y wr => ∃ (i : Nat), i ≤ n ∧ y = .int .i64 i ∧ x = .int .i64 ((k + 2 * i : Nat) : Int) ∧ Below w.heap.size w wr) (fun _ y _ => n - (intOf y).toNat)
 case atStart => exact ⟨0, Nat.zero_le _, rfl, rfl, Below.refl _ _⟩
 case round =>
  obtain ⟨i, hi, rfl, rfl, hb⟩ := hrel
  by_cases hlt : i < n
  ·have d1 : (i : Int) < (n : Int) := by omega
   have hg' := (hb.block g hgl).trans hg
   obtain ⟨K, hK⟩ : ∃ K : Nat, k + 2 * i = K := ⟨_, rfl⟩
   rw [hK]
   have hMg := mfd_get k n i K hlt hK
   have HKe : Hid ((K : Int) + 1 + 1 = ((k + 2 * (i + 1) : Nat) : Int)) := hide (by omega)
   have hK9 : K + 1 < 9000000 := by omega
   have C := hide fun v => markText (K + 1) v (by omega) (by omega)
   rw [show ((K + 1 : Nat) : Int) = (K : Int) + 1 from rfl] at C
   have k0 : wr.cell? ⟨g, i * 2, none⟩ = some (.int .i64 (K : Int)) := by rw [cell_of_row _ _ _ _ _ _ hg', ha _ (by omega)]; exact hMg.1
   have k1 : wr.cell? ⟨g, i * 2 + 1, none⟩ = some (.string (mtx (K + 1))) := by rw [cell_of_row _ _ _ _ _ _ hg', ha _ (by omega)]; exact hMg.2
   generalize mtx (K + 1) = M at *
   have hbs := hb.size
   have hgr : g < wr.heap.size := Nat.lt_of_lt_of_le hgl hbs
   clear hK hMg ha hg hg'
   go_wp2_with fail
   go_region_held (fun q => q.cell? ⟨g, i * 2 + 1, none⟩ = some (.string M)) (first | go_keep | (show World.cell? _ _ = _; rw [hb2.cell (p := ⟨g, i * 2 + 1, none⟩) hgr]; exact k1)) (first
    | (go_at_call 103; refine (unhide C _).mono ?_; rintro e w2 ⟨rfl, hb2⟩))
   all_goals
    go_wp2_with fail
    go_roundw
    case rel => exact ⟨i + 1, by omega, by go_num, by rw [unhide HKe], hb.trans (((Below.refl _ _).drew.trans hb2).mono hbs)⟩
    case measure => simp [intOf]; omega
  ·have e : i = n := by omega
   subst e
   have d1 : ¬ ((i : Int) < (i : Int)) := by omega
   go_wp2
   go_ret
   exact ⟨rfl, hb⟩
set_option maxHeartbeats 2000000 in
theorem markS0 (ad : Option Addr) (cp k : Nat) (w : World) :
  Calls Tryz.prog 59 #[.slice ad 0 cp, .int .i64 k] w fun e w' => e = .returned (.int .i64 k) ∧ w' = w := by
 go_enter Tryz.func59, Tryz.ntmps59
 go_wp2_with fail
 go_loopw [1, 5] (fun x y wr => x = .int .i64 k ∧ y = .int .i64 0 ∧ wr = w) (fun _ _ _ => 0)
 case atStart => exact ⟨rfl, rfl, rfl⟩
 case round =>
  obtain ⟨rfl, rfl, rfl⟩ := hrel
  go_wp2
  go_ret
  exact ⟨rfl, rfl⟩
set_option maxHeartbeats 2000000 in
theorem heldS0 (ad : Option Addr) (cp k : Nat) (w : World) :
  Calls Tryz.prog 104 #[.slice ad 0 cp, .int .i64 k] w fun e w' => e = .returned (.int .i64 k) ∧ w' = w := by
 go_enter Tryz.func104, Tryz.ntmps104
 go_wp2_with fail
 go_loopw [1, 5] (fun x y wr => x = .int .i64 k ∧ y = .int .i64 0 ∧ wr = w) (fun _ _ _ => 0)
 case atStart => exact ⟨rfl, rfl, rfl⟩
 case round =>
  obtain ⟨rfl, rfl, rfl⟩ := hrel
  go_wp2
  go_ret
  exact ⟨rfl, rfl⟩
theorem markOptK (v : Value) (F : List Op.Opt) (k : Nat) (w : World) (hk : 0 < k) (hF : k + 2 * F.length < 9000000) (h : HoldsO w v F) :
  Calls Tryz.prog 59 #[v, .int .i64 k] w fun e w' => e = .returned (.int .i64 ((k + 2 * F.length : Nat) : Int)) ∧ HoldsO w' v (mfd k F.length) ∧ But v.ownBlock w w' ∧ (F = [] → w' = w) := by
 by_cases hFe : F = []
 ·subst hFe
  obtain ⟨ad, cp, rfl⟩ := h.form
  exact (markS0 ad cp k w).mono fun e w' ⟨p1, p2⟩ => ⟨p1, holdsO_nil _ _ _, p2 ▸ But.of_below (Below.refl _ _), fun _ => p2⟩
 ·rcases h with ⟨ad, cp, rfl, e0⟩ | ⟨g, cp, cur, rfl, h2, h3, h4⟩
  ·exact absurd e0 hFe
  ·refine (markS g cp F.length k cur w hk hF h3 h2).mono fun e w' ⟨p1, ⟨cur', q1, q2, q3⟩, p3⟩ => ⟨p1, Or.inr ⟨g, cp, cur', by rw [mfd_len], q1, by rw [mfd_len]; omega, by rw [mfd_len]; exact q3⟩, ⟨p3.os, p3.tape, p3.output, p3.size, fun b hb hne => p3.block b hb fun e => hne (by rw [e]; rfl)⟩, fun h => absurd h hFe⟩
theorem heldOptK (v : Value) (n k : Nat) (w : World) (hk : 0 < k) (hn : k + 2 * n < 9000000) (h : HoldsO w v (mfd k n)) :
  Calls Tryz.prog 104 #[v, .int .i64 k] w fun e w' => e = .returned (.int .i64 ((k + 2 * n : Nat) : Int)) ∧ Below w.heap.size w w' := by
 rcases h with ⟨ad, cp, rfl, e0⟩ | ⟨g, cp, cur, rfl, h2, h3, h4⟩
 ·have hn0 : n = 0 := by rw [← mfd_len k n, e0]; rfl
  subst hn0
  exact (heldS0 ad cp k w).mono fun e w' ⟨p1, p2⟩ => ⟨p1, p2 ▸ Below.refl _ _⟩
 ·rw [mfd_len] at h4 ⊢
  exact heldS g cp n k cur w hk hn h2 h4
def nb (n : Nat) (v : Value) : Option Nat := if n = 0 then none else v.ownBlock
theorem nb_none (v : Value) : nb 0 v = none := if_pos rfl
theorem nb_some {n : Nat} (h : n ≠ 0) (v : Value) : nb n v = v.ownBlock := if_neg h
structure But2 (o1 o2 : Option Nat) (w w' : World) : Prop where
 os : w'.os = w.os
 tape : w'.tape = w.tape
 output : w'.output = w.output
 size : w.heap.size ≤ w'.heap.size
 block : ∀ b, b < w.heap.size → o1 ≠ some b → o2 ≠ some b → w'.heap[b]? = w.heap[b]?
set_option maxHeartbeats 2000000 in
set_option maxRecDepth 100000 in
theorem markEndE (e : En) (x1 x2 : Option Addr) (y1 y2 : Nat) (F1 F2 : List Op.Opt) (k : Nat) (w : World) (hk : 0 < k) (hl : k + 2 * F1.length + 2 * F2.length < 9000000)
  (h1 : HoldsO w (.slice x1 F1.length y1) F1) (h2 : HoldsO w (.slice x2 F2.length y2) F2)
  (hd : F1 ≠ [] → F2 ≠ [] → (Value.slice x1 F1.length y1).ownBlock ≠ (Value.slice x2 F2.length y2).ownBlock) :
  Calls Tryz.prog 21 #[.agg (enC e (.slice x1 F1.length y1) (.slice x2 F2.length y2)), .int .i64 k] w fun r w' => r = .returned (.int .i64 ((k + 2 * F1.length + 2 * F2.length : Nat) : Int)) ∧
   HoldsO w' (.slice x1 F1.length y1) (mfd k F1.length) ∧ HoldsO w' (.slice x2 F2.length y2) (mfd (k + 2 * F1.length) F2.length) ∧ But2 (nb F1.length (.slice x1 F1.length y1)) (nb F2.length (.slice x2 F2.length y2)) w w' := by
 have hA : (w.alloc (.cells (enC e (.slice x1 F1.length y1) (.slice x2 F2.length y2)) 29)).heap[w.heap.size]? = some (.cells (enC e (.slice x1 F1.length y1) (.slice x2 F2.length y2)) 29) := heap_alloc_new w _
 have hbA : Below w.heap.size w (w.alloc (.cells (enC e (.slice x1 F1.length y1) (.slice x2 F2.length y2)) 29)) := (Below.refl _ _).alloc (Nat.le_refl _) _
 have C1 := hide (markOptK _ F1 k (w.alloc (.cells (enC e (.slice x1 F1.length y1) (.slice x2 F2.length y2)) 29)) hk (by omega) (h1.below hbA rfl))
 have hl1 := fun hF g hg => h1.lt hF g hg
 have h2A := h2.below hbA rfl
 have HK := hide (And.intro h1 (And.intro h2 (And.intro hd (And.intro hA (And.intro hbA (And.intro hl1 h2A))))))
 clear h1 h2 hd hA hbA hl1 h2A
 obtain ⟨m1, a1, g1, p1, c1, d1, m2, a2, g2, p2, c2, d2, st, tr, du, id, fl, up, i1, i2, i3, i4, i5, o1, o2, o3, o4, o5⟩ := e
 unfold enC at C1 HK ⊢
 dsimp only at C1 HK ⊢
 obtain ⟨n1, hn1⟩ : ∃ n1, F1.length = n1 := ⟨_, rfl⟩
 obtain ⟨n2, hn2⟩ : ∃ n2, F2.length = n2 := ⟨_, rfl⟩
 rw [hn1] at C1 HK hl ⊢
 rw [hn2] at C1 HK hl ⊢
 go_enter Tryz.func21, Tryz.ntmps21
 go_wp2_with fail
 refine (unhide C1).mono ?_
 rintro r w1 ⟨rfl, hh1, hb1, hs1⟩
 obtain ⟨h1, h2, hd, hA, hbA, hl1, h2A⟩ := unhide HK
 have hr1 : w1.heap[w.heap.size]? = some (.cells #[.int .i64 m1, .int .i64 a1, .int .i64 g1, .bool p1, .bool c1, .bool d1, .int .i64 m2, .int .i64 a2, .int .i64 g2, .bool p2, .bool c2, .bool d2, .int .i64 st, .int .i64 tr, .int .i64 du, .int .i64 id, .int .i64 fl, .slice x1 n1 y1, .slice x2 n2 y2, .bool up, .int .i64 i1, .int .i64 i2, .bool i3, .bool i4, .bool i5, .int .i64 o1, .int .i64 o2, .bool o3, .bool o4, .bool o5] 29) := by
  by_cases hF : F1 = []
  ·rw [hs1 hF]; exact hA
  ·exact (hb1.block _ (by simp) fun e => by have := hl1 hF _ e; omega).trans hA
 have h21 : HoldsO w1 (.slice x2 n2 y2) F2 := by
  by_cases hF : F1 = []
  ·rw [hs1 hF]; exact h2A
  ·by_cases hF2 : F2 = []
   ·subst hF2
    have : n2 = 0 := hn2.symm
    subst this
    exact holdsO_nil _ _ _
   ·refine h2A.other fun g hg => ?_
    have hlt := h2.lt hF2 g hg
    exact hb1.block g (by simp; omega) fun e => hd hF hF2 (e.trans hg.symm)
 have C2 := hide (markOptK _ F2 (k + 2 * n1) w1 (by omega) (by omega) h21)
 have c18 : w1.cell? ⟨w.heap.size, 18, none⟩ = some (.slice x2 n2 y2) := by rw [cell_of_row _ _ _ _ _ _ hr1]; rfl
 rw [hn2] at C2
 have HK1 := hide (And.intro hh1 (And.intro hb1 (And.intro hs1 h21)))
 clear hh1 hb1 hs1 h21 hr1 h1 h2 hd hA hbA hl1 h2A C1
 go_wp2_with fail
 refine (unhide C2).mono ?_
 rintro r w2 ⟨rfl, hh2, hb2, hs2⟩
 have HK2 := hide (And.intro hh2 (And.intro hb2 hs2))
 clear hh2 hb2 hs2 C2 c18
 go_wp2
 go_ret
 obtain ⟨h1, h2, hd, hA, hbA, hl1, h2A⟩ := unhide HK
 obtain ⟨hh1, hb1, hs1, h21⟩ := unhide HK1
 obtain ⟨hh2, hb2, hs2⟩ := unhide HK2
 refine ⟨rfl, ?_, hh2, ⟨hb2.os.trans hb1.os, hb2.tape.trans hb1.tape, hb2.output.trans hb1.output, Nat.le_trans (Nat.le_trans (by simp) hb1.size) hb2.size, fun b hb e1 e2 => ?_⟩⟩
 ·by_cases hF2 : F2 = []
  ·rw [hs2 hF2]; exact hh1
  ·by_cases hF : F1 = []
   ·subst hF
    have : n1 = 0 := hn1.symm
    subst this
    exact holdsO_nil _ _ _
   ·refine hh1.other fun g hg => ?_
    have hlt := hl1 hF g hg
    have hz := hb1.size
    exact hb2.block g (by simp at hz; omega) fun e => hd hF hF2 (hg.trans e.symm)
 ·have hz := hb1.size
  have q2 : w2.heap[b]? = w1.heap[b]? := by
   by_cases h0 : n2 = 0
   ·rw [hs2 (List.eq_nil_of_length_eq_zero (hn2.trans h0))]
   ·rw [nb_some h0] at e2
    exact hb2.block b (by simp at hz; omega) e2
  have q1 : w1.heap[b]? = (w.alloc (.cells #[.int .i64 m1, .int .i64 a1, .int .i64 g1, .bool p1, .bool c1, .bool d1, .int .i64 m2, .int .i64 a2, .int .i64 g2, .bool p2, .bool c2, .bool d2, .int .i64 st, .int .i64 tr, .int .i64 du, .int .i64 id, .int .i64 fl, .slice x1 n1 y1, .slice x2 n2 y2, .bool up, .int .i64 i1, .int .i64 i2, .bool i3, .bool i4, .bool i5, .int .i64 o1, .int .i64 o2, .bool o3, .bool o4, .bool o5] 29)).heap[b]? := by
   by_cases h0 : n1 = 0
   ·rw [hs1 (List.eq_nil_of_length_eq_zero (hn1.trans h0))]
   ·rw [nb_some h0] at e1
    exact hb1.block b (by simp; omega) e1
  exact (q2.trans q1).trans (Below.heap_alloc _ _ _ hb)
set_option maxHeartbeats 2000000 in
set_option maxRecDepth 100000 in
theorem heldEndE (e : En) (x1 x2 : Option Addr) (n1 n2 y1 y2 : Nat) (k : Nat) (w : World) (hk : 0 < k) (hl : k + 2 * n1 + 2 * n2 < 9000000)
  (h1 : HoldsO w (.slice x1 n1 y1) (mfd k n1)) (h2 : HoldsO w (.slice x2 n2 y2) (mfd (k + 2 * n1) n2)) :
  Calls Tryz.prog 62 #[.agg (enC e (.slice x1 n1 y1) (.slice x2 n2 y2)), .int .i64 k] w fun r w' => r = .returned (.int .i64 ((k + 2 * n1 + 2 * n2 : Nat) : Int)) ∧ Below w.heap.size w w' := by
 obtain ⟨m1, a1, g1, p1, c1, d1, m2, a2, g2, p2, c2, d2, st, tr, du, id, fl, up, i1, i2, i3, i4, i5, o1, o2, o3, o4, o5⟩ := e
 have hA := heap_alloc_new w (.cells (enC ⟨m1, a1, g1, p1, c1, d1, m2, a2, g2, p2, c2, d2, st, tr, du, id, fl, up, i1, i2, i3, i4, i5, o1, o2, o3, o4, o5⟩ (.slice x1 n1 y1) (.slice x2 n2 y2)) 29)
 have hbA : Below w.heap.size w (w.alloc (.cells (enC ⟨m1, a1, g1, p1, c1, d1, m2, a2, g2, p2, c2, d2, st, tr, du, id, fl, up, i1, i2, i3, i4, i5, o1, o2, o3, o4, o5⟩ (.slice x1 n1 y1) (.slice x2 n2 y2)) 29)) := (Below.refl _ _).alloc (Nat.le_refl _) _
 have C1 := hide fun W (hb : Below w.heap.size w W) => heldOptK _ n1 k W hk (by omega) (h1.below hb rfl)
 have C2 := hide fun W (hb : Below w.heap.size w W) => heldOptK _ n2 (k + 2 * n1) W (by omega) (by omega) (h2.below hb rfl)
 have d1 : ¬ (((k + 2 * n1 : Nat) : Int) < 0) := by omega
 have d2 : ¬ (((k + 2 * n1 + 2 * n2 : Nat) : Int) < 0) := by omega
 unfold enC at hA hbA ⊢
 dsimp only at hA hbA ⊢
 have HA := hide (And.intro hA hbA)
 clear hA hbA h1 h2
 generalize k + 2 * n1 = K1 at *
 generalize K1 + 2 * n2 = K2 at *
 go_enter Tryz.func62, Tryz.ntmps62
 go_wp2_with fail
 refine (unhide C1 _ (unhide HA).2).mono ?_
 rintro r w1 ⟨rfl, hb1⟩
 have hr1 := (hb1.block w.heap.size (by simp)).trans (unhide HA).1
 have hB1 := (unhide HA).2.trans (hb1.mono (unhide HA).2.size)
 have c18 : w1.cell? ⟨w.heap.size, 18, none⟩ = some (.slice x2 n2 y2) := by rw [cell_of_row _ _ _ _ _ _ hr1]; rfl
 have H1 := hide hB1
 clear hr1 hB1 hb1 HA C1
 go_wp2_with fail
 refine (unhide C2 _ (unhide H1)).mono ?_
 rintro r w2 ⟨rfl, hb2⟩
 have H2 := hide ((unhide H1).trans (hb2.mono (unhide H1).size))
 clear hb2 H1 C2 c18
 go_wp2
 go_ret
 exact ⟨rfl, unhide H2⟩
structure Wk (w : World) (B : Nat) (cs : List Value) (q : World) : Prop where
 row : q.heap[B]? = some (.cells cs.toArray 89)
 nr : Nr B w q
theorem Wk.set {w : World} {B : Nat} {cs : List Value} {q : World} (h : Wk w B cs q) (i : Nat) (v : Value) : Wk w B (cs.set i v) (q.setCell ⟨B, i, none⟩ v) :=
 ⟨by rw [← List.setIfInBounds_toArray]; exact heap_setCell_same _ _ i _ _ v h.row, h.nr.setCell i v⟩
theorem Wk.step {w : World} {B : Nat} {cs : List Value} {q q' : World} (h : Wk w B cs q) (hb : Below q.heap.size q q') : Wk w B cs q' :=
 ⟨(hb.block _ (Array.getElem?_eq_some_iff.1 h.row).1).trans h.row, h.nr.of_below hb⟩
theorem Wk.cell {w : World} {B : Nat} {cs : List Value} {q : World} (h : Wk w B cs q) {i : Nat} {v : Value} (hi : cs[i]? = some v) : q.cell? ⟨B, i, none⟩ = some v := by
 rw [cell_of_row _ _ _ _ _ _ h.row, List.getElem?_toArray]
 exact hi
theorem Wk.there {w : World} {B : Nat} {cs : List Value} {q : World} (h : Wk w B cs q) (i : Nat) (hi : i < cs.length) : ∃ v, q.cell? ⟨B, i, none⟩ = some v := ⟨cs[i], h.cell (List.getElem?_eq_getElem hi)⟩
theorem HoldsO.nr {w q : World} {v : Value} {F : List Op.Opt} {B : Nat} (h : HoldsO w v F) (hn : Nr B w q) (hne : nb F.length v ≠ some B) : HoldsO q v F := by
 rcases h with ⟨ad, cp, e, e0⟩ | ⟨g, cp, cur, e, q1, q2⟩
 ·exact Or.inl ⟨ad, cp, e, e0⟩
 ·by_cases hz : F.length = 0
  ·have : F = [] := List.eq_nil_of_length_eq_zero hz
   subst this
   exact Or.inl ⟨_, _, e, rfl⟩
  ·have hg : nb F.length v = some g := by rw [nb_some hz, e]; rfl
   exact Or.inr ⟨g, cp, cur, e, (hn.block g (Array.getElem?_eq_some_iff.1 q1).1 (fun e => hne (by rw [hg, e]))).trans q1, q2⟩
def upC (L1 L2 : Ln) (cs : List Value) : List Value := (((((((((((((((((((((cs.set 19 (.bool true)).set 20 (.int .i64 0)).set 21 (.int .i64 0)).set 22 (.bool false)).set 23 (.bool false)).set 24 (.bool false)).set 25 (.int .i64 0)).set 26 (.int .i64 0)).set 27 (.bool false)).set 28 (.bool false)).set 29 (.bool false)).set 20 (.int .i64 L1.m)).set 21 (.int .i64 L1.a)).set 22 (.bool L1.p)).set 23 (.bool L1.c)).set 24 (.bool L1.d)).set 25 (.int .i64 L2.m)).set 26 (.int .i64 L2.a)).set 27 (.bool L2.p)).set 28 (.bool L2.c)).set 29 (.bool L2.d))
def downC (cs : List Value) : List Value := (((((((((((cs.set 19 (.bool false)).set 20 (.int .i64 0)).set 21 (.int .i64 0)).set 22 (.bool false)).set 23 (.bool false)).set 24 (.bool false)).set 25 (.int .i64 0)).set 26 (.int .i64 0)).set 27 (.bool false)).set 28 (.bool false)).set 29 (.bool false))
set_option maxHeartbeats 4000000 in
theorem wkDown (B : Nat) (cs : List Value) (w : World) (hl : cs.length = 39) (hB : w.heap[B]? = some (.cells cs.toArray 89)) :
  Calls Tryz.prog 127 #[.pointer (some ⟨B, 0, none⟩), .bool false] w fun e w' => e = .returned (.tuple #[]) ∧ Wk w B (downC cs) w' := by
 have h0 : Wk w B cs w := ⟨hB, Nr.refl _ _⟩
 obtain ⟨o19, q19⟩ := h0.there 19 (by simp [hl])
 have f19 : w.frozen? ⟨B, 19, none⟩ = false := frz h0.row 19
 obtain ⟨o20, q20⟩ := h0.there 20 (by simp [hl])
 have f20 : w.frozen? ⟨B, 20, none⟩ = false := frz h0.row 20
 obtain ⟨o21, q21⟩ := h0.there 21 (by simp [hl])
 have f21 : w.frozen? ⟨B, 21, none⟩ = false := frz h0.row 21
 obtain ⟨o22, q22⟩ := h0.there 22 (by simp [hl])
 have f22 : w.frozen? ⟨B, 22, none⟩ = false := frz h0.row 22
 obtain ⟨o23, q23⟩ := h0.there 23 (by simp [hl])
 have f23 : w.frozen? ⟨B, 23, none⟩ = false := frz h0.row 23
 obtain ⟨o24, q24⟩ := h0.there 24 (by simp [hl])
 have f24 : w.frozen? ⟨B, 24, none⟩ = false := frz h0.row 24
 obtain ⟨o25, q25⟩ := h0.there 25 (by simp [hl])
 have f25 : w.frozen? ⟨B, 25, none⟩ = false := frz h0.row 25
 obtain ⟨o26, q26⟩ := h0.there 26 (by simp [hl])
 have f26 : w.frozen? ⟨B, 26, none⟩ = false := frz h0.row 26
 obtain ⟨o27, q27⟩ := h0.there 27 (by simp [hl])
 have f27 : w.frozen? ⟨B, 27, none⟩ = false := frz h0.row 27
 obtain ⟨o28, q28⟩ := h0.there 28 (by simp [hl])
 have f28 : w.frozen? ⟨B, 28, none⟩ = false := frz h0.row 28
 obtain ⟨o29, q29⟩ := h0.there 29 (by simp [hl])
 have f29 : w.frozen? ⟨B, 29, none⟩ = false := frz h0.row 29
 have H0 := hide h0
 clear h0 hB
 go_enter Tryz.func127, Tryz.ntmps127
 go_wp2
 exact Great.bodyPost_end0 rfl rfl ⟨rfl, ((((((((((((unhide H0).set 19 (.bool false)).set 20 (.int .i64 0)).set 21 (.int .i64 0)).set 22 (.bool false)).set 23 (.bool false)).set 24 (.bool false)).set 25 (.int .i64 0)).set 26 (.int .i64 0)).set 27 (.bool false)).set 28 (.bool false)).set 29 (.bool false))⟩
set_option maxHeartbeats 8000000 in
set_option maxRecDepth 100000 in
theorem wkUp (B : Nat) (cs : List Value) (x1 x2 : Option Addr) (y1 y2 : Nat) (M P : List Op.Opt) (w : World) (hl : cs.length = 39) (hB : w.heap[B]? = some (.cells cs.toArray 89)) (h17 : cs[17]? = some (.slice x1 M.length y1)) (h18 : cs[18]? = some (.slice x2 P.length y2))
  (l1 : M.length ≤ maxLen) (l2 : P.length ≤ maxLen) (hm : HoldsO w (.slice x1 M.length y1) M) (hp : HoldsO w (.slice x2 P.length y2) P) (n1 : nb M.length (.slice x1 M.length y1) ≠ some B) (n2 : nb P.length (.slice x2 P.length y2) ≠ some B) :
  Calls Tryz.prog 127 #[.pointer (some ⟨B, 0, none⟩), .bool true] w fun e w' => e = .returned (.tuple #[]) ∧ Wk w B (upC (lineOf M) (lineOf P) cs) w' := by
 have h0 : Wk w B cs w := ⟨hB, Nr.refl _ _⟩
 have C1 := hide fun q (hn : Nr B w q) => specLine _ M q l1 (hm.nr hn n1)
 have C2 := hide fun q (hn : Nr B w q) => specLine _ P q l2 (hp.nr hn n2)
 clear hm hp n1 n2 l1 l2
 generalize lineOf M = L1 at *
 generalize lineOf P = L2 at *
 generalize M.length = m1 at *
 generalize P.length = m2 at *
 have r17 : w.cell? ⟨B, 17, none⟩ = some (.slice x1 m1 y1) := h0.cell (by (repeat rw [List.getElem?_set_ne (by decide)]); exact h17)
 obtain ⟨o19, q19⟩ := h0.there 19 (by simp [hl])
 have f19 : w.frozen? ⟨B, 19, none⟩ = false := frz h0.row 19
 obtain ⟨o20, q20⟩ := h0.there 20 (by simp [hl])
 have f20 : w.frozen? ⟨B, 20, none⟩ = false := frz h0.row 20
 obtain ⟨o21, q21⟩ := h0.there 21 (by simp [hl])
 have f21 : w.frozen? ⟨B, 21, none⟩ = false := frz h0.row 21
 obtain ⟨o22, q22⟩ := h0.there 22 (by simp [hl])
 have f22 : w.frozen? ⟨B, 22, none⟩ = false := frz h0.row 22
 obtain ⟨o23, q23⟩ := h0.there 23 (by simp [hl])
 have f23 : w.frozen? ⟨B, 23, none⟩ = false := frz h0.row 23
 obtain ⟨o24, q24⟩ := h0.there 24 (by simp [hl])
 have f24 : w.frozen? ⟨B, 24, none⟩ = false := frz h0.row 24
 obtain ⟨o25, q25⟩ := h0.there 25 (by simp [hl])
 have f25 : w.frozen? ⟨B, 25, none⟩ = false := frz h0.row 25
 obtain ⟨o26, q26⟩ := h0.there 26 (by simp [hl])
 have f26 : w.frozen? ⟨B, 26, none⟩ = false := frz h0.row 26
 obtain ⟨o27, q27⟩ := h0.there 27 (by simp [hl])
 have f27 : w.frozen? ⟨B, 27, none⟩ = false := frz h0.row 27
 obtain ⟨o28, q28⟩ := h0.there 28 (by simp [hl])
 have f28 : w.frozen? ⟨B, 28, none⟩ = false := frz h0.row 28
 obtain ⟨o29, q29⟩ := h0.there 29 (by simp [hl])
 have f29 : w.frozen? ⟨B, 29, none⟩ = false := frz h0.row 29
 have H0 := hide h0
 clear h0 hB
 go_enter Tryz.func127, Tryz.ntmps127
 go_wp2_with fail
 refine (unhide C1 _ ((((((((((((unhide H0).set 19 (.bool true)).set 20 (.int .i64 0)).set 21 (.int .i64 0)).set 22 (.bool false)).set 23 (.bool false)).set 24 (.bool false)).set 25 (.int .i64 0)).set 26 (.int .i64 0)).set 27 (.bool false)).set 28 (.bool false)).set 29 (.bool false)).nr).mono ?_
 clear r17 q19 f19 q20 f20 q21 f21 q22 f22 q23 f23 q24 f24 q25 f25 q26 f26 q27 f27 q28 f28 q29 f29
 rintro e w1 ⟨rfl, hb1⟩
 have h1 := ((((((((((((unhide H0).set 19 (.bool true)).set 20 (.int .i64 0)).set 21 (.int .i64 0)).set 22 (.bool false)).set 23 (.bool false)).set 24 (.bool false)).set 25 (.int .i64 0)).set 26 (.int .i64 0)).set 27 (.bool false)).set 28 (.bool false)).set 29 (.bool false)).step hb1
 have r18 : w1.cell? ⟨B, 18, none⟩ = some (.slice x2 m2 y2) := h1.cell (by (repeat rw [List.getElem?_set_ne (by decide)]); exact h18)
 obtain ⟨o20, q20⟩ := h1.there 20 (by simp [hl])
 have f20 : w1.frozen? ⟨B, 20, none⟩ = false := frz h1.row 20
 obtain ⟨o21, q21⟩ := h1.there 21 (by simp [hl])
 have f21 : w1.frozen? ⟨B, 21, none⟩ = false := frz h1.row 21
 obtain ⟨o22, q22⟩ := h1.there 22 (by simp [hl])
 have f22 : w1.frozen? ⟨B, 22, none⟩ = false := frz h1.row 22
 obtain ⟨o23, q23⟩ := h1.there 23 (by simp [hl])
 have f23 : w1.frozen? ⟨B, 23, none⟩ = false := frz h1.row 23
 obtain ⟨o24, q24⟩ := h1.there 24 (by simp [hl])
 have f24 : w1.frozen? ⟨B, 24, none⟩ = false := frz h1.row 24
 have H1 := hide h1
 clear h1 hb1 H0
 go_wp2_with fail
 refine (unhide C2 _ ((((((unhide H1).set 20 (.int .i64 L1.m)).set 21 (.int .i64 L1.a)).set 22 (.bool L1.p)).set 23 (.bool L1.c)).set 24 (.bool L1.d)).nr).mono ?_
 clear r18 q20 f20 q21 f21 q22 f22 q23 f23 q24 f24
 rintro e w2 ⟨rfl, hb2⟩
 have h2 := ((((((unhide H1).set 20 (.int .i64 L1.m)).set 21 (.int .i64 L1.a)).set 22 (.bool L1.p)).set 23 (.bool L1.c)).set 24 (.bool L1.d)).step hb2
 obtain ⟨o25, q25⟩ := h2.there 25 (by simp [hl])
 have f25 : w2.frozen? ⟨B, 25, none⟩ = false := frz h2.row 25
 obtain ⟨o26, q26⟩ := h2.there 26 (by simp [hl])
 have f26 : w2.frozen? ⟨B, 26, none⟩ = false := frz h2.row 26
 obtain ⟨o27, q27⟩ := h2.there 27 (by simp [hl])
 have f27 : w2.frozen? ⟨B, 27, none⟩ = false := frz h2.row 27
 obtain ⟨o28, q28⟩ := h2.there 28 (by simp [hl])
 have f28 : w2.frozen? ⟨B, 28, none⟩ = false := frz h2.row 28
 obtain ⟨o29, q29⟩ := h2.there 29 (by simp [hl])
 have f29 : w2.frozen? ⟨B, 29, none⟩ = false := frz h2.row 29
 have H2 := hide h2
 clear h2 hb2 H1
 go_wp2
 exact Great.bodyPost_end0 rfl rfl ⟨rfl, ((((((unhide H2).set 25 (.int .i64 L2.m)).set 26 (.int .i64 L2.a)).set 27 (.bool L2.p)).set 28 (.bool L2.c)).set 29 (.bool L2.d))⟩
end Go.Proofs.YtahpjlbaagkdoaaGreatDoor
