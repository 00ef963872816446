/- The drawer of the verifier's package spec (l01Src): a number below a bound is drawn, whatever the bytes it draws from; only the drawer itself is turned in memory. The drawer's bytes: as many as are asked for are drawn into a text; only the drawer and new memory are turned. The drawer's bytes once more, said so that a caller may keep memory above the drawer: of the old blocks the drawer's alone is turned; no condition. A new drawer over bytes that were handed in: it lies in new memory, and what lay there stands. A drawn number at some limit; what lay in memory stands. -/
import Derived.Test.YtfkeokfmancgiaaOwn
import Derived.Deep.WholeRow
namespace Go.Proofs.Ytfkeokfmancgiaa
open Go.RowKit

/-- Only block B has turned. -/
structure Touch (B : Nat) (w w' : World) : Prop where
  os : w'.os = w.os
  tape : w'.tape = w.tape
  output : w'.output = w.output
  size : w'.heap.size = w.heap.size
  block : ∀ k, k ≠ B → w'.heap[k]? = w.heap[k]?
theorem Touch.refl (B : Nat) (w : World) : Touch B w w := ⟨rfl, rfl, rfl, rfl, fun _ _ => rfl⟩
theorem Touch.trans {B : Nat} {a b c : World} (h : Touch B a b) (k : Touch B b c) : Touch B a c :=
  ⟨k.os.trans h.os, k.tape.trans h.tape, k.output.trans h.output, k.size.trans h.size, fun i hi => (k.block i hi).trans (h.block i hi)⟩
theorem Touch.drew {B : Nat} {a w : World} (h : Touch B a w) : Touch B a w.drew := ⟨h.os, h.tape, h.output, h.size, h.block⟩
theorem Touch.setCell {B : Nat} {a w : World} (h : Touch B a w) (o : Nat) (v : Value) : Touch B a (w.setCell ⟨B, o, none⟩ v) := by
  have hb := (Below.refl 0 w).setCell (p := ⟨B, o, none⟩) (Nat.zero_le _) v
  exact ⟨hb.os.trans h.os, hb.tape.trans h.tape, hb.output.trans h.output, by
    rw [← h.size]; simp [World.setCell]; done, fun k hk => (Below.heap_setCell w ⟨B, o, none⟩ v k hk).trans (h.block k hk)⟩
theorem Touch.below {B : Nat} {w w' : World} (h : Touch B w w') : Below B w w' :=
  ⟨h.os, h.tape, h.output, by rw [h.size]; exact Nat.le_refl _, fun k hk => h.block k (by omega)⟩

/-- A slice of bytes, of n places, that lies below block B. -/
def Dat (w : World) (B : Nat) (sl : Value) (n : Nat) : Prop :=
  (∃ a cap, sl = .slice a n cap) ∧ ∀ i, i < n → ∃ (b o cap x : Nat), sl = .slice (some ⟨b, o, none⟩) n cap ∧ b < B ∧ w.cell? ⟨b, o + i, none⟩ = some (.int .u8 x) ∧ x < 256
/-- A drawer at block B over the slice sl. -/
def Src (w : World) (B : Nat) (sl : Value) (n : Nat) : Prop :=
  ∃ (p m z : Nat), p ≤ n ∧ m < 18446744073709551616 ∧ z ≤ 12 ∧ w.heap[B]? = some (.cells #[sl, .int .i64 p, .int .u64 m, .int .i64 z] 83)

theorem row4 {w : World} {B : Nat} {x0 x1 x2 x3 : Value} {T : TypeId} (h : w.heap[B]? = some (.cells #[x0, x1, x2, x3] T)) :
    w.cell? ⟨B, 0, none⟩ = some x0 ∧ w.cell? ⟨B, 1, none⟩ = some x1 ∧ w.cell? ⟨B, 2, none⟩ = some x2 ∧ w.cell? ⟨B, 3, none⟩ = some x3 ∧
    w.frozen? ⟨B, 0, none⟩ = false ∧ w.frozen? ⟨B, 1, none⟩ = false ∧ w.frozen? ⟨B, 2, none⟩ = false ∧ w.frozen? ⟨B, 3, none⟩ = false :=
  ⟨by rw [cell_of_row _ _ 0 _ _ (0, 0) h]; rfl, by rw [cell_of_row _ _ 1 _ _ (0, 0) h]; rfl, by rw [cell_of_row _ _ 2 _ _ (0, 0) h]; rfl, by rw [cell_of_row _ _ 3 _ _ (0, 0) h]; rfl,
    by simp [World.frozen?, h], by simp [World.frozen?, h], by simp [World.frozen?, h], by simp [World.frozen?, h]⟩
theorem set1 {w : World} {B : Nat} {x0 x1 x2 x3 : Value} {T : TypeId} (h : w.heap[B]? = some (.cells #[x0, x1, x2, x3] T)) (v : Value) : (w.setCell ⟨B, 1, none⟩ v).heap[B]? = some (.cells #[x0, v, x2, x3] T) := by
  rw [heap_setCell_same w B 1 _ T v h]; rfl
theorem set2 {w : World} {B : Nat} {x0 x1 x2 x3 : Value} {T : TypeId} (h : w.heap[B]? = some (.cells #[x0, x1, x2, x3] T)) (v : Value) : (w.setCell ⟨B, 2, none⟩ v).heap[B]? = some (.cells #[x0, x1, v, x3] T) := by
  rw [heap_setCell_same w B 2 _ T v h]; rfl
theorem set3 {w : World} {B : Nat} {x0 x1 x2 x3 : Value} {T : TypeId} (h : w.heap[B]? = some (.cells #[x0, x1, x2, x3] T)) (v : Value) : (w.setCell ⟨B, 3, none⟩ v).heap[B]? = some (.cells #[x0, x1, x2, v] T) := by
  rw [heap_setCell_same w B 3 _ T v h]; rfl
theorem xor64 (x y : Int) : ∃ m : Nat, m < 18446744073709551616 ∧ bits .xor .u64 x y = (m : Int) := by
  have h := wf_bits .xor .u64 x y
  have hw : 0 ≤ bits .xor .u64 x y ∧ bits .xor .u64 x y ≤ 18446744073709551615 := by
    simpa [Lit.wf, IntKind.min, IntKind.max, IntKind.signed, IntKind.bits] using h
  obtain ⟨m, hm⟩ := Int.eq_ofNat_of_zero_le hw.1
  exact ⟨m, by omega, hm⟩

theorem drawn (Y : Int) (most : Nat) (hY : 0 ≤ Y) (h1 : 1 < most) (h2 : most < 4294967296) : ∃ r : Nat, wrap64 (Y.tmod (most : Int)) = (r : Int) ∧ r < most := by
  rw [Int.tmod_eq_emod_of_nonneg hY]
  have h3 : 0 ≤ Y % (most : Int) := Int.emod_nonneg _ (by omega)
  have h4 : Y % (most : Int) < most := Int.emod_lt_of_pos _ (by omega)
  obtain ⟨r, hr⟩ := Int.eq_ofNat_of_zero_le h3
  refine ⟨r, ?_, by omega⟩
  rw [hr]
  unfold wrap64
  omega

set_option maxHeartbeats 1000000 in
theorem src_n0 (w : World) (B : Nat) (most : Int) (h : most ≤ 1) :
    Calls Try.prog 29 #[.pointer (some ⟨B, 0, none⟩), .int .i64 most] w fun e w' => e = .returned (.int .i64 0) ∧ w' = w := by
  go_enter Try.func29, Try.ntmps29
  go_wp2
  go_ret
  exact ⟨rfl, rfl⟩
set_option maxHeartbeats 1000000 in
theorem src_n1 (w : World) (B : Nat) (sl : Value) (n p m z : Nat) (most : Nat) (h1 : 1 < most) (h2 : most < 4294967296) (hn : n ≤ maxLen) (hp : p < n)
    (hB : w.heap[B]? = some (.cells #[sl, .int .i64 p, .int .u64 m, .int .i64 z] 83)) (hD : Dat w B sl n) :
    Calls Try.prog 29 #[.pointer (some ⟨B, 0, none⟩), .int .i64 most] w fun e w' => ∃ r m' : Nat, e = .returned (.int .i64 r) ∧ r < most ∧ m' < 18446744073709551616 ∧
      w'.heap[B]? = some (.cells #[sl, .int .i64 (p + 1 : Nat), .int .u64 m', .int .i64 z] 83) ∧ Touch B w w' := by
  obtain ⟨b, o, cap, x, rfl, hb, hx, hx2⟩ := hD.2 p hp
  unfold maxLen at hn
  obtain ⟨c0, c1, c2, c3, f0, f1, f2, f3⟩ := row4 hB
  have hbB : b ≠ B := by omega
  have HB := hide hB
  clear hB hD
  go_enter Try.func29, Try.ntmps29
  go_wp2_with fail
  go_region
  go_wp2_with fail
  go_region
  go_wp2_with fail
  refine gen_world (fun v => v.heap[B]? = some (.cells #[.slice (some ⟨b, o, none⟩) n cap, .int .i64 (p + 1 : Nat), .int .u64 m, .int .i64 z] 83) ∧ Touch B w v)
    ⟨set1 (w := w) (unhide HB) _, ((Touch.refl B w).setCell 1 _).drew.drew⟩ ?_
  clear c0 c1 c2 c3 f0 f1 f2 f3 HB hx
  rintro v1 ⟨hB, t1⟩
  obtain ⟨c0, c1, c2, c3, f0, f1, f2, f3⟩ := row4 hB
  have HB := hide hB
  clear hB
  go_region
  go_wp2_with fail
  obtain ⟨m1, hm1, e1⟩ := xor64 (m : Int) (IntKind.u64.wrap ((m : Int) * 8192))
  rw [e1]
  refine gen_world (fun v => v.heap[B]? = some (.cells #[.slice (some ⟨b, o, none⟩) n cap, .int .i64 (p + 1 : Nat), .int .u64 m1, .int .i64 z] 83) ∧ Touch B w v)
    ⟨set2 (w := v1) (unhide HB) _, (t1.setCell 2 _).drew⟩ ?_
  clear c0 c1 c2 c3 f0 f1 f2 f3 HB e1 t1
  rintro v2 ⟨hB, t1⟩
  obtain ⟨c0, c1, c2, c3, f0, f1, f2, f3⟩ := row4 hB
  have HB := hide hB
  clear hB
  go_region
  go_wp2_with fail
  obtain ⟨m2, hm2, e1⟩ := xor64 (m1 : Int) ((m1 : Int) / 128)
  rw [e1]
  refine gen_world (fun v => v.heap[B]? = some (.cells #[.slice (some ⟨b, o, none⟩) n cap, .int .i64 (p + 1 : Nat), .int .u64 m2, .int .i64 z] 83) ∧ Touch B w v)
    ⟨set2 (w := v2) (unhide HB) _, (t1.setCell 2 _).drew⟩ ?_
  clear c0 c1 c2 c3 f0 f1 f2 f3 HB e1 t1
  rintro v3 ⟨hB, t1⟩
  obtain ⟨c0, c1, c2, c3, f0, f1, f2, f3⟩ := row4 hB
  have HB := hide hB
  clear hB
  go_region
  go_wp2_with fail
  obtain ⟨m3, hm3, e1⟩ := xor64 (m2 : Int) (IntKind.u64.wrap ((m2 : Int) * 131072))
  rw [e1]
  go_ret
  have hB2 := set2 (w := v3) (unhide HB) (.int .u64 m3)
  have t2 := (t1.setCell 2 (.int .u64 m3)).drew
  clear e1 c0 c1 c2 c3 f0 f1 f2 f3 HB t1
  obtain ⟨r, hr1, hr2⟩ := drawn (IntKind.u64.wrap ((x : Int) + (m3 : Int) / 1048576)) most (by rw [IntKind.wrap_u64]; omega) h1 h2
  exact ⟨r, m3, ret_int hr1, hr2, hm3, hB2, t2⟩

set_option maxHeartbeats 1000000 in
theorem src_n2 (w : World) (B : Nat) (sl : Value) (n p m z : Nat) (most : Nat) (h1 : 1 < most) (h2 : most < 4294967296) (hp : p = n)
    (hB : w.heap[B]? = some (.cells #[sl, .int .i64 p, .int .u64 m, .int .i64 z] 83)) (hD : Dat w B sl n) :
    Calls Try.prog 29 #[.pointer (some ⟨B, 0, none⟩), .int .i64 most] w fun e w' => ∃ r m' : Nat, e = .returned (.int .i64 r) ∧ r < most ∧ m' < 18446744073709551616 ∧
      w'.heap[B]? = some (.cells #[sl, .int .i64 p, .int .u64 m', .int .i64 z] 83) ∧ Touch B w w' := by
  obtain ⟨a, cap, rfl⟩ := hD.1
  obtain ⟨c0, c1, c2, c3, f0, f1, f2, f3⟩ := row4 hB
  have HB := hide hB
  have hpn : ¬ ((p : Int) < (n : Int)) := by omega
  clear hB hD hp
  go_enter Try.func29, Try.ntmps29
  go_wp2_with fail
  go_region
  go_wp2_with fail
  refine gen_world (fun v => v.heap[B]? = some (.cells #[.slice a n cap, .int .i64 p, .int .u64 m, .int .i64 z] 83) ∧ Touch B w v)
    ⟨unhide HB, (Touch.refl B w).drew⟩ ?_
  clear c0 c1 c2 c3 f0 f1 f2 f3 HB
  rintro v1 ⟨hB, t1⟩
  obtain ⟨c0, c1, c2, c3, f0, f1, f2, f3⟩ := row4 hB
  have HB := hide hB
  clear hB
  go_region
  go_wp2_with fail
  obtain ⟨m1, hm1, e1⟩ := xor64 (m : Int) (IntKind.u64.wrap ((m : Int) * 8192))
  rw [e1]
  refine gen_world (fun v => v.heap[B]? = some (.cells #[.slice a n cap, .int .i64 p, .int .u64 m1, .int .i64 z] 83) ∧ Touch B w v)
    ⟨set2 (w := v1) (unhide HB) _, (t1.setCell 2 _).drew⟩ ?_
  clear c0 c1 c2 c3 f0 f1 f2 f3 HB e1 t1
  rintro v2 ⟨hB, t1⟩
  obtain ⟨c0, c1, c2, c3, f0, f1, f2, f3⟩ := row4 hB
  have HB := hide hB
  clear hB
  go_region
  go_wp2_with fail
  obtain ⟨m2, hm2, e1⟩ := xor64 (m1 : Int) ((m1 : Int) / 128)
  rw [e1]
  refine gen_world (fun v => v.heap[B]? = some (.cells #[.slice a n cap, .int .i64 p, .int .u64 m2, .int .i64 z] 83) ∧ Touch B w v)
    ⟨set2 (w := v2) (unhide HB) _, (t1.setCell 2 _).drew⟩ ?_
  clear c0 c1 c2 c3 f0 f1 f2 f3 HB e1 t1
  rintro v3 ⟨hB, t1⟩
  obtain ⟨c0, c1, c2, c3, f0, f1, f2, f3⟩ := row4 hB
  have HB := hide hB
  clear hB
  go_region
  go_wp2_with fail
  obtain ⟨m3, hm3, e1⟩ := xor64 (m2 : Int) (IntKind.u64.wrap ((m2 : Int) * 131072))
  rw [e1]
  go_ret
  have hB2 := set2 (w := v3) (unhide HB) (.int .u64 m3)
  have t2 := (t1.setCell 2 (.int .u64 m3)).drew
  clear e1 c0 c1 c2 c3 f0 f1 f2 f3 HB t1
  obtain ⟨r, hr1, hr2⟩ := drawn (IntKind.u64.wrap ((m3 : Int) / 1048576)) most (by rw [IntKind.wrap_u64]; omega) h1 h2
  exact ⟨r, m3, ret_int hr1, hr2, hm3, hB2, t2⟩

/-- A number below a bound is drawn, or 0 where the bound is 1 or less. -/
theorem src_n (w : World) (B : Nat) (sl : Value) (n : Nat) (most : Nat) (h2 : most < 4294967296) (hn : n ≤ maxLen) (hS : Src w B sl n) (hD : Dat w B sl n) :
    Calls Try.prog 29 #[.pointer (some ⟨B, 0, none⟩), .int .i64 most] w fun e w' => ∃ r : Nat, e = .returned (.int .i64 r) ∧ (r < most ∨ r = 0) ∧ Src w' B sl n ∧ Touch B w w' := by
  obtain ⟨p, m, z, hp, hm, hz, hB⟩ := hS
  by_cases h1 : 1 < most
  · by_cases hpn : p < n
    · refine (src_n1 w B sl n p m z most h1 h2 hn hpn hB hD).mono ?_
      rintro e w' ⟨r, m', he, hr, hm', hB', ht⟩
      exact ⟨r, he, Or.inl hr, ⟨p + 1, m', z, by omega, hm', hz, hB'⟩, ht⟩
    · refine (src_n2 w B sl n p m z most h1 h2 (by omega) hB hD).mono ?_
      rintro e w' ⟨r, m', he, hr, hm', hB', ht⟩
      exact ⟨r, he, Or.inl hr, ⟨p, m', z, hp, hm', hz, hB'⟩, ht⟩
  · refine (src_n0 w B most (by omega)).mono ?_
    rintro e w' ⟨he, rfl⟩
    exact ⟨0, he, Or.inr rfl, ⟨p, m, z, hp, hm, hz, hB⟩, Touch.refl _ _⟩

set_option maxHeartbeats 400000 in
theorem src_one (w : World) (B : Nat) (sl : Value) (n : Nat) (most : Nat) (h2 : most < 4294967296) (hn : n ≤ maxLen) (hS : Src w B sl n) (hD : Dat w B sl n) :
    Calls Try.prog 30 #[.pointer (some ⟨B, 0, none⟩), .int .i64 most] w fun e w' => ∃ b : Bool, e = .returned (.bool b) ∧ Src w' B sl n ∧ Touch B w w' := by
  have c := src_n w B sl n most h2 hn hS hD
  go_enter Try.func30, Try.ntmps30
  go_wp2_with fail
  refine c.mono ?_
  rintro e w1 ⟨r, rfl, hr, hS1, ht1⟩
  go_wp2
  go_ret
  exact ⟨_, rfl, hS1, ht1⟩

theorem Dat.below {w w' : World} {B : Nat} {sl : Value} {n : Nat} (h : Dat w B sl n) (hb : Below B w w') : Dat w' B sl n :=
  ⟨h.1, fun i hi => by
    obtain ⟨b, o, cap, x, h1, h2, h3, h4⟩ := h.2 i hi
    exact ⟨b, o, cap, x, h1, h2, by rw [← h3]; exact hb.cell (p := ⟨b, o + i, none⟩) h2, h4⟩⟩
theorem Src.same {w w' : World} {B : Nat} {sl : Value} {n : Nat} (h : Src w B sl n) (hb : w'.heap[B]? = w.heap[B]?) : Src w' B sl n := by
  obtain ⟨p, m, z, h1, h2, h3, h4⟩ := h
  exact ⟨p, m, z, h1, h2, h3, hb.trans h4⟩
theorem Src.lt {w : World} {B : Nat} {sl : Value} {n : Nat} (h : Src w B sl n) : B < w.heap.size := by
  obtain ⟨p, m, z, h1, h2, h3, h4⟩ := h
  exact (Array.getElem?_eq_some_iff.1 h4).1
theorem own_touch {w w' : World} {B base : Nat} {e : TypeId} {size : Nat} {v : Value} {n : Nat} {xs : List Value} (h : w.ownsRow base e size v n xs) (ht : Touch B w w') (hb : B < base) : w'.ownsRow base e size v n xs := by
  refine ⟨h.1, ?_⟩
  rcases h.2 with h2 | ⟨g, cap, cur, h1, h2, h3, h4⟩
  · exact Or.inl h2
  · exact Or.inr ⟨g, cap, cur, h1, h2, (ht.block g (by omega)).trans h3, h4⟩
end Go.Proofs.Ytfkeokfmancgiaa
namespace Go.Proofs.Ytfkeokfmancgiaa
open Go.RowKit
set_option maxHeartbeats 1000000 in
theorem src_bytes (w : World) (B : Nat) (sl : Value) (n : Nat) (k : Nat) (hk : k < 100000) (hn : n ≤ maxLen) (hS : Src w B sl n) (hD : Dat w B sl n) :
    Calls Try.prog 28 #[.pointer (some ⟨B, 0, none⟩), .int .i64 k] w fun e w' => ∃ xs : List Int, e = .returned (.string (strOfNums xs)) ∧ xs.length = k ∧ Src w' B sl n ∧ Below B w w' := by
  have hBw := hS.lt
  obtain ⟨ui, hi1, hi2, hi3, hi4⟩ := u8info
  go_enter Try.func28, Try.ntmps28
  go_wp2_with fail
  go_loopw [5, 6] (fun v i wr => ∃ (j : Nat) (xs : List Int), j ≤ k ∧ i = .int .i64 j ∧ xs.length = j ∧ wr.ownsRow (B + 1) 5 1 v j (xs.map (Value.int .u8)) ∧ Src wr B sl n ∧ Below B w wr) (fun _ i _ => k - (intOf i).toNat)
  case atStart =>
    refine ⟨0, [], Nat.zero_le _, rfl, rfl, ?_, hS.same (Below.heap_alloc _ _ _ hBw), (Below.refl _ _).alloc (by omega) _⟩
    exact World.ownsRow_lit w #[] 0 (by omega) (Nat.zero_le _) rfl
  case round =>
    obtain ⟨j, xs, hj, rfl, hxl, hown, hS1, hb1⟩ := hrel
    by_cases hlt : j < k
    · have hlt' : (j : Int) < (k : Int) := by omega
      have c := src_n wr B sl n 256 (by decide) hn hS1 (hD.below hb1)
      have HO := hide hown
      clear hown
      go_wp2_with fail
      refine c.mono ?_
      rintro e w1 ⟨r, rfl, hr, hS2, ht2⟩
      have hr2 : r < 256 := by omega
      have ho2 := (own_touch (unhide HO) ht2 (by omega)).alloc (.cells #[.int .u8 r] 5)
      have hb2 : Below B w w1 := hb1.trans ht2.below
      have HO2 := hide ho2
      have HS2 := hide hS2
      have HT2 := hide ht2
      clear ho2 hS2 ht2 c hS1
      go_wp2_with (first
        | (at_builtin; refine wpList_append_own _ rfl _ _ 22 rfl (B + 1) 5 ui (.int .u8 0) 1 1 Try.underlying22 hi1 hi2 hi3 hi4 rfl (by decide) u5 j (xs.map (Value.int .u8)) rfl (unhide HO2) ⟨w1.heap.size, 0, none⟩ 1 1 [.int .u8 r] rfl rfl ?news ?ones ?len ?bytes ?base ?_))
      case news =>
        intro i u hu
        match i, hu with
        | 0, hu =>
          have e : (⟨w1.heap.size, 0, none⟩ : Addr).add 0 = ⟨w1.heap.size, 0, none⟩ := by simp [Addr.add]
          rw [e, World.cell?_alloc_at _ _ _ _ rfl, ← hu]
          rfl
      case ones =>
        intro u hu
        simp only [List.mem_singleton] at hu
        subst hu
        rfl
      case len => unfold maxLen; omega
      case bytes => omega
      case base => have := (unhide HS2).lt; simp; omega
      rintro v' w2 hown2 hg2 _
      have hown3 : w2.ownsRow (B + 1) 5 1 v' (j + 1) ((xs ++ [(r : Int)]).map (Value.int .u8)) := by rw [List.map_append]; exact hown2
      have hlt2 := (unhide HS2).lt
      have hne : some B ≠ u5.ownBlock := fun h => by
        have := World.ownsRow.lt (unhide HO2) B h.symm
        omega
      have hS3 : Src w2 B sl n := (unhide HS2).same (by
        rw [hg2.block B (by simp; omega) hne]
        exact Below.heap_alloc _ _ _ hlt2)
      have hb3 : Below B w w2 := (hb2.alloc (by omega) _).grown hg2 (by simp; omega) (fun q hq => by have := World.ownsRow.lt (unhide HO2) q hq; omega)
      have HO3 := hide hown3
      have HS3 := hide hS3
      clear hown2 hown3 hg2 hne hS3
      go_wp2
      go_roundw
      case rel => exact ⟨j + 1, xs ++ [(r : Int)], by omega, by go_num, by simp [hxl], unhide HO3, unhide HS3, hb3⟩
      case measure => simp [intOf]; omega
    · have hlt' : ¬ ((j : Int) < (k : Int)) := by omega
      have hcv := conv_own hown
      go_wp2
      go_ret
      exact ⟨xs, rfl, by omega, hS1, hb1⟩
end Go.Proofs.Ytfkeokfmancgiaa
namespace Go.Proofs.Ytfkeokfmancgiaa
open Go.RowKit
/-- Of the old blocks B alone has turned. -/
structure Nigh (B : Nat) (w w' : World) : Prop where
  os : w'.os = w.os
  tape : w'.tape = w.tape
  output : w'.output = w.output
  size : w.heap.size ≤ w'.heap.size
  block : ∀ g, g < w.heap.size → g ≠ B → w'.heap[g]? = w.heap[g]?
theorem Nigh.refl (B : Nat) (w : World) : Nigh B w w := ⟨rfl, rfl, rfl, Nat.le_refl _, fun _ _ _ => rfl⟩
theorem Nigh.trans {B : Nat} {a b c : World} (h : Nigh B a b) (k : Nigh B b c) : Nigh B a c :=
  ⟨k.os.trans h.os, k.tape.trans h.tape, k.output.trans h.output, Nat.le_trans h.size k.size, fun g hg hne => (k.block g (Nat.lt_of_lt_of_le hg h.size) hne).trans (h.block g hg hne)⟩
theorem Nigh.of_touch {B : Nat} {w w' : World} (h : Touch B w w') : Nigh B w w' := ⟨h.os, h.tape, h.output, Nat.le_of_eq h.size.symm, fun g _ hne => h.block g hne⟩
theorem Nigh.of_below {B : Nat} {w w' : World} (h : Below w.heap.size w w') : Nigh B w w' := ⟨h.os, h.tape, h.output, h.size, fun g hg _ => h.block g hg⟩
theorem Nigh.alloc {B : Nat} {a w : World} (h : Nigh B a w) (o : Obj) : Nigh B a (w.alloc o) := h.trans (Nigh.of_below ((Below.refl _ _).alloc (Nat.le_refl _) o))
theorem Nigh.grown {B : Nat} {a w w' : World} {row : Option Nat} (h : Nigh B a w) (hg : w.grownBy w' row) (hr : ∀ q, row = some q → a.heap.size ≤ q) : Nigh B a w' :=
  ⟨hg.os.trans h.os, hg.tape.trans h.tape, hg.output.trans h.output, Nat.le_trans h.size hg.size, fun g hgl hne => (hg.block g (Nat.lt_of_lt_of_le hgl h.size) fun e => by have := hr g e.symm; omega).trans (h.block g hgl hne)⟩
theorem Nigh.setCell {B : Nat} {a w : World} (h : Nigh B a w) (p : Addr) (v : Value) (hp : a.heap.size ≤ p.block) : Nigh B a (w.setCell p v) :=
  ⟨h.os, h.tape, h.output, by simpa [World.setCell] using h.size, fun g hgl hne => (Below.heap_setCell _ _ _ _ (by omega)).trans (h.block g hgl hne)⟩
theorem Nigh.below {B : Nat} {w w' : World} (h : Nigh B w w') (hB : B ≤ w.heap.size) : Below B w w' := ⟨h.os, h.tape, h.output, h.size, fun g hg => h.block g (by omega) (by omega)⟩
set_option maxHeartbeats 1000000 in
theorem src_bytes_n (w : World) (B : Nat) (sl : Value) (n : Nat) (k : Nat) (hk : k < 100000) (hn : n ≤ maxLen) (hS : Src w B sl n) (hD : Dat w B sl n) :
    Calls Try.prog 28 #[.pointer (some ⟨B, 0, none⟩), .int .i64 k] w fun e w' => ∃ xs : List Int, e = .returned (.string (strOfNums xs)) ∧ xs.length = k ∧ Src w' B sl n ∧ Nigh B w w' := by
  have hBw := hS.lt
  obtain ⟨ui, hi1, hi2, hi3, hi4⟩ := u8info
  go_enter Try.func28, Try.ntmps28
  go_wp2_with fail
  go_loopw [5, 6] (fun v i wr => ∃ (j : Nat) (xs : List Int), j ≤ k ∧ i = .int .i64 j ∧ xs.length = j ∧ wr.ownsRow w.heap.size 5 1 v j (xs.map (Value.int .u8)) ∧ Src wr B sl n ∧ Nigh B w wr) (fun _ i _ => k - (intOf i).toNat)
  case atStart =>
    refine ⟨0, [], Nat.zero_le _, rfl, rfl, ?_, hS.same (Below.heap_alloc _ _ _ hBw), (Nigh.refl _ _).alloc _⟩
    exact World.ownsRow_lit w #[] 0 (by omega) (Nat.zero_le _) rfl
  case round =>
    obtain ⟨j, xs, hj, rfl, hxl, hown, hS1, hb1⟩ := hrel
    by_cases hlt : j < k
    · have hlt' : (j : Int) < (k : Int) := by omega
      have c := src_n wr B sl n 256 (by decide) hn hS1 (hD.below (hb1.below (by omega)))
      have HO := hide hown
      clear hown
      go_wp2_with fail
      refine c.mono ?_
      rintro e w1 ⟨r, rfl, hr, hS2, ht2⟩
      have hr2 : r < 256 := by omega
      have ho2 := (own_touch (unhide HO) ht2 (by omega)).alloc (.cells #[.int .u8 r] 5)
      have hb2 : Nigh B w w1 := hb1.trans (Nigh.of_touch ht2)
      have hsz2 := hb2.size
      have HO2 := hide ho2
      have HS2 := hide hS2
      have HT2 := hide ht2
      clear ho2 hS2 ht2 c hS1
      go_wp2_with (first
        | (at_builtin; refine wpList_append_own _ rfl _ _ 22 rfl w.heap.size 5 ui (.int .u8 0) 1 1 Try.underlying22 hi1 hi2 hi3 hi4 rfl (by decide) u5 j (xs.map (Value.int .u8)) rfl (unhide HO2) ⟨w1.heap.size, 0, none⟩ 1 1 [.int .u8 r] rfl rfl ?news ?ones ?len ?bytes ?base ?_))
      case news =>
        intro i u hu
        match i, hu with
        | 0, hu =>
          have e : (⟨w1.heap.size, 0, none⟩ : Addr).add 0 = ⟨w1.heap.size, 0, none⟩ := by simp [Addr.add]
          rw [e, World.cell?_alloc_at _ _ _ _ rfl, ← hu]
          rfl
      case ones =>
        intro u hu
        simp only [List.mem_singleton] at hu
        subst hu
        rfl
      case len => unfold maxLen; omega
      case bytes => omega
      case base => have := (unhide HS2).lt; simp; omega
      rintro v' w2 hown2 hg2 _
      have hown3 : w2.ownsRow w.heap.size 5 1 v' (j + 1) ((xs ++ [(r : Int)]).map (Value.int .u8)) := by rw [List.map_append]; exact hown2
      have hlt2 := (unhide HS2).lt
      have hne : some B ≠ u5.ownBlock := fun h => by
        have := World.ownsRow.lt (unhide HO2) B h.symm
        omega
      have hS3 : Src w2 B sl n := (unhide HS2).same (by
        rw [hg2.block B (by simp; omega) hne]
        exact Below.heap_alloc _ _ _ hlt2)
      have hb3 : Nigh B w w2 := (hb2.alloc _).grown hg2 (fun q hq => (World.ownsRow.lt (unhide HO2) q hq).1)
      have HO3 := hide hown3
      have HS3 := hide hS3
      clear hown2 hown3 hg2 hne hS3
      go_wp2
      go_roundw
      case rel => exact ⟨j + 1, xs ++ [(r : Int)], by omega, by go_num, by simp [hxl], unhide HO3, unhide HS3, hb3⟩
      case measure => simp [intOf]; omega
    · have hlt' : ¬ ((j : Int) < (k : Int)) := by omega
      have hcv := conv_own hown
      go_wp2
      go_ret
      exact ⟨xs, rfl, by omega, hS1, hb1⟩
end Go.Proofs.Ytfkeokfmancgiaa
namespace Go.Proofs.Ytfkeokfmancgiaa
open Go.RowKit

theorem mul64 (Y : Int) : ∃ m : Nat, m < 18446744073709551616 ∧ IntKind.u64.wrap Y = (m : Int) := by
  rw [IntKind.wrap_u64]
  obtain ⟨m, hm⟩ := Int.eq_ofNat_of_zero_le (Int.emod_nonneg Y (show (18446744073709551616 : Int) ≠ 0 by decide))
  exact ⟨m, by have := Int.emod_lt_of_pos Y (show (0 : Int) < 18446744073709551616 by decide); omega, hm⟩
theorem Dat.mono {w : World} {B B' : Nat} {sl : Value} {n : Nat} (h : Dat w B sl n) (hb : B ≤ B') : Dat w B' sl n :=
  ⟨h.1, fun i hi => by
    obtain ⟨b, o, cap, x, h1, h2, h3, h4⟩ := h.2 i hi
    exact ⟨b, o, cap, x, h1, by omega, h3, h4⟩⟩

set_option maxHeartbeats 1000000 in
theorem src_new (w : World) (sl : Value) (n : Nat) (hn : n ≤ maxLen) (hD : Dat w w.heap.size sl n) :
    Calls Try.prog 27 #[sl] w fun e w' => e = .returned (.pointer (some ⟨w.heap.size, 0, none⟩)) ∧ Src w' w.heap.size sl n ∧ Below w.heap.size w w' := by
  obtain ⟨sa, scap, rfl⟩ := hD.1
  unfold maxLen at hn
  go_enter Try.func27, Try.ntmps27
  go_wp2_with fail
  go_loopw [4] (fun i wr => ∃ (j m : Nat), j ≤ n ∧ j ≤ 64 ∧ i = .int .i64 j ∧ m < 18446744073709551616 ∧ wr.heap[w.heap.size]? = some (.cells #[.slice sa n scap, .int .i64 0, .int .u64 m, .int .i64 0] 83) ∧ Below w.heap.size w wr) (fun i _ => 64 - (intOf i).toNat)
  case atStart => exact ⟨0, 88172645463325252, by omega, by omega, rfl, by decide, heap_alloc_last w _, (Below.refl _ _).alloc (Nat.le_refl _) _⟩
  case round =>
    obtain ⟨j, m, hj1, hj2, rfl, hm, hB, hb1⟩ := hrel
    obtain ⟨c0, c1, c2, c3, f0, f1, f2, f3⟩ := row4 hB
    have HB := hide hB
    clear hB
    by_cases hlt : j < n ∧ j < 64
    · obtain ⟨hlt1, hlt2⟩ := hlt
      obtain ⟨b, o, cap, x, hsl, hbb, hx, hx2⟩ := (hD.below hb1).2 j hlt1
      obtain ⟨rfl, rfl⟩ : sa = some ⟨b, o, none⟩ ∧ cap = scap := by
        simp only [Value.slice.injEq, true_and] at hsl
        exact ⟨hsl.1, hsl.2.symm⟩
      have d1 : decide ((j : Int) < (n : Int)) = true := decide_eq_true (by omega)
      have d2 : decide ((j : Int) < 64) = true := decide_eq_true (by omega)
      have hne : b ≠ w.heap.size := by omega
      clear hsl
      have HD := hide hD
      clear hD
      go_wp2_with fail
      go_region
      go_wp2
      obtain ⟨m2, hm2, e2⟩ := mul64 (bits .xor .u64 (m : Int) (x : Int) * 1099511628211)
      go_roundw
      case rel =>
        refine ⟨j + 1, m2, by omega, by omega, by go_num, hm2, ?_, ?_⟩
        · rw [← e2]; exact set2 (w := wr) (unhide HB) _
        · exact (hb1.setCell (p := ⟨w.heap.size, 2, none⟩) (Nat.le_refl _) _).drew
      case measure => simp [intOf]; omega
    · by_cases hlt1 : j < n
      · have d1 : decide ((j : Int) < (n : Int)) = true := decide_eq_true (by omega)
        have d2 : decide ((j : Int) < 64) = false := decide_eq_false (by omega)
        by_cases h12 : 12 < n / 20
        · have h12' : (12 : Int) < (n : Int) / 20 := by omega
          go_wp2
          go_ret
          exact ⟨rfl, ⟨0, m, 12, Nat.zero_le _, hm, by omega, set3 (w := wr.setCell ⟨w.heap.size, 3, none⟩ _) (set3 (w := wr) (unhide HB) _) _⟩, (hb1.setCell (p := ⟨w.heap.size, 3, none⟩) (Nat.le_refl _) _).setCell (p := ⟨w.heap.size, 3, none⟩) (Nat.le_refl _) _⟩
        · have h12' : ¬ ((12 : Int) < (n : Int) / 20) := by omega
          go_wp2
          go_ret
          exact ⟨rfl, ⟨0, m, n / 20, Nat.zero_le _, hm, by omega, set3 (w := wr) (unhide HB) _⟩, hb1.setCell (p := ⟨w.heap.size, 3, none⟩) (Nat.le_refl _) _⟩
      · have d1 : decide ((j : Int) < (n : Int)) = false := decide_eq_false (by omega)
        have h12' : ¬ ((12 : Int) < (n : Int) / 20) := by omega
        go_wp2
        go_ret
        exact ⟨rfl, ⟨0, m, n / 20, Nat.zero_le _, hm, by omega, set3 (w := wr) (unhide HB) _⟩, hb1.setCell (p := ⟨w.heap.size, 3, none⟩) (Nat.le_refl _) _⟩
end Go.Proofs.Ytfkeokfmancgiaa
namespace Go.Proofs.Ytfkeokfmancgiaa
open Go.RowKit
/-- A cell that holds a number of 64 bits. -/
def okI64 : Value → Bool
  | .int .i64 n => decide (-9223372036854775808 ≤ n ∧ n ≤ 9223372036854775807)
  | _ => false
theorem okI64_get {v : Value} (h : okI64 v = true) : ∃ x : Int, v = .int .i64 x ∧ -9223372036854775808 ≤ x ∧ x ≤ 9223372036854775807 := by
  unfold okI64 at h
  split at h
  · exact ⟨_, rfl, by simpa using h⟩
  · cases h
theorem lit_cell {w : World} {g : Nat} {cs : Array Value} {T : TypeId} (h : w.heap[g]? = some (.cells cs T)) (ha : ∀ v ∈ cs.toList, okI64 v = true) (r : Nat) (hr : r < cs.size) :
    ∃ x : Int, w.cell? ⟨g, r, none⟩ = some (.int .i64 x) ∧ -9223372036854775808 ≤ x ∧ x ≤ 9223372036854775807 := by
  obtain ⟨x, hx, h1, h2⟩ := okI64_get (ha cs[r] (by simp))
  exact ⟨x, by rw [cell_of_row w g r cs T (0, 0) h, Array.getElem?_eq_getElem hr, hx], h1, h2⟩

set_option maxHeartbeats 1000000 in
theorem src_edge (w : World) (B : Nat) (sl : Value) (n : Nat) (hn : n ≤ maxLen) (hS : Src w B sl n) (hD : Dat w B sl n) :
    Calls Try.prog 31 #[.pointer (some ⟨B, 0, none⟩)] w fun e w' => ∃ x : Int, e = .returned (.int .i64 x) ∧ -9223372036854775808 ≤ x ∧ x ≤ 9223372036854775807 ∧ Src w' B sl n ∧ Below B w w' := by
  have hBw := hS.lt
  have HS := hide hS
  have HD := hide hD
  clear hS hD
  go_enter Try.func31, Try.ntmps31
  go_wp2_with fail
  refine (src_n _ B sl n 14 (by decide) hn ((unhide HS).same (Below.heap_alloc _ _ _ hBw)) ((unhide HD).below ((Below.refl _ _).alloc (by omega) _))).mono ?_
  rintro e w1 ⟨r, rfl, hr, hS1, ht1⟩
  have hr2 : r < 14 := by omega
  obtain ⟨x, hx, hx1, hx2⟩ := lit_cell ((ht1.block w.heap.size (by omega)).trans (heap_alloc_last w _)) (by decide) r (by simpa using hr2)
  have hb2 : Below B w w1 := ((Below.refl _ _).alloc (by omega) _).trans ht1.below
  clear ht1 hr
  have HS1 := hide hS1
  clear hS1
  go_wp2
  go_ret
  exact ⟨x, rfl, hx1, hx2, unhide HS1, hb2⟩

end Go.Proofs.Ytfkeokfmancgiaa
