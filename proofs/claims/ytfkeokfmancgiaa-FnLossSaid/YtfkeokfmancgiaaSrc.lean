/- The drawer of the verifier's package spec (l01Src): a number below a bound is drawn, whatever the bytes it draws from; only the drawer itself is turned in memory. -/
import Derived.Test.YtfkeokfmancgiaaOwn
namespace Go.Proofs.Ytfkeokfmancgiaa
open Go.RowKit

/-- Only block B has turned. -/
structure Touch (B : Nat) (w w' : World) : Prop where
  os : w'.os = w.os
  tape : w'.tape = w.tape
  output : w'.output = w.output
  size : w'.heap.size = w.heap.size
  block : ∀ k, k ≠ B → w'.heap[k]? = w.heap[k]?
theorem Touch.refl (B : Nat) (w : World) : Touch B w w := ⟨rfl, rfl, rfl, rfl, fun _ _ => rfl⟩
theorem Touch.trans {B : Nat} {a b c : World} (h : Touch B a b) (k : Touch B b c) : Touch B a c :=
  ⟨k.os.trans h.os, k.tape.trans h.tape, k.output.trans h.output, k.size.trans h.size, fun i hi => (k.block i hi).trans (h.block i hi)⟩
theorem Touch.drew {B : Nat} {a w : World} (h : Touch B a w) : Touch B a w.drew := ⟨h.os, h.tape, h.output, h.size, h.block⟩
theorem Touch.setCell {B : Nat} {a w : World} (h : Touch B a w) (o : Nat) (v : Value) : Touch B a (w.setCell ⟨B, o, none⟩ v) := by
  have hb := (Below.refl 0 w).setCell (p := ⟨B, o, none⟩) (Nat.zero_le _) v
  exact ⟨hb.os.trans h.os, hb.tape.trans h.tape, hb.output.trans h.output, by
    rw [← h.size]; simp [World.setCell]; done, fun k hk => (Below.heap_setCell w ⟨B, o, none⟩ v k hk).trans (h.block k hk)⟩
theorem Touch.below {B : Nat} {w w' : World} (h : Touch B w w') : Below B w w' :=
  ⟨h.os, h.tape, h.output, by rw [h.size]; exact Nat.le_refl _, fun k hk => h.block k (by omega)⟩

/-- A slice of bytes, of n places, that lies below block B. -/
def Dat (w : World) (B : Nat) (sl : Value) (n : Nat) : Prop :=
  (∃ a cap, sl = .slice a n cap) ∧ ∀ i, i < n → ∃ (b o cap x : Nat), sl = .slice (some ⟨b, o, none⟩) n cap ∧ b < B ∧ w.cell? ⟨b, o + i, none⟩ = some (.int .u8 x) ∧ x < 256
/-- A drawer at block B over the slice sl. -/
def Src (w : World) (B : Nat) (sl : Value) (n : Nat) : Prop :=
  ∃ (p m z : Nat), p ≤ n ∧ m < 18446744073709551616 ∧ z ≤ 12 ∧ w.heap[B]? = some (.cells #[sl, .int .i64 p, .int .u64 m, .int .i64 z] 83)

theorem row4 {w : World} {B : Nat} {x0 x1 x2 x3 : Value} {T : TypeId} (h : w.heap[B]? = some (.cells #[x0, x1, x2, x3] T)) :
    w.cell? ⟨B, 0, none⟩ = some x0 ∧ w.cell? ⟨B, 1, none⟩ = some x1 ∧ w.cell? ⟨B, 2, none⟩ = some x2 ∧ w.cell? ⟨B, 3, none⟩ = some x3 ∧
    w.frozen? ⟨B, 0, none⟩ = false ∧ w.frozen? ⟨B, 1, none⟩ = false ∧ w.frozen? ⟨B, 2, none⟩ = false ∧ w.frozen? ⟨B, 3, none⟩ = false :=
  ⟨by rw [cell_of_row _ _ 0 _ _ (0, 0) h]; rfl, by rw [cell_of_row _ _ 1 _ _ (0, 0) h]; rfl, by rw [cell_of_row _ _ 2 _ _ (0, 0) h]; rfl, by rw [cell_of_row _ _ 3 _ _ (0, 0) h]; rfl,
    by simp [World.frozen?, h], by simp [World.frozen?, h], by simp [World.frozen?, h], by simp [World.frozen?, h]⟩
theorem set1 {w : World} {B : Nat} {x0 x1 x2 x3 : Value} {T : TypeId} (h : w.heap[B]? = some (.cells #[x0, x1, x2, x3] T)) (v : Value) : (w.setCell ⟨B, 1, none⟩ v).heap[B]? = some (.cells #[x0, v, x2, x3] T) := by
  rw [heap_setCell_same w B 1 _ T v h]; rfl
theorem set2 {w : World} {B : Nat} {x0 x1 x2 x3 : Value} {T : TypeId} (h : w.heap[B]? = some (.cells #[x0, x1, x2, x3] T)) (v : Value) : (w.setCell ⟨B, 2, none⟩ v).heap[B]? = some (.cells #[x0, x1, v, x3] T) := by
  rw [heap_setCell_same w B 2 _ T v h]; rfl
theorem set3 {w : World} {B : Nat} {x0 x1 x2 x3 : Value} {T : TypeId} (h : w.heap[B]? = some (.cells #[x0, x1, x2, x3] T)) (v : Value) : (w.setCell ⟨B, 3, none⟩ v).heap[B]? = some (.cells #[x0, x1, x2, v] T) := by
  rw [heap_setCell_same w B 3 _ T v h]; rfl
theorem xor64 (x y : Int) : ∃ m : Nat, m < 18446744073709551616 ∧ bits .xor .u64 x y = (m : Int) := by
  have h := wf_bits .xor .u64 x y
  have hw : 0 ≤ bits .xor .u64 x y ∧ bits .xor .u64 x y ≤ 18446744073709551615 := by
    simpa [Lit.wf, IntKind.min, IntKind.max, IntKind.signed, IntKind.bits] using h
  obtain ⟨m, hm⟩ := Int.eq_ofNat_of_zero_le hw.1
  exact ⟨m, by omega, hm⟩

theorem drawn (Y : Int) (most : Nat) (hY : 0 ≤ Y) (h1 : 1 < most) (h2 : most < 4294967296) : ∃ r : Nat, wrap64 (Y.tmod (most : Int)) = (r : Int) ∧ r < most := by
  rw [Int.tmod_eq_emod_of_nonneg hY]
  have h3 : 0 ≤ Y % (most : Int) := Int.emod_nonneg _ (by omega)
  have h4 : Y % (most : Int) < most := Int.emod_lt_of_pos _ (by omega)
  obtain ⟨r, hr⟩ := Int.eq_ofNat_of_zero_le h3
  refine ⟨r, ?_, by omega⟩
  rw [hr]
  unfold wrap64
  omega

set_option maxHeartbeats 1000000 in
theorem src_n0 (w : World) (B : Nat) (most : Int) (h : most ≤ 1) :
    Calls Try.prog 29 #[.pointer (some ⟨B, 0, none⟩), .int .i64 most] w fun e w' => e = .returned (.int .i64 0) ∧ w' = w := by
  go_enter Try.func29, Try.ntmps29
  go_wp2
  go_ret
  exact ⟨rfl, rfl⟩
set_option maxHeartbeats 1000000 in
theorem src_n1 (w : World) (B : Nat) (sl : Value) (n p m z : Nat) (most : Nat) (h1 : 1 < most) (h2 : most < 4294967296) (hn : n ≤ maxLen) (hp : p < n)
    (hB : w.heap[B]? = some (.cells #[sl, .int .i64 p, .int .u64 m, .int .i64 z] 83)) (hD : Dat w B sl n) :
    Calls Try.prog 29 #[.pointer (some ⟨B, 0, none⟩), .int .i64 most] w fun e w' => ∃ r m' : Nat, e = .returned (.int .i64 r) ∧ r < most ∧ m' < 18446744073709551616 ∧
      w'.heap[B]? = some (.cells #[sl, .int .i64 (p + 1 : Nat), .int .u64 m', .int .i64 z] 83) ∧ Touch B w w' := by
  obtain ⟨b, o, cap, x, rfl, hb, hx, hx2⟩ := hD.2 p hp
  unfold maxLen at hn
  obtain ⟨c0, c1, c2, c3, f0, f1, f2, f3⟩ := row4 hB
  have hbB : b ≠ B := by omega
  have HB := hide hB
  clear hB hD
  go_enter Try.func29, Try.ntmps29
  go_wp2_with fail
  go_region
  go_wp2_with fail
  go_region
  go_wp2_with fail
  refine gen_world (fun v => v.heap[B]? = some (.cells #[.slice (some ⟨b, o, none⟩) n cap, .int .i64 (p + 1 : Nat), .int .u64 m, .int .i64 z] 83) ∧ Touch B w v)
    ⟨set1 (w := w) (unhide HB) _, ((Touch.refl B w).setCell 1 _).drew.drew⟩ ?_
  clear c0 c1 c2 c3 f0 f1 f2 f3 HB hx
  rintro v1 ⟨hB, t1⟩
  obtain ⟨c0, c1, c2, c3, f0, f1, f2, f3⟩ := row4 hB
  have HB := hide hB
  clear hB
  go_region
  go_wp2_with fail
  obtain ⟨m1, hm1, e1⟩ := xor64 (m : Int) (IntKind.u64.wrap ((m : Int) * 8192))
  rw [e1]
  refine gen_world (fun v => v.heap[B]? = some (.cells #[.slice (some ⟨b, o, none⟩) n cap, .int .i64 (p + 1 : Nat), .int .u64 m1, .int .i64 z] 83) ∧ Touch B w v)
    ⟨set2 (w := v1) (unhide HB) _, (t1.setCell 2 _).drew⟩ ?_
  clear c0 c1 c2 c3 f0 f1 f2 f3 HB e1 t1
  rintro v2 ⟨hB, t1⟩
  obtain ⟨c0, c1, c2, c3, f0, f1, f2, f3⟩ := row4 hB
  have HB := hide hB
  clear hB
  go_region
  go_wp2_with fail
  obtain ⟨m2, hm2, e1⟩ := xor64 (m1 : Int) ((m1 : Int) / 128)
  rw [e1]
  refine gen_world (fun v => v.heap[B]? = some (.cells #[.slice (some ⟨b, o, none⟩) n cap, .int .i64 (p + 1 : Nat), .int .u64 m2, .int .i64 z] 83) ∧ Touch B w v)
    ⟨set2 (w := v2) (unhide HB) _, (t1.setCell 2 _).drew⟩ ?_
  clear c0 c1 c2 c3 f0 f1 f2 f3 HB e1 t1
  rintro v3 ⟨hB, t1⟩
  obtain ⟨c0, c1, c2, c3, f0, f1, f2, f3⟩ := row4 hB
  have HB := hide hB
  clear hB
  go_region
  go_wp2_with fail
  obtain ⟨m3, hm3, e1⟩ := xor64 (m2 : Int) (IntKind.u64.wrap ((m2 : Int) * 131072))
  rw [e1]
  go_ret
  have hB2 := set2 (w := v3) (unhide HB) (.int .u64 m3)
  have t2 := (t1.setCell 2 (.int .u64 m3)).drew
  clear e1 c0 c1 c2 c3 f0 f1 f2 f3 HB t1
  obtain ⟨r, hr1, hr2⟩ := drawn (IntKind.u64.wrap ((x : Int) + (m3 : Int) / 1048576)) most (by rw [IntKind.wrap_u64]; omega) h1 h2
  exact ⟨r, m3, ret_int hr1, hr2, hm3, hB2, t2⟩

set_option maxHeartbeats 1000000 in
theorem src_n2 (w : World) (B : Nat) (sl : Value) (n p m z : Nat) (most : Nat) (h1 : 1 < most) (h2 : most < 4294967296) (hp : p = n)
    (hB : w.heap[B]? = some (.cells #[sl, .int .i64 p, .int .u64 m, .int .i64 z] 83)) (hD : Dat w B sl n) :
    Calls Try.prog 29 #[.pointer (some ⟨B, 0, none⟩), .int .i64 most] w fun e w' => ∃ r m' : Nat, e = .returned (.int .i64 r) ∧ r < most ∧ m' < 18446744073709551616 ∧
      w'.heap[B]? = some (.cells #[sl, .int .i64 p, .int .u64 m', .int .i64 z] 83) ∧ Touch B w w' := by
  obtain ⟨a, cap, rfl⟩ := hD.1
  obtain ⟨c0, c1, c2, c3, f0, f1, f2, f3⟩ := row4 hB
  have HB := hide hB
  have hpn : ¬ ((p : Int) < (n : Int)) := by omega
  clear hB hD hp
  go_enter Try.func29, Try.ntmps29
  go_wp2_with fail
  go_region
  go_wp2_with fail
  refine gen_world (fun v => v.heap[B]? = some (.cells #[.slice a n cap, .int .i64 p, .int .u64 m, .int .i64 z] 83) ∧ Touch B w v)
    ⟨unhide HB, (Touch.refl B w).drew⟩ ?_
  clear c0 c1 c2 c3 f0 f1 f2 f3 HB
  rintro v1 ⟨hB, t1⟩
  obtain ⟨c0, c1, c2, c3, f0, f1, f2, f3⟩ := row4 hB
  have HB := hide hB
  clear hB
  go_region
  go_wp2_with fail
  obtain ⟨m1, hm1, e1⟩ := xor64 (m : Int) (IntKind.u64.wrap ((m : Int) * 8192))
  rw [e1]
  refine gen_world (fun v => v.heap[B]? = some (.cells #[.slice a n cap, .int .i64 p, .int .u64 m1, .int .i64 z] 83) ∧ Touch B w v)
    ⟨set2 (w := v1) (unhide HB) _, (t1.setCell 2 _).drew⟩ ?_
  clear c0 c1 c2 c3 f0 f1 f2 f3 HB e1 t1
  rintro v2 ⟨hB, t1⟩
  obtain ⟨c0, c1, c2, c3, f0, f1, f2, f3⟩ := row4 hB
  have HB := hide hB
  clear hB
  go_region
  go_wp2_with fail
  obtain ⟨m2, hm2, e1⟩ := xor64 (m1 : Int) ((m1 : Int) / 128)
  rw [e1]
  refine gen_world (fun v => v.heap[B]? = some (.cells #[.slice a n cap, .int .i64 p, .int .u64 m2, .int .i64 z] 83) ∧ Touch B w v)
    ⟨set2 (w := v2) (unhide HB) _, (t1.setCell 2 _).drew⟩ ?_
  clear c0 c1 c2 c3 f0 f1 f2 f3 HB e1 t1
  rintro v3 ⟨hB, t1⟩
  obtain ⟨c0, c1, c2, c3, f0, f1, f2, f3⟩ := row4 hB
  have HB := hide hB
  clear hB
  go_region
  go_wp2_with fail
  obtain ⟨m3, hm3, e1⟩ := xor64 (m2 : Int) (IntKind.u64.wrap ((m2 : Int) * 131072))
  rw [e1]
  go_ret
  have hB2 := set2 (w := v3) (unhide HB) (.int .u64 m3)
  have t2 := (t1.setCell 2 (.int .u64 m3)).drew
  clear e1 c0 c1 c2 c3 f0 f1 f2 f3 HB t1
  obtain ⟨r, hr1, hr2⟩ := drawn (IntKind.u64.wrap ((m3 : Int) / 1048576)) most (by rw [IntKind.wrap_u64]; omega) h1 h2
  exact ⟨r, m3, ret_int hr1, hr2, hm3, hB2, t2⟩

/-- A number below a bound is drawn, or 0 where the bound is 1 or less. -/
theorem src_n (w : World) (B : Nat) (sl : Value) (n : Nat) (most : Nat) (h2 : most < 4294967296) (hn : n ≤ maxLen) (hS : Src w B sl n) (hD : Dat w B sl n) :
    Calls Try.prog 29 #[.pointer (some ⟨B, 0, none⟩), .int .i64 most] w fun e w' => ∃ r : Nat, e = .returned (.int .i64 r) ∧ (r < most ∨ r = 0) ∧ Src w' B sl n ∧ Touch B w w' := by
  obtain ⟨p, m, z, hp, hm, hz, hB⟩ := hS
  by_cases h1 : 1 < most
  · by_cases hpn : p < n
    · refine (src_n1 w B sl n p m z most h1 h2 hn hpn hB hD).mono ?_
      rintro e w' ⟨r, m', he, hr, hm', hB', ht⟩
      exact ⟨r, he, Or.inl hr, ⟨p + 1, m', z, by omega, hm', hz, hB'⟩, ht⟩
    · refine (src_n2 w B sl n p m z most h1 h2 (by omega) hB hD).mono ?_
      rintro e w' ⟨r, m', he, hr, hm', hB', ht⟩
      exact ⟨r, he, Or.inl hr, ⟨p, m', z, hp, hm', hz, hB'⟩, ht⟩
  · refine (src_n0 w B most (by omega)).mono ?_
    rintro e w' ⟨he, rfl⟩
    exact ⟨0, he, Or.inr rfl, ⟨p, m, z, hp, hm, hz, hB⟩, Touch.refl _ _⟩

set_option maxHeartbeats 400000 in
theorem src_one (w : World) (B : Nat) (sl : Value) (n : Nat) (most : Nat) (h2 : most < 4294967296) (hn : n ≤ maxLen) (hS : Src w B sl n) (hD : Dat w B sl n) :
    Calls Try.prog 30 #[.pointer (some ⟨B, 0, none⟩), .int .i64 most] w fun e w' => ∃ b : Bool, e = .returned (.bool b) ∧ Src w' B sl n ∧ Touch B w w' := by
  have c := src_n w B sl n most h2 hn hS hD
  go_enter Try.func30, Try.ntmps30
  go_wp2_with fail
  refine c.mono ?_
  rintro e w1 ⟨r, rfl, hr, hS1, ht1⟩
  go_wp2
  go_ret
  exact ⟨_, rfl, hS1, ht1⟩

theorem Dat.below {w w' : World} {B : Nat} {sl : Value} {n : Nat} (h : Dat w B sl n) (hb : Below B w w') : Dat w' B sl n :=
  ⟨h.1, fun i hi => by
    obtain ⟨b, o, cap, x, h1, h2, h3, h4⟩ := h.2 i hi
    exact ⟨b, o, cap, x, h1, h2, by rw [← h3]; exact hb.cell (p := ⟨b, o + i, none⟩) h2, h4⟩⟩
theorem Src.same {w w' : World} {B : Nat} {sl : Value} {n : Nat} (h : Src w B sl n) (hb : w'.heap[B]? = w.heap[B]?) : Src w' B sl n := by
  obtain ⟨p, m, z, h1, h2, h3, h4⟩ := h
  exact ⟨p, m, z, h1, h2, h3, hb.trans h4⟩
theorem Src.lt {w : World} {B : Nat} {sl : Value} {n : Nat} (h : Src w B sl n) : B < w.heap.size := by
  obtain ⟨p, m, z, h1, h2, h3, h4⟩ := h
  exact (Array.getElem?_eq_some_iff.1 h4).1
theorem own_touch {w w' : World} {B base : Nat} {e : TypeId} {size : Nat} {v : Value} {n : Nat} {xs : List Value} (h : w.ownsRow base e size v n xs) (ht : Touch B w w') (hb : B < base) : w'.ownsRow base e size v n xs := by
  refine ⟨h.1, ?_⟩
  rcases h.2 with h2 | ⟨g, cap, cur, h1, h2, h3, h4⟩
  · exact Or.inl h2
  · exact Or.inr ⟨g, cap, cur, h1, h2, (ht.block g (by omega)).trans h3, h4⟩
end Go.Proofs.Ytfkeokfmancgiaa
