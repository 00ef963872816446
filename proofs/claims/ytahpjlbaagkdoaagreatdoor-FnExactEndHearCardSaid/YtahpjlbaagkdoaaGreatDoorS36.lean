/- Options whose kinds are among others': the library's slices.IndexFunc, ContainsFunc and DeleteFunc at rows of options, and the program's ofKinds; what lay in memory stands but for the row that is handed in. The program's answer to a request, where what was naked too often is rejected; what lay in memory stands. The program's end at work takes a request of configuration; what lay in memory stands. The program's Without, of a right Config and right options; what lay in memory stands. -/
import Derived.Test.YtahpjlbaagkdoaaGreatDoorS35
import Derived.Test.YtahpjlbaagkdoaaGreatDoorS13
import Derived.Deep.DeepCutAuto
import Derived.Lib.SliceRun
import Derived.Deep.RegionHeld3
import Derived.BigQuiet
import Derived.Test.YtahpjlbaagkdoaaGreatDoorS07
import Derived.Test.YtahpjlbaagkdoaaGreatDoorShW
namespace Go.Proofs.YtahpjlbaagkdoaaGreatDoor
open Go.RowKit
abbrev opV (o : Op.Opt) : Value := .agg #[.int .i64 o.kind, .string o.data]
def IdxA (p : Op.Opt → Bool) (L : List Op.Opt) (r : Int) : Prop := (r = -1 ∧ ∀ j (h : j < L.length), p L[j] = false) ∨ ∃ k, ∃ h : k < L.length, r = (k : Int) ∧ p L[k] = true ∧ ∀ j (h : j < L.length), j < k → p L[j] = false
theorem IdxA.any {p : Op.Opt → Bool} {L : List Op.Opt} {r : Int} (h : IdxA p L r) : decide (0 ≤ r) = L.any p := by
 rcases h with ⟨rfl, h⟩ | ⟨k, hk, rfl, h, _⟩
 ·have : L.any p = false := List.any_eq_false.2 fun x hx => by
   obtain ⟨j, hj, rfl⟩ := List.getElem_of_mem hx
   rw [h j hj]
   decide
  rw [this]
  rfl
 ·rw [List.any_eq_true.2 ⟨_, List.getElem_mem hk, h⟩]
  exact decide_eq_true (by omega)
set_option maxHeartbeats 4000000 in
set_option maxRecDepth 100000 in
theorem idxI (lb : Array Value) (p : Op.Opt → Bool) (v : Value) (L : List Op.Opt) (w : World) (hl : L.length ≤ 1000) (hL : HoldsO w v L)
  (hp : ∀ (W : World) (x : Op.Opt), Below w.heap.size w W → Calls Tryz.prog 162 (#[opV x] ++ lb) W fun e w' => e = .returned (.bool (p x)) ∧ Below W.heap.size W w') :
  Calls Tryz.prog 203 #[v, .func (.func 162) #[] lb] w fun e w' => ∃ r : Int, e = .returned (.int .i64 r) ∧ IdxA p L r ∧ Below w.heap.size w w' := by
 have HL := hide hL
 obtain ⟨va, vc, rfl⟩ := hL.form
 obtain ⟨n, hn⟩ : ∃ n, L.length = n := ⟨_, rfl⟩
 rw [hn] at HL hl ⊢
 clear hL
 have HP := hide hp
 clear hp
 go_enter Tryz.func203, Tryz.ntmps203
 go_wp2
 go_loopw [5, 8] (fun _ y wr => ∃ k : Nat, k ≤ n ∧ y = .int .i64 k ∧ Hid (Below w.heap.size w wr ∧ ∀ j (h : j < L.length), j < k → p L[j] = false)) (fun _ y _ => n - (intOf y).toNat)
 case atStart => exact ⟨0, Nat.zero_le _, rfl, hide ⟨Below.refl _ _, fun j _ h => absurd h (Nat.not_lt_zero _)⟩⟩
 case round =>
  obtain ⟨k, hk, rfl, HB⟩ := hrel
  by_cases hlt : k < n
  ·have d1 : (k : Int) < (n : Int) := by omega
   have d0 : (0 : Int) ≤ (k : Int) := by omega
   obtain ⟨G, ⟨cp', hv⟩, hgl, k0, k1⟩ := HoldsO.at ((unhide HL).below (unhide HB).1 rfl) k (by omega)
   injection hv with hv hv2 hv3
   subst hv hv3
   clear hv2
   have hcall := unhide HP wr (L[k]'(by omega)) (unhide HB).1
   have HK : Hid (∀ b, p (L[k]'(by omega)) = b → p (L[k]'(by omega)) = b) := hide fun _ h => h
   obtain ⟨o, ho⟩ : ∃ o, L[k]'(by omega) = o := ⟨_, rfl⟩
   rw [ho] at k0 k1 hcall
   have HO := hide ho
   clear ho HK
   obtain ⟨kd, dt⟩ := o
   dsimp only at k0 k1
   cases hq : p ⟨kd, dt⟩ with
   | true =>
    rw [hq] at hcall
    have HQ := hide hq
    clear hq
    go_wp2_with fail
    refine hcall.mono ?_
    rintro e w' ⟨rfl, hb'⟩
    clear hcall
    go_wp2
    go_ret
    refine ⟨(k : Int), rfl, Or.inr ⟨k, by omega, rfl, by rw [unhide HO]; exact unhide HQ, (unhide HB).2⟩, (unhide HB).1.trans (hb'.mono (unhide HB).1.size)⟩
   | false =>
    rw [hq] at hcall
    have HQ := hide hq
    clear hq
    go_wp2_with fail
    refine hcall.mono ?_
    rintro e w' ⟨rfl, hb'⟩
    clear hcall
    go_wp2_with fail
    go_roundw
    case rel =>
     refine ⟨k + 1, by omega, by go_num, hide ⟨(unhide HB).1.trans (hb'.mono (unhide HB).1.size), fun j hj hjk => ?_⟩⟩
     by_cases e : j = k
     ·subst e
      rw [unhide HO]
      exact unhide HQ
     ·exact (unhide HB).2 j hj (by omega)
    case measure => simp [intOf]; omega
  ·have d1 : ¬ (k : Int) < (n : Int) := by omega
   go_wp2
   go_ret
   exact ⟨-1, rfl, Or.inl ⟨rfl, fun j hj => (unhide HB).2 j hj (by omega)⟩, (unhide HB).1⟩
set_option maxHeartbeats 4000000 in
set_option maxRecDepth 100000 in
theorem idxO (lb : Array Value) (p : Op.Opt → Bool) (v : Value) (L : List Op.Opt) (w : World) (hl : L.length ≤ 1000) (hL : HoldsO w v L)
  (hp : ∀ (W : World) (x : Op.Opt), Below w.heap.size w W → Calls Tryz.prog 160 (#[opV x] ++ lb) W fun e w' => e = .returned (.bool (p x)) ∧ Below W.heap.size W w') :
  Calls Tryz.prog 203 #[v, .func (.func 160) #[] lb] w fun e w' => ∃ r : Int, e = .returned (.int .i64 r) ∧ IdxA p L r ∧ Below w.heap.size w w' := by
 have HL := hide hL
 obtain ⟨va, vc, rfl⟩ := hL.form
 obtain ⟨n, hn⟩ : ∃ n, L.length = n := ⟨_, rfl⟩
 rw [hn] at HL hl ⊢
 clear hL
 have HP := hide hp
 clear hp
 go_enter Tryz.func203, Tryz.ntmps203
 go_wp2
 go_loopw [5, 8] (fun _ y wr => ∃ k : Nat, k ≤ n ∧ y = .int .i64 k ∧ Hid (Below w.heap.size w wr ∧ ∀ j (h : j < L.length), j < k → p L[j] = false)) (fun _ y _ => n - (intOf y).toNat)
 case atStart => exact ⟨0, Nat.zero_le _, rfl, hide ⟨Below.refl _ _, fun j _ h => absurd h (Nat.not_lt_zero _)⟩⟩
 case round =>
  obtain ⟨k, hk, rfl, HB⟩ := hrel
  by_cases hlt : k < n
  ·have d1 : (k : Int) < (n : Int) := by omega
   have d0 : (0 : Int) ≤ (k : Int) := by omega
   obtain ⟨G, ⟨cp', hv⟩, hgl, k0, k1⟩ := HoldsO.at ((unhide HL).below (unhide HB).1 rfl) k (by omega)
   injection hv with hv hv2 hv3
   subst hv hv3
   clear hv2
   have hcall := unhide HP wr (L[k]'(by omega)) (unhide HB).1
   have HK : Hid (∀ b, p (L[k]'(by omega)) = b → p (L[k]'(by omega)) = b) := hide fun _ h => h
   obtain ⟨o, ho⟩ : ∃ o, L[k]'(by omega) = o := ⟨_, rfl⟩
   rw [ho] at k0 k1 hcall
   have HO := hide ho
   clear ho HK
   obtain ⟨kd, dt⟩ := o
   dsimp only at k0 k1
   cases hq : p ⟨kd, dt⟩ with
   | true =>
    rw [hq] at hcall
    have HQ := hide hq
    clear hq
    go_wp2_with fail
    refine hcall.mono ?_
    rintro e w' ⟨rfl, hb'⟩
    clear hcall
    go_wp2
    go_ret
    refine ⟨(k : Int), rfl, Or.inr ⟨k, by omega, rfl, by rw [unhide HO]; exact unhide HQ, (unhide HB).2⟩, (unhide HB).1.trans (hb'.mono (unhide HB).1.size)⟩
   | false =>
    rw [hq] at hcall
    have HQ := hide hq
    clear hq
    go_wp2_with fail
    refine hcall.mono ?_
    rintro e w' ⟨rfl, hb'⟩
    clear hcall
    go_wp2_with fail
    go_roundw
    case rel =>
     refine ⟨k + 1, by omega, by go_num, hide ⟨(unhide HB).1.trans (hb'.mono (unhide HB).1.size), fun j hj hjk => ?_⟩⟩
     by_cases e : j = k
     ·subst e
      rw [unhide HO]
      exact unhide HQ
     ·exact (unhide HB).2 j hj (by omega)
    case measure => simp [intOf]; omega
  ·have d1 : ¬ (k : Int) < (n : Int) := by omega
   go_wp2
   go_ret
   exact ⟨-1, rfl, Or.inl ⟨rfl, fun j hj => (unhide HB).2 j hj (by omega)⟩, (unhide HB).1⟩
set_option maxHeartbeats 4000000 in
theorem conF (lb : Array Value) (p : Op.Opt → Bool) (v : Value) (L : List Op.Opt) (w : World) (hl : L.length ≤ 1000) (hL : HoldsO w v L)
  (hp : ∀ (W : World) (x : Op.Opt), Below w.heap.size w W → Calls Tryz.prog 162 (#[opV x] ++ lb) W fun e w' => e = .returned (.bool (p x)) ∧ Below W.heap.size W w') :
  Calls Tryz.prog 161 #[v, .func (.func 162) #[] lb] w fun e w' => e = .returned (.bool (L.any p)) ∧ Below w.heap.size w w' := by
 have C := hide (idxI lb p v L w hl hL hp)
 clear hp hL
 go_enter Tryz.func161, Tryz.ntmps161
 go_wp2_with fail
 refine (unhide C).mono ?_
 rintro e w' ⟨r, rfl, hr, hb⟩
 have HR := hide hr.any
 clear hr C
 go_wp2
 go_ret
 refine ⟨?_, hb⟩
 rw [← unhide HR]
 rfl
set_option maxHeartbeats 4000000 in
theorem inK (x : Op.Opt) (k : Int) (O : Nat) (W : World) (h : W.cell? ⟨O, 0, none⟩ = some (.int .i64 k)) :
  Calls Tryz.prog 162 #[opV x, .pointer (some ⟨O, 0, none⟩)] W fun e w' => e = .returned (.bool (x.kind == k)) ∧ Below W.heap.size W w' := by
 have hlt := World.block_lt_of_cell? W _ h
 have hne : ¬ (O = W.heap.size) := Nat.ne_of_lt hlt
 have hne2 : ¬ (W.heap.size = O) := fun e => hne e.symm
 obtain ⟨kd, dt⟩ := x
 have c2 : (W.alloc (.cells #[.int .i64 kd, .string dt] 116)).cell? ⟨O, 0, none⟩ = some (.int .i64 k) := by
  rw [((Below.refl W.heap.size W).alloc (Nat.le_refl _) _).cell (p := ⟨O, 0, none⟩) hlt]
  exact h
 go_enter Tryz.func162, Tryz.ntmps162
 go_wp2
 go_ret
 exact ⟨rfl, (Below.refl _ _).alloc (Nat.le_refl _) _⟩
set_option maxHeartbeats 4000000 in
theorem delK (x : Op.Opt) (v : Value) (Os : List Op.Opt) (O : Nat) (W : World) (hl : Os.length ≤ 1000) (h : W.cell? ⟨O, 0, none⟩ = some v) (hO : HoldsO W v Os) :
  Calls Tryz.prog 160 #[opV x, .pointer (some ⟨O, 0, none⟩)] W fun e w' => e = .returned (.bool (!(Os.any fun y => y.kind == x.kind))) ∧ Below W.heap.size W w' := by
 have hlt := World.block_lt_of_cell? W _ h
 obtain ⟨kd, dt⟩ := x
 have hbA : Below W.heap.size W (W.alloc (.cells #[.int .i64 kd, .string dt] 116)) := (Below.refl _ _).alloc (Nat.le_refl _) _
 have c2 : (W.alloc (.cells #[.int .i64 kd, .string dt] 116)).cell? ⟨O, 0, none⟩ = some v := by
  rw [hbA.cell (p := ⟨O, 0, none⟩) hlt]
  exact h
 have hx : (W.alloc (.cells #[.int .i64 kd, .string dt] 116)).cell? ⟨W.heap.size, 0, none⟩ = some (.int .i64 kd) := by
  rw [cell_of_row _ _ _ _ _ _ (heap_alloc_new W _)]
  rfl
 have hxl : W.heap.size < (W.alloc (.cells #[.int .i64 kd, .string dt] 116)).heap.size := by simp
 have C := hide (conF #[.pointer (some ⟨W.heap.size, 0, none⟩)] (fun y => y.kind == kd) v Os (W.alloc (.cells #[.int .i64 kd, .string dt] 116)) hl (hO.below hbA rfl) (fun W' y hb => inK y kd W.heap.size W' ((hb.cell (p := ⟨W.heap.size, 0, none⟩) hxl).trans hx)))
 obtain ⟨va, vc, rfl⟩ := hO.form
 clear hx hxl hO h hlt
 go_enter Tryz.func160, Tryz.ntmps160
 go_wp2_with fail
 refine (unhide C).mono ?_
 rintro e w' ⟨rfl, hb⟩
 clear C
 go_wp2
 go_ret
 exact ⟨rfl, hbA.trans (hb.mono hbA.size)⟩
theorem setCells_rowO {T : TypeId} {g : Nat} : ∀ (vs : List Value) (o : Nat) (W : World) (cur : Array Value), W.heap[g]? = some (.cells cur T) → o + vs.length ≤ cur.size →
  ∃ cur', (W.setCells g o vs).heap[g]? = some (.cells cur' T) ∧ cur'.size = cur.size ∧ ∀ k, k < o → cur'[k]? = cur[k]?
 | [], _, _, cur, h, _ => ⟨cur, h, rfl, fun _ _ => rfl⟩
 | v :: vs, o, W, cur, h, hl => by
  rw [List.length_cons] at hl
  obtain ⟨cur', h1, h2, h3⟩ := setCells_rowO vs (o + 1) (W.setCell ⟨g, o, none⟩ v) (cur.setIfInBounds o v) (heap_setCell_same _ _ o _ _ v h) (by rw [Array.size_setIfInBounds]; omega)
  exact ⟨cur', h1, by rw [h2, Array.size_setIfInBounds], fun k hk => by rw [h3 k (by omega), Array.getElem?_setIfInBounds, if_neg (by omega)]⟩
theorem below_setO {n g : Nat} {a : World} (hg : n ≤ g) : ∀ (vs : List Value) (o : Nat) (W : World), Below n a W → Below n a (W.setCells g o vs)
 | [], _, _, h => h
 | v :: vs, o, W, h => below_setO hg vs (o + 1) (W.setCell ⟨g, o, none⟩ v) (h.setCell (p := ⟨g, o, none⟩) hg v)
theorem zeroC_all (n : Nat) : ((Builtin.zeroCells #[.int .i64 0, .string ⟨#[]⟩] n).toList.length = n * 2) ∧ ∀ u ∈ (Builtin.zeroCells #[.int .i64 0, .string ⟨#[]⟩] n).toList, u.oneCell' = true := by
 refine ⟨by simp [Builtin.zeroCells], fun u hu => ?_⟩
 simp [Builtin.zeroCells] at hu
 obtain ⟨i, _, rfl⟩ := hu
 have h2 : i % 2 = 0 ∨ i % 2 = 1 := by omega
 rcases h2 with h | h <;> rw [h] <;> rfl
theorem run_clearO (w : World) (ty : TypeId) (b o n c : Nat) (hn : 0 < n) (hc : ∀ j, j < n * 2 → (w.cell? ⟨b, o + j, none⟩).isSome = true) (hf : ∀ j, j < n * 2 → w.frozen? ⟨b, o + j, none⟩ = false) :
  ∃ zs : List Value, zs.length = n * 2 ∧ (Builtin.clear_ #[25] ty #[.slice (some ⟨b, o, none⟩) n c]).run Tryz.prog w = .ok (.tuple #[]) (w.setCells b o zs) := by
 obtain ⟨h1, h2⟩ := zeroC_all n
 refine ⟨_, h1, ?_⟩
 have hst := run_storeCells_cells (P := Tryz.prog) b o (Builtin.zeroCells #[.int .i64 0, .string ⟨#[]⟩] n).toList 0 w (by rw [h1]; simpa using hc) (by rw [h1]; simpa using hf) h2
 simp only [Nat.add_zero] at hst
 obtain ⟨m, rfl⟩ : ∃ m, n = m + 1 := ⟨n - 1, by omega⟩
 simp [Builtin.clear_, run_underlying Tryz.underlying25, Value.cells, hst]
theorem elemO : Tryz.prog.elem 25 = 116 := by kernel_rfl
structure Dk (q : World) (base G cap n : Nat) (L K : List Op.Opt) (j : Nat) (z : World) : Prop where
 b : Below base q z
 g : ∃ cur, z.heap[G]? = some (.cells cur 116) ∧ cur.size = cap * 2 ∧ (∀ t, t < K.length * 2 → cur[t]? = (ocells K)[t]?) ∧ ∀ t, j * 2 ≤ t → t < n * 2 → cur[t]? = (ocells L)[t]?
variable {q z z' : World} {base G cap n j : Nat} {L K : List Op.Opt}
theorem Dk.step (h : Dk q base G cap n L K j z) (hbs : base ≤ z.heap.size) (hb : Below z.heap.size z z') : Dk q base G cap n L K j z' := by
 obtain ⟨cur, h1, h2⟩ := h.g
 exact ⟨h.b.trans (hb.mono hbs), cur, (hb.block _ (Array.getElem?_eq_some_iff.1 h1).1).trans h1, h2⟩
theorem Dk.lt (h : Dk q base G cap n L K j z) : G < z.heap.size := by
 obtain ⟨cur, h1, _⟩ := h.g
 exact (Array.getElem?_eq_some_iff.1 h1).1
theorem Dk.get (h : Dk q base G cap n L K j z) (hL : L.length = n) (hj : j < n) : z.cell? ⟨G, j * 2, none⟩ = some (.int .i64 (L[j]'(by omega)).kind) ∧ z.cell? ⟨G, j * 2 + 1, none⟩ = some (.string (L[j]'(by omega)).data) := by
 obtain ⟨cur, h1, _, _, h4⟩ := h.g
 have hg := ocells_get L j _ (List.getElem?_eq_getElem (by omega))
 exact ⟨by rw [cell_of_row _ _ _ _ _ _ h1, h4 _ (by omega) (by omega)]; exact hg.1, by rw [cell_of_row _ _ _ _ _ _ h1, h4 _ (by omega) (by omega)]; exact hg.2⟩
theorem Dk.skip (h : Dk q base G cap n L K j z) : Dk q base G cap n L K (j + 1) z := by
 obtain ⟨cur, h1, h2, h3, h4⟩ := h.g
 exact ⟨h.b, cur, h1, h2, h3, fun t ht hn => h4 t (by omega) hn⟩
theorem Dk.keep (h : Dk q base G cap n L K j z) (hG : base ≤ G) (hK : K.length ≤ j) (hj : j < n) (hc : n ≤ cap) (o : Op.Opt) : Dk q base G cap n L (K ++ [o]) (j + 1) ((z.setCell ⟨G, K.length * 2, none⟩ (.int .i64 o.kind)).setCell ⟨G, K.length * 2 + 1, none⟩ (.string o.data)) := by
 obtain ⟨cur, h1, h2, h3, h4⟩ := h.g
 have e1 := heap_setCell_same z G (K.length * 2) _ _ (.int .i64 o.kind) h1
 have e2 := heap_setCell_same _ G (K.length * 2 + 1) _ _ (.string o.data) e1
 refine ⟨(h.b.setCell (p := ⟨G, K.length * 2, none⟩) hG _).setCell (p := ⟨G, K.length * 2 + 1, none⟩) hG _, _, e2, by rw [Array.size_setIfInBounds, Array.size_setIfInBounds]; exact h2, fun t ht => ?_, fun t ht hn => ?_⟩
 ·rw [List.length_append, List.length_singleton] at ht
  rw [ocells_append, Array.getElem?_setIfInBounds, Array.getElem?_setIfInBounds, Array.size_setIfInBounds]
  by_cases t1 : K.length * 2 + 1 = t
  ·rw [if_pos t1, if_pos (by omega), List.getElem?_append_right (by rw [ocells_len]; omega), ocells_len, show t - K.length * 2 = 1 by omega]
   rfl
  ·rw [if_neg t1]
   by_cases t0 : K.length * 2 = t
   ·rw [if_pos t0, if_pos (by omega), List.getElem?_append_right (by rw [ocells_len]; omega), ocells_len, show t - K.length * 2 = 0 by omega]
    rfl
   ·rw [if_neg t0, List.getElem?_append_left (by rw [ocells_len]; omega)]
    exact h3 t (by omega)
 ·rw [Array.getElem?_setIfInBounds, Array.getElem?_setIfInBounds, Array.size_setIfInBounds, if_neg (by omega), if_neg (by omega)]
  exact h4 t (by omega) hn
theorem filt_succ (p : Op.Opt → Bool) (L : List Op.Opt) (j : Nat) (hj : j < L.length) : (L.take (j + 1)).filter (fun o => !p o) = (L.take j).filter (fun o => !p o) ++ (if p L[j] = true then [] else [L[j]]) := by
 rw [List.take_succ_eq_append_getElem hj, List.filter_append]
 congr 1
 cases h : p L[j] <;> simp [h]
theorem filt_all (p : Op.Opt → Bool) (L : List Op.Opt) (h : ∀ j (hj : j < L.length), p L[j] = false) : L.filter (fun o => !p o) = L :=
 List.filter_eq_self.2 fun x hx => by
  obtain ⟨j, hj, rfl⟩ := List.getElem_of_mem hx
  rw [h j hj]
  rfl
set_option maxHeartbeats 8000000 in
set_option maxRecDepth 100000 in
theorem delF (lb : Array Value) (p : Op.Opt → Bool) (v : Value) (L : List Op.Opt) (base : Nat) (q : World) (hbase : base ≤ q.heap.size) (hl : L.length ≤ 20) (ho : q.ownsRow base 116 2 v L.length (ocells L))
  (hp : ∀ (W : World) (x : Op.Opt), Below base q W → Calls Tryz.prog 160 (#[opV x] ++ lb) W fun e w' => e = .returned (.bool (p x)) ∧ Below W.heap.size W w') :
  Calls Tryz.prog 159 #[v, .func (.func 160) #[] lb] q fun e q' => ∃ v', e = .returned v' ∧ q'.ownsRow base 116 2 v' (L.filter fun o => !p o).length (ocells (L.filter fun o => !p o)) ∧ Below base q q' := by
 have C := hide (idxO lb p v L q (by omega) (HoldsO.own ho) (fun W x hb => hp W x (hb.mono hbase)))
 have HO := hide ho
 have HP := hide hp
 obtain ⟨va, vc, rfl⟩ := own_form ho
 clear hp ho
 obtain ⟨n, hn⟩ : ∃ n, L.length = n := ⟨_, rfl⟩
 rw [hn] at C HO hl ⊢
 go_enter Tryz.func159, Tryz.ntmps159
 go_wp2_with fail
 refine (unhide C).mono ?_
 rintro e w1 ⟨r, rfl, hr, hb⟩
 rcases hr with ⟨rfl, hall⟩ | ⟨k, hk, rfl, hpk, hall⟩
 ·have HF := hide (filt_all p L hall)
  have HB := hide hb
  clear hb hall C HP
  go_wp2
  go_ret
  refine ⟨_, rfl, ?_, (unhide HB).mono hbase⟩
  rw [unhide HF, hn]
  exact own_below (unhide HO) (unhide HB)
 ·have hne : ((k : Int) == -1) = false := beq_eq_false_iff_ne.2 (by omega)
  obtain ⟨G, cur, ev, hG, hgq, hnc, hcm, hcs, htk⟩ : ∃ G cur, va = some ⟨G, 0, none⟩ ∧ base ≤ G ∧ q.heap[G]? = some (.cells cur 116) ∧ n ≤ vc ∧ vc ≤ maxLen ∧ cur.size = vc * 2 ∧ cur.toList.take (n * 2) = ocells L := by
   rcases (unhide HO).2 with ⟨_, e0⟩ | ⟨G, cap, cur, e1, e2, e3, e4, e5, e6, e7⟩
   ·omega
   ·cases e1
    exact ⟨G, cur, rfl, e2, e3, e4, e5, e6, e7⟩
  subst ev
  have HK0 : Hid (((L.take (k + 1)).filter fun o => !p o) = L.take k) := hide (by
   rw [filt_succ p L k hk, if_pos hpk, List.append_nil]
   refine List.filter_eq_self.2 fun x hx => ?_
   obtain ⟨j, hj, rfl⟩ := List.mem_take_iff_getElem.1 hx
   rw [hall j (by omega) (by omega)]
   rfl)
  have hD0 : Dk q base G vc n L (L.take k) (k + 1) w1 := by
   have hlook : ∀ t, t < n * 2 → cur[t]? = (ocells L)[t]? := fun t ht => by
    rw [← htk, List.getElem?_take, if_pos ht, Array.getElem?_toList]
   refine ⟨hb.mono hbase, cur, (hb.block _ (Array.getElem?_eq_some_iff.1 hgq).1).trans hgq, hcs, fun t ht => ?_, fun t _ ht => hlook t ht⟩
   rw [List.length_take] at ht
   rw [hlook t (by omega)]
   conv => lhs; rw [← List.take_append_drop k L, ocells_append]
   rw [List.getElem?_append_left (by rw [ocells_len, List.length_take]; omega)]
  have HD0 := hide hD0
  have hkn : k < n := by omega
  have HM := hide (And.intro hcm hcs)
  clear hb hall hpk hD0 htk hgq C HO hcm hcs
  go_wp2_with fail
  go_loopw [5, 6] (fun x y wr => ∃ j : Nat, k < j ∧ j ≤ n ∧ y = .int .i64 j ∧ x = .int .i64 (((L.take j).filter fun o => !p o).length : Nat) ∧ ((L.take j).filter fun o => !p o).length < j ∧ base ≤ wr.heap.size ∧ Hid (Dk q base G vc n L ((L.take j).filter fun o => !p o) j wr)) (fun _ y _ => n - (intOf y).toNat)
  case atStart =>
   refine ⟨k + 1, by omega, by omega, by go_num, ?_, ?_, ?_, ?_⟩
   ·rw [unhide HK0, List.length_take, Nat.min_eq_left (by omega)]
   ·rw [unhide HK0, List.length_take]
    omega
   ·exact Nat.le_trans hbase (by have := (unhide HD0).lt; have := (unhide HD0).b.size; omega : q.heap.size ≤ w1.heap.size)
   ·rw [unhide HK0]
    exact HD0
  case round =>
   obtain ⟨j, hkj, hjn, rfl, rfl, hKj, hbw, HD⟩ := hrel
   clear HD0 HK0
   obtain ⟨K, hK⟩ : ∃ K, ((L.take j).filter fun o => !p o) = K := ⟨_, rfl⟩
   rw [hK] at hKj HD
   by_cases hlt : j < n
   ·have d1 : (j : Int) < (n : Int) := by omega
    have d0 : (0 : Int) ≤ (j : Int) := by omega
    have hFs := filt_succ p L j (by omega)
    rw [hK] at hFs
    have HKS := hide hFs
    obtain ⟨k0, k1⟩ := (unhide HD).get hn hlt
    have hcall := hide fun W hb => unhide HP W (L[j]'(by omega)) hb
    obtain ⟨o, ho⟩ : ∃ o, L[j]'(by omega) = o := ⟨_, rfl⟩
    rw [ho] at k0 k1 hcall HKS
    have hGl := (unhide HD).lt
    have hne1 : ¬ (G = wr.heap.size) := by omega
    have hne2 : ¬ (wr.heap.size = G) := by omega
    rw [hK]
    clear hK ho hFs HP
    obtain ⟨kd, dt⟩ := o
    dsimp only at k0 k1
    go_upto_region 8 with fail
    refine gen_world (fun z => Dk q base G vc n L K j z ∧ z.heap[wr.heap.size]? = some (.cells #[.int .i64 kd, .string dt] 116) ∧ base ≤ z.heap.size) ?_ ?_
    ·have hbA := (Below.refl wr.heap.size wr).alloc (Nat.le_refl _) (.cells #[.int .i64 kd, .string dt] 116)
     exact ⟨(unhide HD).step hbw hbA, heap_alloc_new wr _, Nat.le_trans hbw hbA.size⟩
    intro z1 hz1
    generalize wr.heap.size = N at *
    have HZ := hide hz1
    have m0 : z1.cell? ⟨N, 0, none⟩ = some (.int .i64 kd) := by rw [cell_of_row _ _ _ _ _ _ hz1.2.1]; rfl
    have m1 : z1.cell? ⟨N, 1, none⟩ = some (.string dt) := by rw [cell_of_row _ _ _ _ _ _ hz1.2.1]; rfl
    clear hz1 HD k0 k1
    go_wp2_with fail
    refine (unhide hcall _ (unhide HZ).1.b).mono ?_
    rintro e z2 ⟨rfl, hb2⟩
    clear hcall m0 m1
    have hz2 : Dk q base G vc n L K j z2 ∧ z2.heap[N]? = some (.cells #[.int .i64 kd, .string dt] 116) ∧ base ≤ z2.heap.size := ⟨(unhide HZ).1.step (unhide HZ).2.2 hb2, (hb2.block _ (Array.getElem?_eq_some_iff.1 (unhide HZ).2.1).1).trans (unhide HZ).2.1, Nat.le_trans (unhide HZ).2.2 hb2.size⟩
    have H2 := hide hz2
    have m0 : z2.cell? ⟨N, 0, none⟩ = some (.int .i64 kd) := by rw [cell_of_row _ _ _ _ _ _ hz2.2.1]; rfl
    have m1 : z2.cell? ⟨N, 1, none⟩ = some (.string dt) := by rw [cell_of_row _ _ _ _ _ _ hz2.2.1]; rfl
    clear hz2 hb2 HZ
    cases hq : p ⟨kd, dt⟩ with
    | true =>
     rw [hq, if_pos rfl, List.append_nil] at HKS
     clear hq
     go_wp2_with fail
     go_roundw
     case rel =>
      refine ⟨j + 1, by omega, by omega, by go_num, ?_, ?_, (unhide H2).2.2, ?_⟩
      ·rw [unhide HKS]
      ·rw [unhide HKS]
       omega
      ·rw [unhide HKS]
       exact hide (unhide H2).1.skip
     case measure => simp [intOf]; omega
    | false =>
     rw [hq, if_neg (by decide)] at HKS
     clear hq
     obtain ⟨c3, hc3, hs3, _⟩ := (unhide H2).1.g
     have e0 : (z2.cell? ⟨G, K.length * 2, none⟩).isSome = true := by rw [cell_of_row _ _ _ _ _ _ hc3, Array.getElem?_eq_getElem (by omega)]; rfl
     have e1 : (z2.cell? ⟨G, K.length * 2 + 1, none⟩).isSome = true := by rw [cell_of_row _ _ _ _ _ _ hc3, Array.getElem?_eq_getElem (by omega)]; rfl
     obtain ⟨y0, hy0⟩ := Option.isSome_iff_exists.1 e0
     obtain ⟨y1, hy1⟩ := Option.isSome_iff_exists.1 e1
     have f0 := frz hc3 (K.length * 2)
     have f1 := frz hc3 (K.length * 2 + 1)
     have dK : (K.length : Int) < (n : Int) := by omega
     clear e0 e1 hc3 hs3
     go_wp2_with fail
     go_roundw
     case rel =>
      refine ⟨j + 1, by omega, by omega, by go_num, ?_, ?_, ?_, ?_⟩
      ·rw [unhide HKS, List.length_append]
       go_num
      ·rw [unhide HKS, List.length_append]
       simp
       omega
      ·simpa using (unhide H2).2.2
      ·rw [unhide HKS]
       exact hide ((unhide H2).1.keep hG (by omega) hlt hnc ⟨kd, dt⟩)
     case measure => simp [intOf]; omega
   ·have d1 : ¬ ((j : Int) < (n : Int)) := by omega
    have ejn : j = n := by omega
    subst ejn
    have hKL : (L.filter fun o => !p o) = K := by
     rw [← hK, ← hn, List.take_length]
    have HKL := hide hKL
    rw [hK]
    clear hK hKL HP
    obtain ⟨c3, hc3, hs3, hlo3, _⟩ := (unhide HD).g
    obtain ⟨ys, hys⟩ : ∃ ys : Value, (.slice (some ⟨G, K.length * 2, none⟩) (j - K.length) (vc - K.length) : Value) = ys := ⟨_, rfl⟩
    have hs1 : ∀ z : World, (Instr.slice 25 (.slice (some ⟨G, 0, none⟩) j vc) (some (.int .i64 (K.length : Int))) none none).run Tryz.prog z = .ok ys z := fun z => by
     rw [← hys, run_slice_l (P := Tryz.prog) (w := z) 25 _ j vc (by rw [elemO]; exact Tryz.underlying25) .i64 (K.length : Int) (by omega) (by omega), elemO, Tryz.sizeOf116 z]
     have : ¬ vc = K.length := by omega
     simp [Result.andThen, sliced, Addr.add, this]
     omega
    have hs2 : ∀ z : World, (Instr.slice 25 (.slice (some ⟨G, 0, none⟩) j vc) none (some (.int .i64 (K.length : Int))) none).run Tryz.prog z = .ok (.slice (some ⟨G, 0, none⟩) K.length vc) z := fun z => by
     rw [run_slice_h (P := Tryz.prog) (w := z) 25 _ j vc (by rw [elemO]; exact Tryz.underlying25) .i64 (K.length : Int) (by omega) (by omega), elemO, Tryz.sizeOf116 z]
     simp [Result.andThen, sliced, Addr.add]
    obtain ⟨zs, hzl, hcl⟩ := run_clearO wr 0 G (K.length * 2) (j - K.length) (vc - K.length) (by omega) (fun t ht => by rw [cell_of_row _ _ _ _ _ _ hc3, Array.getElem?_eq_getElem (by omega)]; rfl) (fun t _ => frz hc3 _)
    rw [hys] at hcl
    obtain ⟨c4, hc4, hs4, hl4⟩ := setCells_rowO zs (K.length * 2) wr c3 hc3 (by omega)
    have HE : Hid ((wr.setCells G (K.length * 2) zs).ownsRow base 116 2 (.slice (some ⟨G, 0, none⟩) K.length vc) K.length (ocells K) ∧ Below base q (wr.setCells G (K.length * 2) zs)) := hide ⟨⟨by rw [ocells_len], Or.inr ⟨G, vc, c4, rfl, hG, hc4, by omega, (unhide HM).1, by rw [hs4, hs3], by
     refine List.ext_getElem? fun t => ?_
     rw [List.getElem?_take]
     by_cases ht : t < K.length * 2
     ·rw [if_pos ht, Array.getElem?_toList, hl4 t ht, hlo3 t ht]
     ·rw [if_neg ht, List.getElem?_eq_none (by rw [ocells_len]; omega)]⟩⟩, below_setO hG _ _ _ (unhide HD).b⟩
    clear hys hc3 hs3 hlo3 hc4 hs4 hl4 hzl HD
    go_wp2_with fail
    go_ret
    refine ⟨_, rfl, ?_, (unhide HE).2⟩
    rw [unhide HKL]
    exact (unhide HE).1
set_option maxHeartbeats 4000000 in
theorem iOfKinds (v vo : Value) (L Os : List Op.Opt) (w : World) (hr : Op.right L = true) (hl : Os.length ≤ 1000) (hL : HoldsO w v L) (hO : HoldsO w vo Os) :
  Calls Tryz.prog 143 #[v, vo] w fun e w' => ∃ v', e = .returned v' ∧ w'.ownsRow w.heap.size 116 2 v' (ofKs L Os).length (ocells (ofKs L Os)) ∧ Below w.heap.size w w' := by
 have hl20 : L.length ≤ 20 := Op.right_len hr
 obtain ⟨oa, oc, rfl⟩ := hO.form
 have hbA := (Below.refl w.heap.size w).alloc (Nat.le_refl _) (.cells #[.slice oa Os.length oc] 25)
 have hx : (w.alloc (.cells #[.slice oa Os.length oc] 25)).cell? ⟨w.heap.size, 0, none⟩ = some (.slice oa Os.length oc) := by
  rw [cell_of_row _ _ _ _ _ _ (heap_alloc_new w _)]
  rfl
 have hxl : w.heap.size < (w.alloc (.cells #[.slice oa Os.length oc] 25)).heap.size := by simp
 have CS := hide (iSame v L (w.alloc (.cells #[.slice oa Os.length oc] 25)) hr (hL.below hbA rfl))
 have HX := hide (And.intro hx (And.intro hxl (And.intro (hO.below hbA rfl) hbA)))
 clear hx hxl hO hL
 obtain ⟨w1, hw1⟩ : ∃ w1, w.alloc (.cells #[.slice oa Os.length oc] 25) = w1 := ⟨_, rfl⟩
 rw [hw1] at CS HX hbA
 have HW := hide hw1
 clear hw1
 have CD : Hid (∀ (W : World) (va : Option Addr) (vc : Nat), Below w1.heap.size w1 W → W.ownsRow w1.heap.size 116 2 (.slice va L.length vc) L.length (ocells L) → Calls Tryz.prog 159 #[.slice va L.length vc, .func (.func 160) #[] #[.pointer (some ⟨w.heap.size, 0, none⟩)]] W fun e q' => ∃ v', e = .returned v' ∧ q'.ownsRow w1.heap.size 116 2 v' (ofKs L Os).length (ocells (ofKs L Os)) ∧ Below w1.heap.size W q') := hide fun W va vc hb ho => by
  have h := delF #[.pointer (some ⟨w.heap.size, 0, none⟩)] (fun x => !(Os.any fun y => y.kind == x.kind)) _ L w1.heap.size W hb.size hl20 ho (fun W' x hb' => delK x _ Os w.heap.size W' hl (((hb.trans hb').cell (p := ⟨w.heap.size, 0, none⟩) (unhide HX).2.1).trans (unhide HX).1) ((unhide HX).2.2.1.below (hb.trans hb') rfl))
  have e : (L.filter fun o => !(fun x : Op.Opt => !(Os.any fun y => y.kind == x.kind)) o) = ofKs L Os := by
   unfold ofKs
   congr 1
   funext o
   exact Bool.not_not _
  rw [e] at h
  exact h
 have hbs := hbA.size
 go_enter Tryz.func143, Tryz.ntmps143
 go_upto_region 1 with fail
 rw [unhide HW]
 clear HW
 go_wp2_with fail
 refine (unhide CS).mono ?_
 rintro e w2 ⟨va, vc, rfl, ho2, hb2⟩
 have CD2 := hide (unhide CD w2 va vc hb2 ho2)
 have HB2 := hide hb2
 clear hb2 ho2 CS CD
 go_wp2_with fail
 refine (unhide CD2).mono ?_
 rintro e w3 ⟨v3, rfl, ho3, hb3⟩
 have H3 := hide (And.intro ho3 hb3)
 clear ho3 hb3 CD2
 go_wp2
 go_ret
 exact ⟨_, rfl, own_mono (unhide H3).1 hbs, hbA.trans (((unhide HB2).trans (unhide H3).2).mono hbs)⟩
end Go.Proofs.YtahpjlbaagkdoaaGreatDoor
namespace Go.Proofs.YtahpjlbaagkdoaaGreatDoor
open Go.RowKit
structure Rp (q : World) (N0 C : Nat) (m a g2 : Int) (p c9 d : Bool) (z : World) : Prop where
 b : Below q.heap.size q z
 r : z.heap[N0]? = some (.cells #[.int .i64 0, .slice none 0 0] 81)
 c : z.heap[C]? = some (.cells #[.int .i64 m, .int .i64 a, .int .i64 g2, .bool p, .bool c9, .bool d] 24)
variable {q z z' : World} {N0 C : Nat} {m a g2 : Int} {p c9 d : Bool}
theorem Rp.step (h : Rp q N0 C m a g2 p c9 d z) (hb : Below z.heap.size z z') : Rp q N0 C m a g2 p c9 d z' :=
 ⟨h.b.trans (hb.mono h.b.size), (hb.block _ (Array.getElem?_eq_some_iff.1 h.r).1).trans h.r, (hb.block _ (Array.getElem?_eq_some_iff.1 h.c).1).trans h.c⟩
theorem Rp.lt (h : Rp q N0 C m a g2 p c9 d z) : N0 < z.heap.size := (Array.getElem?_eq_some_iff.1 h.r).1
theorem Rp.setG {g3 : Int} (h : Rp q N0 C m a g2 p c9 d z) (hC : q.heap.size ≤ C) (hn : N0 ≠ C) : Rp q N0 C m a g3 p c9 d (z.setCell ⟨C, 2, none⟩ (.int .i64 g3)) :=
 ⟨h.b.setCell (p := ⟨C, 2, none⟩) hC _, (Below.heap_setCell _ ⟨C, 2, none⟩ _ _ hn).trans h.r, heap_setCell_same _ _ 2 _ _ _ h.c⟩
theorem row2a {w : World} {B : Nat} {x0 x1 : Value} {T : TypeId} (h : w.heap[B]? = some (.cells #[x0, x1] T)) : w.cell? ⟨B, 0, none⟩ = some x0 ∧ w.cell? ⟨B, 1, none⟩ = some x1 :=
 ⟨by rw [cell_of_row _ _ _ _ _ _ h]; rfl, by rw [cell_of_row _ _ _ _ _ _ h]; rfl⟩
structure RaP (q : World) (N0 C : Nat) (m a g2 : Int) (p c9 d : Bool) (M : Nat) (code : Int) (v : Value) (R : List Op.Opt) (z : World) : Prop where
 e : Rp q N0 C m a g2 p c9 d z
 m : z.heap[M]? = some (.cells #[.int .i64 code, v] 81)
 o : HoldsO z v R
 n : N0 < M
theorem set2a {W : World} {E : Nat} {z0 z1 : Value} {T : TypeId} (h : W.heap[E]? = some (.cells #[z0, z1] T)) (x0 x1 : Value) :
  ((W.setCell ⟨E, 0, none⟩ x0).setCell ⟨E, 1, none⟩ x1).heap[E]? = some (.cells #[x0, x1] T) := by
 have h1 := heap_setCell_same _ _ 0 _ _ x0 h
 have h2 := heap_setCell_same _ _ 1 _ _ x1 h1
 exact h2
theorem set2a_ot {W : World} {E k : Nat} (hk : k ≠ E) (x0 x1 : Value) : ((W.setCell ⟨E, 0, none⟩ x0).setCell ⟨E, 1, none⟩ x1).heap[k]? = W.heap[k]? :=
 (Below.heap_setCell _ ⟨E, 1, none⟩ _ _ hk).trans (Below.heap_setCell _ ⟨E, 0, none⟩ _ _ hk)
theorem Rp.put {M : Nat} {code : Int} {v : Value} {R : List Op.Opt} (h : Rp q N0 C m a g2 p c9 d z) (hM : z.heap[M]? = some (.cells #[.int .i64 0, .slice none 0 0] 81)) (hw : q.heap.size ≤ M) (hn : N0 < M) (ho : HoldsO z v R) :
  RaP q N0 C m a g2 p c9 d M code v R ((z.setCell ⟨M, 0, none⟩ (.int .i64 code)).setCell ⟨M, 1, none⟩ v) := by
 refine ⟨⟨(h.b.setCell (p := ⟨M, 0, none⟩) hw _).setCell (p := ⟨M, 1, none⟩) hw _, (set2a_ot (by omega) _ _).trans h.r, (set2a_ot (fun e => ?_) _ _).trans h.c⟩, set2a hM _ _, hold_ty ho hM (by decide) fun k _ hk => set2a_ot hk _ _, hn⟩
 have h1 := h.c
 rw [e, hM] at h1
 injection h1 with h1
 injection h1 with _ h1
 exact absurd h1 (by decide)
set_option linter.unusedSimpArgs false in
set_option maxHeartbeats 8000000 in
set_option maxRecDepth 100000 in
theorem iReplyTo {w0 w1 : World} {B : Nat} {c : Cx} {s : St} {v1 v2 vs vt : Value} {q : World} (h : Lay 83 w0 w1 B c s v1 v2 vs vt q) (v : Value) (L : List Op.Opt) (hr : Op.right L = true) (hL : HoldsO q v L) :
  Calls Tryz.prog 129 #[.pointer (some ⟨B, 0, none⟩), v] q fun r q' => ∃ v', r = .returned (.agg #[.int .i64 (ansF s.e L).1, v']) ∧ HoldsO q' v' (ansF s.e L).2 ∧ Below q.heap.size q q' := by
 have hB := h.lt
 have HE : Hid (∀ z, Below q.heap.size q z → z.cell? ⟨B, 0, none⟩ = some (.int .i64 s.e.m1) ∧ z.cell? ⟨B, 1, none⟩ = some (.int .i64 s.e.a1) ∧ z.cell? ⟨B, 2, none⟩ = some (.int .i64 s.e.g1) ∧ z.cell? ⟨B, 3, none⟩ = some (.bool s.e.p1) ∧ z.cell? ⟨B, 4, none⟩ = some (.bool s.e.c1) ∧ z.cell? ⟨B, 5, none⟩ = some (.bool s.e.d1) ∧ z.cell? ⟨B, 8, none⟩ = some (.int .i64 s.e.g2) ∧ z.cell? ⟨B, 16, none⟩ = some (.int .i64 s.e.fl)) := hide fun z hb => by
  have hz := h.step hb
  exact ⟨hz.cell (i := 0) rfl, hz.cell (i := 1) rfl, hz.cell (i := 2) rfl, hz.cell (i := 3) rfl, hz.cell (i := 4) rfl, hz.cell (i := 5) rfl, hz.cell (i := 8) rfl, hz.cell (i := 16) rfl⟩
 have hm : L.length ≤ maxLen := by have := Op.right_len hr; unfold maxLen; omega
 have CR : Hid (∀ z, Below q.heap.size q z → Calls Tryz.prog 142 #[cfgV s.e.m1 s.e.a1 s.e.g2 s.e.p1 s.e.c1 s.e.d1, v] z fun e w' => ∃ ad cp, e = .returned (.agg #[.int .i64 (repF s.e.m1 s.e.a1 s.e.g2 s.e.p1 s.e.c1 s.e.d1 L).1, .slice ad (repF s.e.m1 s.e.a1 s.e.g2 s.e.p1 s.e.c1 s.e.d1 L).2.length cp]) ∧ w'.ownsRow z.heap.size 116 2 (.slice ad (repF s.e.m1 s.e.a1 s.e.g2 s.e.p1 s.e.c1 s.e.d1 L).2.length cp) (repF s.e.m1 s.e.a1 s.e.g2 s.e.p1 s.e.c1 s.e.d1 L).2.length (ocells (repF s.e.m1 s.e.a1 s.e.g2 s.e.p1 s.e.c1 s.e.d1 L).2) ∧ Below z.heap.size z w') := hide fun z hb => implRepAll s.e.m1 s.e.a1 s.e.g2 s.e.p1 s.e.c1 s.e.d1 L v z hm (hL.below hb rfl)
 have hR20 := repF_len s.e.m1 s.e.a1 s.e.g2 s.e.p1 s.e.c1 s.e.d1 L
 have CK : Hid (∀ z vo, Below q.heap.size q z → HoldsO z vo (repF s.e.m1 s.e.a1 s.e.g2 s.e.p1 s.e.c1 s.e.d1 L).2 → Calls Tryz.prog 143 #[v, vo] z fun e w' => ∃ v', e = .returned v' ∧ w'.ownsRow z.heap.size 116 2 v' (ofKs L (repF s.e.m1 s.e.a1 s.e.g2 s.e.p1 s.e.c1 s.e.d1 L).2).length (ocells (ofKs L (repF s.e.m1 s.e.a1 s.e.g2 s.e.p1 s.e.c1 s.e.d1 L).2)) ∧ Below z.heap.size z w') := hide fun z vo hb ho => iOfKinds v vo L _ z hr (by omega) (hL.below hb rfl) ho
 obtain ⟨va, vc, rfl⟩ := hL.form
 unfold ansF
 clear h hm hr hL
 generalize s.e.m1 = m at *
 generalize s.e.a1 = a at *
 generalize s.e.g1 = g1 at *
 generalize s.e.p1 = p at *
 generalize s.e.c1 = c9 at *
 generalize s.e.d1 = d at *
 generalize s.e.g2 = g2 at *
 generalize s.e.fl = fl at *
 generalize repF m a g2 p c9 d L = RR at *
 obtain ⟨code, R⟩ := RR
 dsimp only at CR CK hR20 ⊢
 generalize ofKs L R = KR at *
 unfold cfgV at CR
 obtain ⟨AN, hAN⟩ : ∃ AN, (if code = 3 ∧ fl = 3 then (4, KR) else (code, R)) = AN := ⟨_, rfl⟩
 rw [hAN]
 have HAN := hide hAN
 clear hAN
 obtain ⟨N0, hN0⟩ : ∃ N0, q.heap.size = N0 := ⟨_, rfl⟩
 have hne1 : ¬ (B = q.heap.size) := by omega
 have hne2 : ¬ (q.heap.size = B) := by omega
 have hne3 : ¬ (B = q.heap.size + 1) := by omega
 have hne4 : ¬ (q.heap.size + 1 = B) := by omega
 obtain ⟨c0, c1, c2, c3, c4, c5, c8, c16⟩ := unhide HE _ ((Below.refl q.heap.size q).alloc (Nat.le_refl _) (.cells #[.int .i64 0, .slice none 0 0] 81))
 go_enter Tryz.func129, Tryz.ntmps129
 go_upto_region 2 with fail
 refine gen_world (Rp q N0 (N0 + 1) m a g1 p c9 d) ?_ ?_
 ·obtain ⟨_, hA, hX, hb⟩ := start2r q (.cells #[.int .i64 0, .slice none 0 0] 81) (.cells #[.int .i64 m, .int .i64 a, .int .i64 g1, .bool p, .bool c9, .bool d] 24)
  rw [hN0] at hA hX
  exact ⟨hb, hA, hX⟩
 clear c0 c1 c2 c3 c4 c5 c8 c16
 intro z0 hz0
 have E0 := hide hz0
 obtain ⟨_, _, _, _, _, _, c8, _⟩ := unhide HE _ hz0.b
 have t2 : z0.cell? ⟨N0 + 1, 2, none⟩ = some (.int .i64 g1) := by rw [cell_of_row _ _ _ _ _ _ hz0.c]; rfl
 have f2 := frz hz0.c 2
 clear hz0
 go_upto_region 3 with fail
 refine gen_world (Rp q N0 (N0 + 1) m a g2 p c9 d) ((unhide E0).setG (by omega) (by omega)) ?_
 clear c8 t2 f2 E0
 intro z1 hz1
 have E1 := hide hz1
 clear hz1
 obtain ⟨C, hC⟩ : ∃ C, N0 + 1 = C := ⟨_, rfl⟩
 rw [hC] at E1 ⊢
 clear hC
 have SY : Hid (∀ y9, Rp q N0 C m a g2 p c9 d y9 → (y9.cell? ⟨C, 0, none⟩ = some (.int .i64 m) ∧ y9.cell? ⟨C, 1, none⟩ = some (.int .i64 a) ∧ y9.cell? ⟨C, 2, none⟩ = some (.int .i64 g2) ∧ y9.cell? ⟨C, 3, none⟩ = some (.bool p) ∧ y9.cell? ⟨C, 4, none⟩ = some (.bool c9) ∧ y9.cell? ⟨C, 5, none⟩ = some (.bool d))) := hide fun y9 hz => by
  have hc := hz.c
  exact ⟨by rw [cell_of_row _ _ _ _ _ _ hc]; rfl, by rw [cell_of_row _ _ _ _ _ _ hc]; rfl, by rw [cell_of_row _ _ _ _ _ _ hc]; rfl, by rw [cell_of_row _ _ _ _ _ _ hc]; rfl, by rw [cell_of_row _ _ _ _ _ _ hc]; rfl, by rw [cell_of_row _ _ _ _ _ _ hc]; rfl⟩
 obtain ⟨k0, k1, k2, k3, k4, k5⟩ := unhide SY _ (unhide E1)
 go_wp2_with fail
 refine (unhide CR _ (unhide E1).b).mono ?_
 rintro e z2 ⟨ad, cp, rfl, ho2, hb2⟩
 have E2 := hide (And.intro ((unhide E1).step hb2) (HoldsO.own ho2))
 clear ho2 hb2 k0 k1 k2 k3 k4 k5 E1 SY CR
 go_upto_region 4 with fail
 refine gen_world (RaP q N0 C m a g2 p c9 d z2.heap.size code (.slice ad R.length cp) R) ?_ ?_
 ·have hbA := (Below.refl z2.heap.size z2).alloc (Nat.le_refl _) (.cells #[.int .i64 code, .slice ad R.length cp] 81)
  exact ⟨(unhide E2).1.step hbA, heap_alloc_new z2 _, (unhide E2).2.below hbA rfl, (unhide E2).1.lt⟩
 intro z4 hz4
 have E4 := hide hz4
 clear hz4 E2
 generalize z2.heap.size = M at *
 have hnM := (unhide E4).n
 obtain ⟨r0, r1⟩ := row2a (unhide E4).m
 obtain ⟨s0, s1⟩ := row2a (unhide E4).e.r
 have f0 := frz (unhide E4).e.r 0
 have f1 := frz (unhide E4).e.r 1
 obtain ⟨_, _, _, _, _, _, _, c16⟩ := unhide HE _ (unhide E4).e.b
 have hneM : ¬ (M = N0) := by omega
 have hneM2 : ¬ (N0 = M) := by omega
 have hN0q : q.heap.size ≤ N0 := Nat.le_of_eq hN0
 clear hN0 hne1 hne2 hne3 hne4
 by_cases hcd : code = 3 ∧ fl = 3
 ·rw [if_pos hcd] at HAN
  obtain ⟨hcd1, hcd2⟩ := hcd
  subst hcd1
  subst hcd2
  have CK2 := hide (unhide CK _ (.slice ad R.length cp) (unhide E4).e.b (unhide E4).o)
  clear CK
  go_wp2_with fail
  refine (unhide CK2).mono ?_
  rintro e z5 ⟨v5, rfl, ho5, hb5⟩
  obtain ⟨ka, kc, rfl⟩ := own_form ho5
  have E5 := hide (And.intro ((unhide E4).e.step hb5) (HoldsO.own ho5))
  clear hb5 ho5 CK2 r0 r1 s0 s1 f0 f1
  obtain ⟨s0, s1⟩ := row2a (unhide E5).1.r
  have f0 := frz (unhide E5).1.r 0
  have f1 := frz (unhide E5).1.r 1
  go_wp2_with fail
  refine bodyPost_ret (v := .agg #[.int .i64 4, .slice ka KR.length kc]) (by simp [results, Tryz.results129, asAddr, loadAn (set2a (unhide E5).1.r _ _)]) rfl ?_
  rw [← unhide HAN]
  exact ⟨_, rfl, hold_ty (unhide E5).2 (unhide E5).1.r (by decide) fun k _ hk => set2a_ot hk _ _, ((unhide E5).1.b.setCell (p := ⟨N0, 0, none⟩) hN0q _).setCell (p := ⟨N0, 1, none⟩) hN0q _⟩
 ·rw [if_neg hcd] at HAN
  by_cases hc3 : code = 3
  ·have hfl : (fl == 3) = false := beq_eq_false_iff_ne.2 fun e => hcd ⟨hc3, e⟩
   subst hc3
   clear hcd
   go_wp2_with fail
   refine bodyPost_ret (v := .agg #[.int .i64 3, .slice ad R.length cp]) (by simp [results, Tryz.results129, asAddr, loadAn (set2a (unhide E4).e.r _ _)]) rfl ?_
   rw [← unhide HAN]
   exact ⟨_, rfl, hold_ty (unhide E4).o (unhide E4).e.r (by decide) fun k _ hk => set2a_ot hk _ _, ((unhide E4).e.b.setCell (p := ⟨N0, 0, none⟩) hN0q _).setCell (p := ⟨N0, 1, none⟩) hN0q _⟩
  ·have hcd3 : (code == 3) = false := beq_eq_false_iff_ne.2 hc3
   clear hcd hc3
   go_wp2_with fail
   refine bodyPost_ret (v := .agg #[.int .i64 code, .slice ad R.length cp]) (by simp [results, Tryz.results129, asAddr, loadAn (set2a (unhide E4).e.r _ _)]) rfl ?_
   rw [← unhide HAN]
   exact ⟨_, rfl, hold_ty (unhide E4).o (unhide E4).e.r (by decide) fun k _ hk => set2a_ot hk _ _, ((unhide E4).e.b.setCell (p := ⟨N0, 0, none⟩) hN0q _).setCell (p := ⟨N0, 1, none⟩) hN0q _⟩
end Go.Proofs.YtahpjlbaagkdoaaGreatDoor
namespace Go.Proofs.YtahpjlbaagkdoaaGreatDoor
open Go.RowKit
theorem set2b_ot {W : World} {E k : Nat} {x0 x1 : Value} (hk : k ≠ E) : ((W.setCell ⟨E, 35, none⟩ x0).setCell ⟨E, 36, none⟩ x1).heap[k]? = W.heap[k]? :=
 (Below.heap_setCell _ ⟨E, 36, none⟩ _ _ hk).trans (Below.heap_setCell _ ⟨E, 35, none⟩ _ _ hk)
theorem HoldsO.one {w : World} {v : Value} {F : List Op.Opt} (h : HoldsO w v F) : v.oneCell' = true := by
 obtain ⟨_, _, rfl⟩ := h.form
 rfl
set_option linter.unusedSimpArgs false in
set_option maxHeartbeats 8000000 in
set_option maxRecDepth 100000 in
theorem iReqNo {w0 w1 : World} {B : Nat} {c : Cx} {s : St} {v1 v2 vs vt : Value} {q : World} (h : Lay 83 w0 w1 B c s v1 v2 vs vt q) (hs : c.cd.size ≤ 250) (hE : Et q) (h0 : (oread c.cd).2 ≠ 0) :
  Calls Tryz.prog 91 #[.pointer (some ⟨B, 0, none⟩)] q fun r q' => Lay 83 w0 w1 B c s v1 v2 vs vt q' ∧ r = .returned (.tuple #[.int .i64 0, .int .i64 (oread c.cd).2]) := by
 have CO := hide (implOptsRead c.cd q (by unfold maxLen; omega) hE)
 have c33 := h.cell (i := 33) rfl
 have HL := hide h
 clear h hE hs
 generalize oread c.cd = OO at *
 obtain ⟨L, cd⟩ := OO
 dsimp only at h0 ⊢
 generalize c.cd = t at *
 have hb0 : (cd != 0) = true := by simpa using h0
 have hb1 : (cd == 0) = false := by simpa using h0
 clear h0
 go_enter Tryz.func91, Tryz.ntmps91
 go_wp2_with fail
 refine (unhide CO).mono ?_
 rintro e z1 ⟨ad, cp, rfl, ho, hb⟩
 dsimp only at ho
 dsimp only
 have E1 := hide ((unhide HL).step hb)
 clear hb ho CO c33 HL
 go_upto_region 2 with fail
 refine gen_world (fun z => Lay 83 w0 w1 B c s v1 v2 vs vt z ∧ z.heap[z1.heap.size]? = some (.cells #[.slice ad L.length cp, .int .i64 cd] 172)) ?_ ?_
 ·exact ⟨(unhide E1).step ((Below.refl z1.heap.size z1).alloc (Nat.le_refl _) _), heap_alloc_new z1 _⟩
 intro z2 hz2
 generalize z1.heap.size = M at *
 have E2 := hide hz2
 obtain ⟨m0, m1⟩ := row2a hz2.2
 clear hz2 E1
 go_wp2_with fail
 go_quiet (fail)
 go_wp2
 refine bodyPost_ret (v := .tuple #[.int .i64 0, .int .i64 cd]) (by simp [results, Tryz.results91, go_sem]) rfl ⟨(unhide E2).1.step (below_drewN (Below.refl _ _) _), rfl⟩
set_option linter.unusedSimpArgs false in
set_option maxHeartbeats 8000000 in
set_option maxRecDepth 100000 in
theorem iReqYes {w0 w1 : World} {B : Nat} {c : Cx} {s : St} {v1 v2 vs vt : Value} {q : World} (h : Lay 83 w0 w1 B c s v1 v2 vs vt q) (hs : c.cd.size ≤ 250) (hE : Et q) (h0 : (oread c.cd).2 = 0) :
  Calls Tryz.prog 91 #[.pointer (some ⟨B, 0, none⟩)] q fun r q' => ∃ vh va, Lay 83 w0 w1 B { c with hd := (oread c.cd).1, vh := vh, ac := (ansF s.e (oread c.cd).1).1, ao := (ansF s.e (oread c.cd).1).2, va := va } s v1 v2 vs vt q' ∧ r = .returned (.tuple #[.int .i64 (if (ansF s.e (oread c.cd).1).1 = 2 then 6 else 7), .int .i64 0]) := by
 have CO := hide (implOptsRead c.cd q (by unfold maxLen; omega) hE)
 have hr := oread_right c.cd
 have c33 := h.cell (i := 33) rfl
 have HL := hide h
 have hBq := h.lt
 clear h hE hs
 generalize oread c.cd = OO at *
 obtain ⟨L, cd⟩ := OO
 dsimp only at h0 hr ⊢
 subst h0
 have CR : Hid (∀ (c' : Cx) (z : World) (v : Value), Lay 83 w0 w1 B c' s v1 v2 vs vt z → HoldsO z v L → Calls Tryz.prog 129 #[.pointer (some ⟨B, 0, none⟩), v] z fun r q' => ∃ v', r = .returned (.agg #[.int .i64 (ansF s.e L).1, v']) ∧ HoldsO q' v' (ansF s.e L).2 ∧ Below z.heap.size z q') := hide fun c' z v hz hv => iReplyTo hz v L hr hv
 generalize ansF s.e L = AA at *
 obtain ⟨AC, AO⟩ := AA
 dsimp only at CR ⊢
 obtain ⟨NN, hNN⟩ : ∃ NN : Int, (if AC = 2 then 6 else 7) = NN := ⟨_, rfl⟩
 rw [hNN]
 have HN := hide hNN
 clear hNN
 go_enter Tryz.func91, Tryz.ntmps91
 go_wp2_with fail
 refine (unhide CO).mono ?_
 rintro e z1 ⟨ad, cp, rfl, ho, hb⟩
 dsimp only at ho
 dsimp only
 have E1 := hide (And.intro hb ho)
 have hzB : B < z1.heap.size := Nat.lt_of_lt_of_le hBq hb.size
 clear hb ho CO c33
 go_upto_region 2 with fail
 refine gen_world (fun z => (Below q.heap.size q z ∧ z.ownsRow q.heap.size 116 2 (.slice ad L.length cp) L.length (ocells L)) ∧ z.heap[z1.heap.size]? = some (.cells #[.slice ad L.length cp, .int .i64 0] 172)) ?_ ?_
 ·have hbA := (Below.refl z1.heap.size z1).alloc (Nat.le_refl _) (.cells #[.slice ad L.length cp, .int .i64 0] 172)
  exact ⟨⟨(unhide E1).1.trans (hbA.mono (unhide E1).1.size), own_below (unhide E1).2 hbA⟩, heap_alloc_new z1 _⟩
 intro z2 hz2
 have hMB : ¬ (z1.heap.size = B) := by omega
 have hMB2 : ¬ (B = z1.heap.size) := by omega
 generalize z1.heap.size = M at *
 have E2 := hide hz2
 obtain ⟨m0, m1⟩ := row2a hz2.2
 have hL2 := (unhide HL).step hz2.1.1
 have k34 := hL2.cell (i := 34) rfl
 have f34 := hL2.frz 34
 clear hz2 E1 hL2
 go_upto_region 5 with fail
 refine gen_world (fun z => Lay 83 w0 w1 B { c with hd := L, vh := .slice ad L.length cp } s v1 v2 vs vt z ∧ z.heap[M]? = some (.cells #[.slice ad L.length cp, .int .i64 0] 172)) ?_ ?_
 ·exact ⟨(unhide HL).had9 (unhide E2).1.1 _ L (unhide E2).1.2, (Below.heap_setCell _ ⟨B, 34, none⟩ _ _ hMB).trans (unhide E2).2⟩
 clear k34 f34 m0 m1 E2 HL
 intro z3 hz3
 have E3 := hide hz3
 clear hz3
 have SY : Hid (∀ y9 : World, y9.heap[M]? = some (.cells #[.slice ad L.length cp, .int .i64 0] 172) → y9.cell? ⟨M, 0, none⟩ = some (.slice ad L.length cp)) := hide fun y9 hz => (row2a hz).1
 replace CR : Hid (∀ (z : World), Lay 83 w0 w1 B { c with hd := L, vh := .slice ad L.length cp } s v1 v2 vs vt z → Calls Tryz.prog 129 #[.pointer (some ⟨B, 0, none⟩), .slice ad L.length cp] z fun r q' => ∃ v', r = .returned (.agg #[.int .i64 AC, v']) ∧ HoldsO q' v' AO ∧ Below z.heap.size z q') := hide fun z hz => unhide CR _ z _ hz hz.hh
 have E4 : Hid (Lay 83 w0 w1 B { c with hd := L, vh := .slice ad L.length cp } s v1 v2 vs vt z3.drew ∧ z3.drew.heap[M]? = some (.cells #[.slice ad L.length cp, .int .i64 0] 172)) := hide ⟨(unhide E3).1.step (Below.refl _ _).drew, (unhide E3).2⟩
 refine wp_region_held_drew (S := fun y9 => y9.cell? ⟨M, 0, none⟩ = some (.slice ad L.length cp)) (by kernel_rfl) (unhide SY _ (unhide E4).2) (fun hHeld => ?_)
 generalize z3.drew = yy at E4 hHeld ⊢
 clear E3
 refine tk 0 (v := ?vb1_0) rfl ?hyb1_0 ?_
 case hyb1_0 => intro w hSw; (try dsimp only at hSw); go_simp; try with_reducible rfl
 try simp only [Act.put, sA, sZ, sS, gA, gZ]
 refine tk 1 (v := ?vb2_1) rfl ?hyb2_1 ?_
 case hyb2_1 => intro w hSw; (try dsimp only at hSw); go_simp; try with_reducible rfl
 try simp only [Act.put, sA, sZ, sS, gA, gZ, gS]
 refine tk 2 (v := ?vb3_2) rfl ?hyb3_2 ?_
 case hyb3_2 => intro w hSw; (try dsimp only at hSw); go_simp; try with_reducible rfl
 try simp only [Act.put, sA, sZ, sS, gA, gZ, gS]
 refine tk 3 (v := ?vb4_3) rfl ?hyb4_3 ?_
 case hyb4_3 => intro w hSw; (try dsimp only at hSw); go_simp; try with_reducible rfl
 try simp only [Act.put, sA, sZ, sS, gA, gZ, gS]
 refine tk 4 (v := ?vb5_4) rfl ?hyb5_4 ?_
 case hyb5_4 => intro w hSw; (try dsimp only at hSw); go_simp; try with_reducible rfl
 try simp only [Act.put, sA, sZ, sS, gA, gZ, gS]
 refine tk 5 (v := ?vb6_5) rfl ?hyb6_5 ?_
 case hyb6_5 => intro w hSw; (try dsimp only at hSw); go_simp; try with_reducible rfl
 try simp only [Act.put, sA, sZ, sS, gA, gZ, gS]
 refine r1 6 rfl (fun K hK => ?_)
 go_simp
 refine (unhide CR _ (unhide E4).1).mono ?_
 rintro e z31 ⟨v5, rfl, ho31, hb31⟩
 obtain ⟨xa, xc, rfl⟩ := ho31.form
 have E31 := hide (And.intro ((unhide E4).1.step hb31) ((hb31.block _ (Array.getElem?_eq_some_iff.1 (unhide E4).2).1).trans (unhide E4).2))
 have A31 := hide ho31
 clear hb31 ho31
 go_wp2_with fail
 refine hK.out _ _ (unhide SY _ (unhide E31).2) (fun _ => ?_)
 clear hK K
 try simp only [Act.put, sA, sZ, sS, gA, gZ, gS]
 refine tk 7 (v := ?vb7_7) rfl ?hyb7_7 ?_
 case hyb7_7 => intro w hSw; (try dsimp only at hSw); go_simp; try with_reducible rfl
 try simp only [Act.put, sA, sZ, sS, gA, gZ, gS]
 refine tk 8 (v := ?vb8_8) rfl ?hyb8_8 ?_
 case hyb8_8 => intro w hSw; (try dsimp only at hSw); go_simp; try with_reducible rfl
 try simp only [Act.put, sA, sZ, sS, gA, gZ, gS]
 refine r1 9 rfl (fun K hK => ?_)
 have k35 := (unhide E31).1.cell (i := 35) rfl
 have k36 := (unhide E31).1.cell (i := 36) rfl
 have f35 := (unhide E31).1.frz 35
 have f36 := (unhide E31).1.frz 36
 have ZF := hide ((unhide E31).1.ans9 AC (.slice xa AO.length xc) AO (unhide A31))
 have ZM := hide ((set2b_ot (x0 := .int .i64 AC) (x1 := .slice xa AO.length xc) (fun e => hMB (show M = B from e))).trans (unhide E31).2)
 go_simp
 clear k35 k36 f35 f36
 refine hK.out _ _ (unhide SY _ (unhide ZM)) (fun _ => ?_)
 clear hK K
 try simp only [Act.put, sA, sZ, sS, gA, gZ, gS]
 refine wpAnyH_done (by kernel_rfl) ?_ _
 go_upto_region 6 with fail
 refine gen_world (Lay 83 w0 w1 B { c with hd := L, vh := .slice ad L.length cp, ac := AC, ao := AO, va := .slice xa AO.length xc } s v1 v2 vs vt) (unhide ZF) ?_
 intro z9 hz9
 have E9 := hide hz9
 have k35 := hz9.cell (i := 35) rfl
 clear hz9 ZF ZM CR SY
 by_cases ha : AC = 2
 ·rw [if_pos ha] at HN
  have hb2 : (AC == 2) = true := by simpa using ha
  clear ha
  go_wp2
  refine bodyPost_ret (v := .tuple #[.int .i64 6, .int .i64 0]) (by simp [results, Tryz.results91, go_sem]) rfl ?_
  exact ⟨⟨_, _, unhide E9⟩, by rw [← unhide HN]⟩
 ·rw [if_neg ha] at HN
  have hb2 : (AC == 2) = false := by simpa using ha
  clear ha
  go_wp2
  refine bodyPost_ret (v := .tuple #[.int .i64 7, .int .i64 0]) (by simp [results, Tryz.results91, go_sem]) rfl ?_
  exact ⟨⟨_, _, unhide E9⟩, by rw [← unhide HN]⟩
end Go.Proofs.YtahpjlbaagkdoaaGreatDoor
namespace Go.Proofs.YtahpjlbaagkdoaaGreatDoor
open Go.RowKit
structure CfS (w : World) (M : Nat) (x : Cf) (q : World) : Prop where
 x : q.heap[w.heap.size]? = some (.cells (cfC x) 24)
 r : q.heap[w.heap.size + 1]? = some (.cells #[.int .i64 0, .int .i64 0, .int .i64 0, .bool false, .bool false, .bool false] 24)
 m : q.heap[M]? = some (.map rules 6)
 b : Below w.heap.size w q
theorem CfS.step {w : World} {M : Nat} {x : Cf} {q q' : World} (h : CfS w M x q) (hb : Below q.heap.size q q') : CfS w M x q' :=
 ⟨(hb.block _ (Array.getElem?_eq_some_iff.1 h.x).1).trans h.x, (hb.block _ (Array.getElem?_eq_some_iff.1 h.r).1).trans h.r, (hb.block _ (Array.getElem?_eq_some_iff.1 h.m).1).trans h.m, h.b.trans (hb.mono h.b.size)⟩
theorem set6_other {W : World} {E g : Nat} (hg : g ≠ E) (x0 x1 x2 x3 x4 x5 : Value) : ((((((W.setCell ⟨E, 0, none⟩ x0).setCell ⟨E, 1, none⟩ x1).setCell ⟨E, 2, none⟩ x2).setCell ⟨E, 3, none⟩ x3).setCell ⟨E, 4, none⟩ x4).setCell ⟨E, 5, none⟩ x5).heap[g]? = W.heap[g]? := by
 rw [Below.heap_setCell _ _ _ _ hg, Below.heap_setCell _ _ _ _ hg, Below.heap_setCell _ _ _ _ hg, Below.heap_setCell _ _ _ _ hg, Below.heap_setCell _ _ _ _ hg, Below.heap_setCell _ _ _ _ hg]
theorem CfS.put {w : World} {M : Nat} {x : Cf} {q : World} (h : CfS w M x q) (h2 : w.heap.size + 1 < M) (y : Cf) :
  CfS w M y ((((((q.setCell ⟨w.heap.size, 0, none⟩ (.int .i64 y.m)).setCell ⟨w.heap.size, 1, none⟩ (.int .i64 y.a)).setCell ⟨w.heap.size, 2, none⟩ (.int .i64 y.g)).setCell ⟨w.heap.size, 3, none⟩ (.bool y.p)).setCell ⟨w.heap.size, 4, none⟩ (.bool y.c)).setCell ⟨w.heap.size, 5, none⟩ (.bool y.d)) :=
 ⟨set6_at h.x _ _ _ _ _ _, (set6_other (by omega) _ _ _ _ _ _).trans h.r, (set6_other (by omega) _ _ _ _ _ _).trans h.m, set6_below h.b (Nat.le_refl _) _ _ _ _ _ _⟩
theorem row6g {w : World} {B : Nat} {x0 x1 x2 x3 x4 x5 : Value} {T : TypeId} (h : w.heap[B]? = some (.cells #[x0, x1, x2, x3, x4, x5] T)) :
  w.frozen? ⟨B, 0, none⟩ = false ∧ w.frozen? ⟨B, 1, none⟩ = false ∧ w.frozen? ⟨B, 2, none⟩ = false ∧ w.frozen? ⟨B, 3, none⟩ = false ∧ w.frozen? ⟨B, 4, none⟩ = false ∧ w.frozen? ⟨B, 5, none⟩ = false := ⟨frz h _, frz h _, frz h _, frz h _, frz h _, frz h _⟩
set_option maxHeartbeats 8000000 in
set_option maxRecDepth 100000 in
theorem implWithout (x : Cf) (v : Value) (F : List Op.Opt) (w : World) (hx : okC x = true) (hr : Op.right F = true) (h : HoldsO w v F) :
  Calls Tryz.prog 131 #[.agg (cfC x), v] w fun e w' => e = .returned (.agg (cfC (woF x F))) ∧ Below w.heap.size w w' := by
 have hFl := Op.right_len hr
 have C0 := hide fun W => implCfg (x.m : Int) x.a x.g x.p x.c x.d W
 have C1 := hide fun W (hb : Below w.heap.size w W) => implRightAll v F W (by unfold maxLen; omega) (h.below hb rfl)
 rw [show cfgOk (x.m : Int) x.a x.g = true from hx] at C0
 rw [hr] at C1
 have HFO := hide (Op.right_all hr)
 have HAT := hide fun i hi => h.at i hi
 obtain ⟨ad, cp, rfl⟩ := h.form
 obtain ⟨n, hn⟩ : ∃ n, F.length = n := ⟨_, rfl⟩
 obtain ⟨_, hA, hR, hb⟩ := start2r w (.cells (cfC x) 24) (.cells #[.int .i64 0, .int .i64 0, .int .i64 0, .bool false, .bool false, .bool false] 24)
 have H0 := hide (And.intro hA (And.intro hR hb))
 have d0 : ¬ ((400 : Int) < (n : Int)) := by omega
 clear h hr hA hR hb
 have HTL : Hid (F.take n = F) := hide (List.take_of_length_le (by omega))
 obtain ⟨R, hR⟩ : ∃ R, woF x F = R := ⟨_, rfl⟩
 rw [hR]
 have HR := hide hR
 clear hR
 have hx0 : woF x (F.take 0) = x := rfl
 rw [hn] at C1 ⊢
 go_enter Tryz.func131, Tryz.ntmps131
 go_wp2_with fail
 refine (unhide C0 _).mono ?_
 rintro e w1 ⟨rfl, hb1⟩
 have hA1 := (hb1.block w.heap.size (by simp; omega)).trans (unhide H0).1
 have hR1 := (hb1.block (w.heap.size + 1) (by simp)).trans (unhide H0).2.1
 have hB1 := (unhide H0).2.2.trans (hb1.mono (unhide H0).2.2.size)
 have H1 := hide (And.intro hA1 (And.intro hR1 hB1))
 clear hA1 hR1 hB1 hb1 H0 C0
 go_wp2_with fail
 refine (unhide C1 _ (unhide H1).2.2).mono ?_
 rintro e w2 ⟨rfl, hb2⟩
 have hA2 := (hb2.block w.heap.size (Array.getElem?_eq_some_iff.1 (unhide H1).1).1).trans (unhide H1).1
 have hR2 := (hb2.block (w.heap.size + 1) (Array.getElem?_eq_some_iff.1 (unhide H1).2.1).1).trans (unhide H1).2.1
 have hB2 := (unhide H1).2.2.trans (hb2.mono (unhide H1).2.2.size)
 have H2 := hide (And.intro hA2 (And.intro hR2 hB2))
 clear hA2 hR2 hB2 hb2 H1 C1
 go_wp2_with fail
 refine (optionRules _).mono ?_
 rintro e w3 ⟨rfl, hm3, hb3⟩
 have hI : CfS w w2.heap.size (woF x (F.take 0)) w3 := by
  have hl1 := (Array.getElem?_eq_some_iff.1 (unhide H2).1).1
  have hl2 := (Array.getElem?_eq_some_iff.1 (unhide H2).2.1).1
  rw [hx0]
  exact ⟨(hb3.block _ hl1).trans (unhide H2).1, (hb3.block _ hl2).trans (unhide H2).2.1, hm3, (unhide H2).2.2.trans (hb3.mono (unhide H2).2.2.size)⟩
 have hM : w.heap.size + 1 < w2.heap.size := (Array.getElem?_eq_some_iff.1 (unhide H2).2.1).1
 have HI := hide hI
 clear hI hm3 hb3 H2 hx0 hx
 go_wp2_with fail
 generalize w2.heap.size = M at *
 go_loopw [26] (fun y wr => ∃ i : Nat, i ≤ n ∧ y = .int .i64 i ∧ CfS w M (woF x (F.take i)) wr) (fun y _ => n - (intOf y).toNat)
 case atStart => exact ⟨0, Nat.zero_le _, rfl, unhide HI⟩
 case round =>
  obtain ⟨i, hi, rfl, hS⟩ := hrel
  clear HI
  by_cases hlt : i < n
  ·have d1 : (i : Int) < (n : Int) := by omega
   have d2 : (0 : Int) ≤ (i : Int) := by omega
   obtain ⟨g, ⟨cp2, e2⟩, hgl, k0, k1⟩ := unhide HAT i (by omega)
   cases e2
   replace k0 := (hS.b.cell (p := ⟨g, i * 2, none⟩) hgl).trans k0
   replace k1 := (hS.b.cell (p := ⟨g, i * 2 + 1, none⟩) hgl).trans k1
   have HSN := hide (woF_snoc x F i (by omega))
   have hok := unhide HFO _ (List.getElem_mem (show i < F.length by omega))
   generalize F[i]'(by omega) = o at *
   obtain ⟨kd, dt⟩ := o
   dsimp only at k0 k1
   generalize woF x (F.take i) = y at *
   have hds : dt.size ≤ 20 := by unfold Op.ok at hok; have := of_decide_eq_true hok; exact this.2.2
   have HS := hide hS
   clear hS HAT HFO hok
   go_upto_region 9 with fail
   refine gen_world (fun q => CfS w M y q ∧ q.heap[wr.heap.size]? = some (.cells #[.int .i64 kd, .string dt] 116))
    ⟨(unhide HS).step ((Below.refl _ _).alloc (Nat.le_refl _) _), heap_alloc_new wr _⟩ ?_
   rintro q1 ⟨hS1, hO1⟩
   have hN1 : M < wr.heap.size := (Array.getElem?_eq_some_iff.1 (unhide HS).m).1
   generalize wr.heap.size = N1 at *
   have hl1 : N1 < q1.heap.size := (Array.getElem?_eq_some_iff.1 hO1).1
   obtain ⟨c0, c1, _, _⟩ := row2x hO1
   have HV1 := hide (And.intro hS1 hO1)
   clear hO1 HS k0 k1
   rcases cf_row kd with ⟨s, f, f2, f3, f4, f5, j, hs, hJ⟩ | ⟨hs, hwo, hf⟩
   ·have hlk := look2_at q1 M rules 6 j kd _ hS1.m hJ.fd
    have hcf := hJ.cf4
    have HJ2 := hide fun v => hJ.wo y v
    clear hS1 hJ
    go_upto_region 10 with fail
    refine gen_world (fun q => CfS w M y q ∧ q.heap[q1.heap.size]? = some (.cells #[.int .i64 s, fnV f, fnV f2, fnV f3, fnV f4, fnV f5] 185))
     ⟨(unhide HV1).1.step ((Below.refl _ _).alloc (Nat.le_refl _) _), heap_alloc_new q1 _⟩ ?_
    rintro q4 ⟨hS4, hR4⟩
    obtain ⟨_, _, _, _, r4, _⟩ := row6 hR4
    obtain ⟨m0, m1, m2, m3, m4, m5⟩ := row6 hS4.x
    have HV4 := hide hS4
    clear hS4 hR4 HV1 c0 c1 hlk
    go_wp2_with fail
    refine (unhide HJ2 _).mono ?_
    rintro e w6 ⟨rfl, hb6⟩
    have h6 := (unhide HV4).step hb6
    clear m0 m1 m2 m3 m4 m5
    obtain ⟨m0, m1, m2, m3, m4, m5⟩ := row6 h6.x
    obtain ⟨f0', f1', f2', f3', f4', f5'⟩ := row6g h6.x
    have HL := hide (h6.put hM (woK kd y))
    clear h6 hb6 HV4
    go_wp2_with fail
    go_roundw
    case rel => exact ⟨i + 1, by omega, by go_num, by rw [unhide HSN]; exact unhide HL⟩
    case measure => simp [intOf]; omega
   ·have hlk := look2_no q1 M rules 6 kd hS1.m hf
    clear hS1 hf
    go_wp2_with fail
    go_roundw
    case rel => exact ⟨i + 1, by omega, by go_num, by rw [unhide HSN, hwo]; exact (unhide HV1).1.step ((Below.refl _ _).alloc (Nat.le_refl _) _)⟩
    case measure => simp [intOf]; omega
  ·have e : i = n := by omega
   subst e
   have d1 : ¬ ((i : Int) < (i : Int)) := by omega
   rw [unhide HTL, unhide HR] at hS
   obtain ⟨m0, m1, m2, m3, m4, m5⟩ := row6 hS.x
   obtain ⟨r0, r1, r2, r3, r4, r5⟩ := row6 hS.r
   obtain ⟨f0, f1, f2, f3, f4, f5⟩ := row6g hS.r
   have HS := hide hS
   clear hS HAT HFO HTL HR
   go_wp2
   exact bodyPost_ret (v := .agg (cfC R)) (by simp [results, Tryz.results131, asAddr, loadC (set6_at (unhide HS).r (.int .i64 R.m) (.int .i64 R.a) (.int .i64 R.g) (.bool R.p) (.bool R.c) (.bool R.d))]) rfl ⟨rfl, set6_below (unhide HS).b (by omega) _ _ _ _ _ _⟩
end Go.Proofs.YtahpjlbaagkdoaaGreatDoor
