/- What was found is laid by copy into new memory (told): the walk; what lay in memory stands. -/
import Derived.Test.YtillpfcldehfdaaDoorDfr
import Derived.Deep.RegionHeld
namespace Go.Proofs.YtillpfcldehfdaaDoor
open Go.RowKit
/-- The cells of what is found. -/
def fcells (fs : List Hd.Fd) : List Value := fs.flatMap fun f => [.int .i64 f.kind, .string (txt f.text)]
theorem fcells_len (fs : List Hd.Fd) : (fcells fs).length = fs.length * 2 := by
  induction fs with
  | nil => rfl
  | cons f fs ih => simp [fcells] at ih ⊢; omega
theorem fcells_append (fs gs : List Hd.Fd) : fcells (fs ++ gs) = fcells fs ++ fcells gs := by simp [fcells]
theorem fcells_one (fs : List Hd.Fd) : ∀ v ∈ fcells fs, v.oneCell' = true := by
  intro v hv
  simp only [fcells, List.mem_flatMap, List.mem_cons, List.not_mem_nil, or_false] at hv
  obtain ⟨f, _, h | h⟩ := hv <;> subst h <;> rfl
theorem fcells_get (fs : List Hd.Fd) (i : Nat) (f : Hd.Fd) (h : fs[i]? = some f) : (fcells fs)[i * 2]? = some (.int .i64 f.kind) ∧ (fcells fs)[i * 2 + 1]? = some (.string (txt f.text)) := by
  induction fs generalizing i with
  | nil => simp at h
  | cons d fs ih =>
    cases i with
    | zero =>
      simp at h
      subst h
      exact ⟨rfl, rfl⟩
    | succ i =>
      have := ih i (by simpa using h)
      have e : fcells (d :: fs) = .int .i64 d.kind :: .string (txt d.text) :: fcells fs := rfl
      rw [e, show (i + 1) * 2 = i * 2 + 2 by omega]
      exact this
theorem fcells_cell (fs : List Hd.Fd) (j : Nat) (v : Value) (h : (fcells fs)[j]? = some v) : ∃ i f, fs[i]? = some f ∧ ((j = i * 2 ∧ v = .int .i64 f.kind) ∨ (j = i * 2 + 1 ∧ v = .string (txt f.text))) := by
  have hj : j < fs.length * 2 := by rw [← fcells_len]; exact get_lt h
  have hi : j / 2 < fs.length := by omega
  have g := fcells_get fs (j / 2) fs[j / 2] (List.getElem?_eq_getElem hi)
  refine ⟨j / 2, fs[j / 2], List.getElem?_eq_getElem hi, ?_⟩
  rcases Nat.mod_two_eq_zero_or_one j with e | e
  · left
    have ej : j / 2 * 2 = j := by omega
    rw [ej] at g
    exact ⟨ej.symm, Option.some.inj (h.symm.trans g.1)⟩
  · right
    have ej : j / 2 * 2 + 1 = j := by omega
    rw [ej] at g
    exact ⟨ej.symm, Option.some.inj (h.symm.trans g.2)⟩
theorem finfo : ∃ i, Tryd.prog.info? 44 = some i ∧ i.zero = some (.agg #[.int .i64 0, .string ⟨#[]⟩]) ∧ i.size = 2 ∧ i.bytes = 24 := by
  have h : (Tryd.prog.info? 44).map (fun i => (i.zero, i.size, i.bytes)) = some (some (.agg #[.int .i64 0, .string ⟨#[]⟩]), 2, 24) := by kernel_rfl
  obtain ⟨i, hi, hzz⟩ := Option.map_eq_some_iff.1 h
  simp only [Prod.mk.injEq] at hzz
  exact ⟨i, hi, hzz.1, hzz.2.1, hzz.2.2⟩
/-- copy, of elements of any size. -/
theorem run_copy_sz {P : Program} (w : World) (dT sT ty elem : TypeId) (b o dLen dCap : Nat) (a : Addr) (sLen sCap n size : Nat) (cs : List Value)
    (hu : P.underlying dT = some (.slice elem)) (hs : (P.info? elem).map (·.size) = some size) (hn : Nat.min sLen dLen = n) (hl : cs.length = n * size)
    (hsrc : ∀ j v, cs[j]? = some v → w.cell? (a.add j) = some v) (hc : ∀ j, j < cs.length → (w.cell? ⟨b, o + j, none⟩).isSome = true) (hf : ∀ j, j < cs.length → w.frozen? ⟨b, o + j, none⟩ = false) (h1 : ∀ v ∈ cs, v.oneCell' = true) :
    (Builtin.copy_ #[dT, sT] ty #[.slice (some ⟨b, o, none⟩) dLen dCap, .slice (some a) sLen sCap]).run P w = .ok (goInt n) (w.setCells b o cs) := by
  have hld := run_loadCells_list (P := P) w a cs hsrc
  have hst := run_storeCells_cells (P := P) b o cs 0 w (by simpa using hc) (by simpa using hf) h1
  rw [hl] at hld
  cases hq : P.info? elem with
  | none => simp [hq] at hs
  | some i =>
    have hi : i.size = size := by simpa [hq] using hs
    simp [Builtin.copy_, run_underlying hu, Builtin.lenOf, Builtin.firstCells, sizeOf, typeInfo, hq, hi, hn, hld, hst]
/-- The row behind a store of many cells. -/
def setAll (cs : Array Value) : Nat → List Value → Array Value
  | _, [] => cs
  | o, v :: r => setAll (cs.setIfInBounds o v) (o + 1) r
theorem setAll_size (vs : List Value) : ∀ (cs : Array Value) (o : Nat), (setAll cs o vs).size = cs.size := by
  induction vs with
  | nil => intro cs o; rfl
  | cons v r ih => intro cs o; rw [setAll, ih, Array.size_setIfInBounds]
theorem heap_setAll (b : Nat) (T : TypeId) (vs : List Value) : ∀ (w : World) (cs : Array Value) (o : Nat), w.heap[b]? = some (.cells cs T) → (w.setCells b o vs).heap[b]? = some (.cells (setAll cs o vs) T) := by
  induction vs with
  | nil => intro w cs o h; exact h
  | cons v r ih => intro w cs o h; exact ih _ _ _ (heap_setCell_same w b o cs T v h)
theorem setAll_get (vs : List Value) : ∀ (cs : Array Value) (o j : Nat), o + vs.length ≤ cs.size → (setAll cs o vs)[j]? = if o ≤ j ∧ j < o + vs.length then vs[j - o]? else cs[j]? := by
  induction vs with
  | nil => intro cs o j _; rw [if_neg (by simp)]; rfl
  | cons v r ih =>
    intro cs o j h
    simp only [List.length_cons] at h
    rw [setAll, ih _ _ _ (by rw [Array.size_setIfInBounds]; omega)]
    simp only [List.length_cons]
    by_cases h1 : o + 1 ≤ j ∧ j < o + 1 + r.length
    · rw [if_pos h1, if_pos (by omega), show j - o = (j - (o + 1)) + 1 by omega]
      rfl
    · rw [if_neg h1]
      by_cases h2 : j = o
      · subst h2
        rw [if_pos (by omega), set_eq (by omega), Nat.sub_self]
        rfl
      · rw [if_neg (by omega), set_ne (by omega)]
theorem near_setCells (b : Nat) (vs : List Value) : ∀ (a w : World) (o : Nat), Near b a w → Near b a (w.setCells b o vs) := by
  induction vs with
  | nil => intro a w o h; exact h
  | cons v r ih => intro a w o h; exact ih _ _ _ (h.setCell o v)
set_option maxHeartbeats 1000000 in
theorem told (w : World) (B g : Nat) (wide long : Bool) (held : List UInt8) (fs : List Hd.Fd) (h : Dw w B g wide long held fs) :
    Calls Tryd.prog 59 #[.pointer (some ⟨B, 0, none⟩)] w fun e w' => ∃ v, e = .returned v ∧ w'.ownsRow w.heap.size 44 2 v fs.length (fcells fs) ∧ Below w.heap.size w w' := by
  have hBw := h.lt
  obtain ⟨cs, hB, hd⟩ := h
  obtain ⟨fi, hi1, hi2, hi3, hi4⟩ := finfo
  have e2 : w.cell? ⟨B, 1108, none⟩ = some (.int .i64 fs.length) := by rw [cell_of_row _ _ _ _ _ _ hB]; exact hd.cn
  have hl := hd.fl
  have HB := hide hB
  have HD := hide hd
  clear hB hd
  go_enter Tryd.func59, Tryd.ntmps59
  go_wp2_with (first
    | (at_make; refine wpList_make_full w rfl _ _ 39 rfl w.heap.size 44 fi _ 2 Tryd.underlying39 hi1 hi2 hi3 .i64 .i64 _ _ fs.length rfl rfl rfl rfl (by rw [hi4]; omega) (by unfold maxLen; omega) (Nat.le_refl _) ?_; rintro w1 ho1 hg1; have HO1 := hide ho1; have HG1 := hide hg1; clear ho1 hg1))
  have hb1 : Below w.heap.size w w1 := (Below.refl _ _).grown (unhide HG1) (Nat.le_refl _) (fun k hk => by cases hk)
  have hB1 : w1.heap[B]? = some (.cells cs 84) := (hb1.block B hBw).trans (unhide HB)
  have e3 : w1.cell? ⟨B, 1108, none⟩ = some (.int .i64 fs.length) := by rw [cell_of_row _ _ _ _ _ _ hB1]; exact (unhide HD).cn
  obtain ⟨cur, hc1, hc2⟩ : ∃ cur, w1.heap[w.heap.size]? = some (.cells cur 44) ∧ cur.size = fs.length * 2 := by
    rcases (unhide HO1).2 with ⟨k, _⟩ | ⟨g', cap, cur, k1, _, k3, _, _, k6, _⟩
    · cases k
    · simp only [Value.slice.injEq, Option.some.injEq, Addr.mk.injEq, true_and, and_true] at k1
      obtain ⟨rfl, rfl⟩ := k1
      exact ⟨cur, k3, k6⟩
  have hcp : (Builtin.copy_ #[39, 39] 3 #[.slice (some ⟨w.heap.size, 0, none⟩) fs.length fs.length, .slice (some ⟨B, 308, none⟩) fs.length 400]).run Tryd.prog w1.drew = .ok (goInt fs.length) (w1.drew.setCells w.heap.size 0 (fcells fs)) := by
    refine run_copy_sz w1.drew 39 39 _ 44 w.heap.size 0 _ _ ⟨B, 308, none⟩ _ _ fs.length 2 (fcells fs) Tryd.underlying39 (by rw [hi1]; simp [hi3]) (Nat.min_self _) (fcells_len fs) ?_ ?_ ?_ (fcells_one fs)
    · intro j v hv
      rw [Addr.add_lit]
      show w1.cell? _ = _
      rw [cell_of_row _ _ _ _ _ _ hB1]
      obtain ⟨i, f, hf, (⟨rfl, rfl⟩ | ⟨rfl, rfl⟩)⟩ := fcells_cell fs j v hv
      · exact (unhide HD).fk i f hf
      · exact (unhide HD).ft i f hf
    · intro j hj
      rw [fcells_len] at hj
      show (w1.cell? _).isSome = true
      rw [cell_of_row _ _ _ _ _ _ hc1, Nat.zero_add, Array.getElem?_eq_getElem (by omega)]
      rfl
    · intro j hj
      exact frz (w := w1) hc1 _
  have hle : (fs.length : Int) ≤ 400 := by omega
  have HC1 := hide hc1
  clear hB1 hc1
  go_region
  go_wp2
  go_ret
  have hs0 : 0 + (fcells fs).length ≤ cur.size := by rw [fcells_len, hc2]; omega
  have hbE := heap_setAll w.heap.size 44 (fcells fs) w1.drew cur 0 (unhide HC1)
  have hN : Near w.heap.size w1 (w1.drew.setCells w.heap.size 0 (fcells fs)) := near_setCells _ _ _ _ _ (Near.refl _ _).drew
  refine ⟨_, rfl, ⟨by rw [fcells_len], Or.inr ⟨w.heap.size, fs.length, _, rfl, Nat.le_refl _, hbE, Nat.le_refl _, by unfold maxLen; omega, by rw [setAll_size, hc2], ?_⟩⟩, hb1.trans (hN.below (Nat.le_refl _) hb1.size)⟩
  apply List.ext_getElem?
  intro j
  rw [List.getElem?_take, Array.getElem?_toList, setAll_get _ _ _ _ hs0, fcells_len]
  by_cases hj : j < fs.length * 2
  · rw [if_pos hj, if_pos (by omega), Nat.sub_zero]
  · rw [if_neg hj, List.getElem?_eq_none (by rw [fcells_len]; omega)]
end Go.Proofs.YtillpfcldehfdaaDoor
