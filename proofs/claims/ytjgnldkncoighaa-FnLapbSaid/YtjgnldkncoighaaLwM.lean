/- The map of texts that were sent, by their numbers: what it holds; put, looked up, deleted, cleared, counted; no condition but those named. -/
import Derived.Test.YtjgnldkncoighaaNb
import Derived.MapKept
namespace Go.Proofs.Ytjgnldkncoighaa
open Go.RowKit
/-- What the map holds: texts by their numbers, from a number on. -/
def sentL : Int → List ByteArray → List (Value × Value)
  | _, [] => []
  | a, t :: S => (.int .i64 a, .agg #[.string t]) :: sentL ((a + 1) % 8) S
theorem sentL_len (a : Int) (S : List ByteArray) : (sentL a S).length = S.length := by
  induction S generalizing a with
  | nil => rfl
  | cons t S ih => simp [sentL, ih]
theorem sentL_snoc (a : Int) (S : List ByteArray) (t : ByteArray) (ha : 0 ≤ a ∧ a ≤ 7) : sentL a (S ++ [t]) = sentL a S ++ [(.int .i64 ((a + S.length) % 8), .agg #[.string t])] := by
  induction S generalizing a with
  | nil =>
    simp [sentL]
    omega
  | cons u S ih =>
    show (_ :: sentL _ (S ++ [t])) = _
    rw [ih ((a + 1) % 8) (by omega)]
    simp [sentL]
    omega
/-- A key, looked for among pairs. -/
def findP (k : Int) : List (Value × Value) → Nat → Option (Option (Nat × Value))
  | [], _ => some none
  | (x, v) :: ps, i =>
    match Instr.sameNow (.int .i64) (.int .i64 k) x with
    | some true => some (some (i, v))
    | some false => findP k ps (i + 1)
    | none => none
theorem find_pairs (k : Int) (es : List MapEntry) (i : Nat) : Instr.findNow (.int .i64) (.int .i64 k) es i = findP k (es.map fun e => (e.key, e.val)) i := by
  induction es generalizing i with
  | nil => rfl
  | cons e es ih =>
    show (match Instr.sameNow (.int .i64) (.int .i64 k) e.key with | some true => _ | some false => _ | none => _) = _
    simp only [List.map_cons, findP]
    rw [ih]
theorem find_no (k a : Int) (S : List ByteArray) (i : Nat) (_ha : 0 ≤ a ∧ a ≤ 7) (hk : k = (a + S.length) % 8) (hS : S.length ≤ 7) : ∀ (T : List ByteArray) (d : Nat), T.length + d = S.length → findP k (sentL ((a + d) % 8) T) i = some none := by
  intro T
  induction T generalizing i with
  | nil => intro d _; rfl
  | cons t T ih =>
    intro d hd
    rw [List.length_cons] at hd
    have hne : ¬ (k = (a + d) % 8) := by omega
    simp only [sentL, findP, Instr.sameNow]
    rw [show (k == (a + (d : Int)) % 8) = false from beq_eq_false_iff_ne.2 hne]
    have := ih (i + 1) (d + 1) (by omega)
    rw [show ((a + ((d + 1 : Nat) : Int)) % 8) = ((a + (d : Int)) % 8 + 1) % 8 by omega] at this
    exact this
theorem find_at (a : Int) (ha : 0 ≤ a ∧ a ≤ 7) : ∀ (S : List ByteArray) (j i : Nat) (hj : j < S.length), S.length ≤ 8 → findP ((a + j) % 8) (sentL a S) i = some (some (i + j, .agg #[.string S[j]])) := by
  intro S j
  induction j generalizing a S with
  | zero =>
    intro i hj _
    cases S with
    | nil => simp at hj
    | cons t S =>
      simp only [sentL, findP, Instr.sameNow]
      rw [show ((a + ((0 : Nat) : Int)) % 8 == a) = true from beq_iff_eq.2 (by omega)]
      rfl
  | succ j ih =>
    intro i hj h8
    cases S with
    | nil => simp at hj
    | cons t S =>
      rw [List.length_cons] at hj h8
      simp only [sentL, findP, Instr.sameNow]
      rw [show ((a + ((j + 1 : Nat) : Int)) % 8 == a) = false from beq_eq_false_iff_ne.2 (by omega)]
      have := ih ((a + 1) % 8) (by omega) S (i + 1) (by omega) (by omega)
      rw [show (((a + 1) % 8 + (j : Int)) % 8) = ((a + ((j + 1 : Nat) : Int)) % 8) by omega] at this
      rw [show i + (j + 1) = i + 1 + j by omega]
      exact this
/-- The map's block holds these texts by their numbers. -/
def MapH (w : World) (M : Nat) (a : Int) (S : List ByteArray) : Prop := ∃ es c, w.heap[M]? = some (.map es c) ∧ es.toList.map (fun e => (e.key, e.val)) = sentL a S
/-- A block set. -/
def putB (w : World) (M : Nat) (o : Obj) : World := { w with heap := w.heap.setIfInBounds M o }
theorem putB_at {w : World} {M : Nat} {o o' : Obj} (h : w.heap[M]? = some o') : (putB w M o).heap[M]? = some o := by
  have := (Array.getElem?_eq_some_iff.1 h).1
  simp [putB, this]
theorem putB_other (w : World) (M k : Nat) (o : Obj) (h : k ≠ M) : (putB w M o).heap[k]? = w.heap[k]? := by
  simp only [putB]
  rw [Array.getElem?_setIfInBounds, if_neg (fun e => h e.symm)]
theorem putB_size (w : World) (M : Nat) (o : Obj) : (putB w M o).heap.size = w.heap.size := by simp [putB]
theorem putB_below {n : Nat} {w w' : World} {M : Nat} (h : Below n w w') (hM : n ≤ M) (o : Obj) : Below n w (putB w' M o) :=
  ⟨h.os, h.tape, h.output, by rw [putB_size]; exact h.size, fun b hb => (putB_other _ _ _ _ (by omega)).trans (h.block b hb)⟩
theorem MapH.len {w : World} {M : Nat} {a : Int} {S : List ByteArray} (h : MapH w M a S) (ty : TypeId) : (Builtin.len_ #[57] ty #[.map (some M)]).run Try.prog w = .ok (.int .i64 (S.length : Int)) w := by
  obtain ⟨es, c, h1, h2⟩ := h
  have hs : es.size = S.length := by rw [← sentL_len a S, ← h2]; simp
  unfold Builtin.len_
  simp [run_underlying Try.underlying57, MapKept.run_getObj_map h1, Result.andThen, hs]
  rfl
theorem MapH.put {w : World} {M : Nat} {a : Int} {S : List ByteArray} (h : MapH w M a S) (ha : 0 ≤ a ∧ a ≤ 7) (hS : S.length ≤ 7) (t : ByteArray) :
    ∃ o, (Instr.mapUpdate 57 (.map (some M)) (.int .i64 ((a + S.length) % 8)) (.agg #[.string t])).run Try.prog w = .ok () (putB w M o) ∧ MapH (putB w M o) M a (S ++ [t]) := by
  obtain ⟨es, c, h1, h2⟩ := h
  have hf : Instr.findNow (.int .i64) (.int .i64 ((a + S.length) % 8)) es.toList 0 = some none := by
    rw [find_pairs, h2]
    have := find_no ((a + S.length) % 8) a S 0 ha rfl hS S 0 (by omega)
    rw [show (a + ((0 : Nat) : Int)) % 8 = a by omega] at this
    exact this
  refine ⟨.map (es.push { key := .int .i64 ((a + S.length) % 8), val := .agg #[.string t], born := c }) (c + 1), ?_, _, _, putB_at h1, ?_⟩
  · unfold Instr.mapUpdate
    simp only [Sem.run_bind, run_underlying Try.underlying57, MapKept.run_getObj_map h1, MapKept.run_checkKey Try.underlying2 (d := .int .i64) (k := .int .i64 ((a + S.length) % 8)) (by trivial), MapKept.run_findKey Try.underlying2 hf, MapKept.run_setObj_map _ h1, Result.andThen]
    rfl
  · rw [sentL_snoc a S t ha, ← h2]
    simp
theorem MapH.look {w : World} {M : Nat} {a : Int} {S : List ByteArray} (h : MapH w M a S) (ha : 0 ≤ a ∧ a ≤ 7) (hS : S.length ≤ 8) (j : Nat) (hj : j < S.length) :
    (Instr.lookup 57 (.map (some M)) (.int .i64 ((a + j) % 8)) false).run Try.prog w = .ok (.agg #[.string S[j]]) w := by
  obtain ⟨es, c, h1, h2⟩ := h
  have hf : Instr.findNow (.int .i64) (.int .i64 ((a + j) % 8)) es.toList 0 = some (some (0 + j, .agg #[.string S[j]])) := by
    rw [find_pairs, h2]
    exact find_at a ha S j 0 hj hS
  unfold Instr.lookup
  simp only [Sem.run_bind, Sem.run_pure, run_underlying Try.underlying57, MapKept.run_getObj_map h1, MapKept.run_checkKey Try.underlying2 (d := .int .i64) (k := .int .i64 ((a + j) % 8)) (by trivial), MapKept.run_findKey Try.underlying2 hf, Result.andThen]
  rfl
theorem MapH.del {w : World} {M : Nat} {a : Int} {t : ByteArray} {S : List ByteArray} (h : MapH w M a (t :: S)) (ty : TypeId) :
    ∃ o, (Builtin.delete_ #[57, 2] ty #[.map (some M), .int .i64 a]).run Try.prog w = .ok (.tuple #[]) (putB w M o) ∧ MapH (putB w M o) M ((a + 1) % 8) S := by
  obtain ⟨es, c, h1, h2⟩ := h
  have hf : Instr.findNow (.int .i64) (.int .i64 a) es.toList 0 = some (some (0, .agg #[.string t])) := by
    rw [find_pairs, h2]
    simp only [sentL, findP, Instr.sameNow]
    rw [show (a == a) = true from beq_self_eq_true _]
    rfl
  refine ⟨.map (es.eraseIdxIfInBounds 0) c, ?_, _, _, putB_at h1, ?_⟩
  · unfold Builtin.delete_
    simp [run_underlying Try.underlying57, MapKept.run_getObj_map h1, MapKept.run_checkKey Try.underlying2 (d := .int .i64) (k := .int .i64 a) (by trivial), MapKept.run_findKey Try.underlying2 hf, MapKept.run_setObj_map _ h1, Result.andThen, putB]
  · obtain ⟨l⟩ := es
    cases l with
    | nil => simp [sentL] at h2
    | cons e l =>
      simp [sentL] at h2
      simp [Array.eraseIdxIfInBounds]
      exact h2.2
theorem MapH.clear {w : World} {M : Nat} {a : Int} {S : List ByteArray} (h : MapH w M a S) (a' : Int) (ty : TypeId) :
    ∃ o, (Builtin.clear_ #[57] ty #[.map (some M)]).run Try.prog w = .ok (.tuple #[]) (putB w M o) ∧ MapH (putB w M o) M a' [] := by
  obtain ⟨es, c, h1, h2⟩ := h
  refine ⟨.map #[] c, ?_, _, _, putB_at h1, rfl⟩
  unfold Builtin.clear_
  simp [run_underlying Try.underlying57, MapKept.run_getObj_map h1, MapKept.run_setObj_map _ h1, Result.andThen, putB]
theorem MapH.other {w w' : World} {M : Nat} {a : Int} {S : List ByteArray} (h : MapH w M a S) (hw : w'.heap[M]? = w.heap[M]?) : MapH w' M a S := by
  obtain ⟨es, c, h1, h2⟩ := h
  exact ⟨es, c, hw.trans h1, h2⟩
theorem MapH.lt {w : World} {M : Nat} {a : Int} {S : List ByteArray} (h : MapH w M a S) : M < w.heap.size := by
  obtain ⟨es, c, h1, h2⟩ := h
  exact (Array.getElem?_eq_some_iff.1 h1).1
theorem MapH.new (w : World) (a : Int) : MapH (w.alloc (.map #[] 0)) w.heap.size a [] := ⟨_, _, heap_alloc_new w _, rfl⟩
end Go.Proofs.Ytjgnldkncoighaa
