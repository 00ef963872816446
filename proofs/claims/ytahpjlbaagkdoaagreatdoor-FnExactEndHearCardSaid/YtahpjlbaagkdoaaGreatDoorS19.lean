/- Answers in memory: whole, with a code alone, read, stored; an action that is done; the actions so far. -/
import Derived.Test.YtahpjlbaagkdoaaGreatDoorS16
import Derived.Test.YtahpjlbaagkdoaaGreatDoorShW
namespace Go.Proofs.YtahpjlbaagkdoaaGreatDoor
open Go.RowKit
def ActOk (T : TypeId) (f : FuncId) (c : Cx) (a : ByteArray) : Prop := ∀ (w0 w1 : World) (B : Nat) (s : St) (v1 v2 vs vt : Value) (q : World) (n : Nat), Lay T w0 w1 B c s v1 v2 vs vt q → Fit n c s → n ≤ 1000 →
 Calls Tryz.prog f #[.pointer (some ⟨B, 0, none⟩), .string a] q fun r q' => r = .returned (.tuple #[]) ∧ ∃ v1 v2 vs vt, Lay T w0 w1 B c (actF c a s) v1 v2 vs vt q'
theorem infoEo : (Tryz.prog.info? 42).map (·.size) = some 33 := by kernel_rfl
theorem loadEo {W : World} {E : Nat} {cs : Array Value} (h : W.heap[E]? = some (.cells cs 42)) (hs : cs.size = 33 := by rfl) : (loadVar 42 ⟨E, 0, none⟩).run Tryz.prog W = .ok (.agg cs) W :=
 run_loadVar_row (P := Tryz.prog) _ _ 42 42 cs (0, 0) _ h Tryz.underlying42 rfl (by rw [hs]; exact infoEo)
abbrev eoZ : Array Value := #[.int .i64 0, .int .i64 0, .int .i64 0, .bool false, .bool false, .bool false, .int .i64 0, .int .i64 0, .int .i64 0, .bool false, .bool false, .bool false, .int .i64 0, .int .i64 0, .int .i64 0, .int .i64 0, .int .i64 0, .slice none 0 0, .slice none 0 0, .bool false, .int .i64 0, .int .i64 0, .bool false, .bool false, .bool false, .int .i64 0, .int .i64 0, .bool false, .bool false, .bool false, .slice none 0 0, .slice none 0 0, .int .i64 0]
theorem setRow_other (w : World) (g k : Nat) (cs : Array Value) (h : k ≠ g) : (w.setRow g cs).heap[k]? = w.heap[k]? := by
 unfold World.setRow
 simp [Array.getElem?_modify, Ne.symm h]
theorem own_setRow {w : World} {base : Nat} {e T : TypeId} {size : Nat} {v : Value} {n : Nat} {xs : List Value} (h : w.ownsRow base e size v n xs) {X : Nat} {old cs : Array Value} (hX : w.heap[X]? = some (.cells old T)) (hT : T ≠ e) : (w.setRow X cs).ownsRow base e size v n xs :=
 own_other h fun g hg => setRow_other w X g cs fun e => own_ty h hX hT (e ▸ hg)
theorem evErr {w0 q : World} (hb : Below w0.heap.size w0 q) (cd : Int) : EvA w0 (eoErr cd) (.returned (.agg (eoC enZero (.slice none 0 0) (.slice none 0 0) (.slice none 0 0) (.slice none 0 0) cd))) q :=
 ⟨_, _, _, _, rfl, World.ownsRow_nil _ _ _ _, World.ownsRow_nil _ _ _ _, World.ownsRow_nil _ _ _ _, World.ownsRow_nil _ _ _ _, Ap.none _ _ _, hb⟩
theorem range_lay {T : TypeId} {w0 w1 : World} {B : Nat} {c : Cx} {s : St} {v1 v2 vs vt : Value} {q : World} (h : Lay T w0 w1 B c s v1 v2 vs vt q) : q.rangeAt B 0 (enC s.e v1 v2).toList := by
 intro j u hu
 have hj := (List.getElem?_eq_some_iff.1 hu).1
 rw [Nat.zero_add]
 refine h.cell (i := j) ?_
 show ((enC s.e v1 v2).toList ++ [.int .i64 c.now, .int .i64 c.cc, .int .i64 c.ci, .string c.cd, c.vh, .int .i64 c.ac, c.va, vs, vt])[j]? = some u
 rw [List.getElem?_append_left hj]
 exact hu
theorem eoC_all (e : En) (a1 a2 a3 a4 : Option Addr) (n1 n2 n3 n4 m1 m2 m3 m4 : Nat) (cd : Int) : (eoC e (.slice a1 n1 m1) (.slice a2 n2 m2) (.slice a3 n3 m3) (.slice a4 n4 m4) cd).all (·.oneCell') = true := by kernel_rfl
theorem take_any (A : List ByteArray) (i : Nat) (hi : i < A.length) : (A.take (i + 1)).any setT = ((A.take i).any setT || setT A[i]) := by
 rw [List.take_succ_eq_append_getElem hi, List.any_append, List.any_cons, List.any_nil, Bool.or_false]
theorem take_fold (c : Cx) (s : St) (A : List ByteArray) (i : Nat) (hi : i < A.length) : (A.take (i + 1)).foldl (fun s a => actF c a s) s = actF c A[i] ((A.take i).foldl (fun s a => actF c a s) s) := by
 rw [List.take_succ_eq_append_getElem hi, List.foldl_append]
 rfl
theorem ownT_at {w : World} {base : Nat} {v : Value} {L : List ByteArray} (h : w.ownsRow base 9 1 v L.length (scells L)) (i : Nat) (hi : i < L.length) : ∃ g cp, v = .slice (some ⟨g, 0, none⟩) L.length cp ∧ g < w.heap.size ∧ w.cell? ⟨g, i, none⟩ = some (.string L[i]) := by
 rcases h.2 with ⟨_, h0⟩ | ⟨g, cap, cur, hv, _, hg, _, _, _, ht⟩
 ·omega
 ·refine ⟨g, cap, hv, (Array.getElem?_eq_some_iff.1 hg).1, ?_⟩
  rw [cell_of_row _ _ _ _ _ _ hg, ← Array.getElem?_toList]
  have e := scells_get L i L[i] (List.getElem?_eq_getElem hi)
  rw [← ht, List.getElem?_take, if_pos (by omega)] at e
  exact e
end Go.Proofs.YtahpjlbaagkdoaaGreatDoor
