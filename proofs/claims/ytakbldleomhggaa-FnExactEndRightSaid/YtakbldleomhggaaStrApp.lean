/- A text put behind a row of bytes that the call made; no condition but those named. -/
import Derived.Test.YtakbldleomhggaaLies
import Derived.Lib.AppendStr
import Derived.ArgAppend
namespace Go.Proofs.Ytakbldleomhggaa
open Go.RowKit
theorem str_vals (t : ByteArray) : Lib.strCells t = vals t.data.toList := by
  simp [Lib.strCells, vals, nums]
theorem str_append {w : World} {ops : Array Oper} {rest : List Oper} {o : Oper} {a : Act} {Q : Exit → Act → World → Prop} (hgd : o.guard = none) (s x : Operand)
    (ho : o.op = .call { callee := .builtin .append, args := #[s, x], argTypes := #[68, 9] })
    (base : Nat) (v : Value) (L : List UInt8) (hs : a.eval s = v) (hown : w.ownsRow base 5 1 v L.length (vals L)) (t : ByteArray) (hx : a.eval x = .string t) (hlen : L.length + t.size ≤ 1000000) (hbase : base ≤ w.heap.size)
    (h : ∀ v' w', w'.ownsRow base 5 1 v' (L.length + t.size) (vals (L ++ t.data.toList)) → Below base w w' → wpList Try.prog ops Q rest (a.put o.dst v') w') : wpList Try.prog ops Q (o :: rest) a w := by
  obtain ⟨ui, hi1, hi2, hi3, hi4⟩ := u8info
  refine Lib.wpList_append_own_string w hgd s x 68 9 ho base 5 ui Try.underlying68 Try.underlying9 hi1 hi2 hi3 hi4 v L.length (vals L) hs hown t hx (by unfold maxLen; omega) (by omega) hbase ?_
  intro v' w' h1 h2 _
  refine h v' w' ?_ ((Below.refl _ _).grown h2 hbase (fun q hq => (World.ownsRow.lt hown q hq).1))
  rw [vals_append, ← str_vals]
  exact h1
theorem txt_append (l m : List UInt8) : txt (l ++ m) = txt l ++ txt m := by
  apply ByteArray.ext
  simp [txt]
end Go.Proofs.Ytakbldleomhggaa
