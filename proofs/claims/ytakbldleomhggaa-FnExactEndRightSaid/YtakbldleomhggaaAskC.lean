/- A Config as a value, a call that goes in, an order drawn: what the rules' texts share. -/
import Derived.Test.YtakbldleomhggaaRules
import Derived.Test.YtakbldleomhggaaOpt
import Derived.Deep.QuietTactic
import Derived.BigQuiet
namespace Go.Proofs.Ytakbldleomhggaa
open Go.RowKit
theorem below_drewN {n : Nat} {w W : World} (h : Below n w W) (k : Nat) : Below n w (W.drewN k) := ⟨h.os, h.tape, h.output, h.size, h.block⟩
/-- A Config as a value. -/
abbrev cfgV (m a g : Int) (p c d : Bool) : Value := .agg #[.int .i64 m, .int .i64 a, .int .i64 g, .bool p, .bool c, .bool d]
/-- A call of a function that has a body goes into it. -/
theorem cf_of {f : Nat} (h : (Try.prog.funcs[f]?).map (fun fn => (fn.name == "runtime.NumGoroutine") || fn.body.isNone) = some false) (args : Array Value) (W : World) : (callFunc f args).run Try.prog W = .ok (.enter f args) W := by
  obtain ⟨fn, hf, h2⟩ := Option.map_eq_some_iff.1 h
  rw [Bool.or_eq_false_iff] at h2
  unfold callFunc
  have h3 : ¬ (fn.name = "runtime.NumGoroutine") := beq_eq_false_iff_ne.1 h2.1
  have h4 : ¬ (fn.body = none) := fun e => by rw [e] at h2; exact absurd h2.2 (by decide)
  simp [go_sem, hf, h3, h4]
end Go.Proofs.Ytakbldleomhggaa
