/-
  No cell of these rows narrows 'for every input' (looked for: loops, veiled, ifaces, maps, wideKeys, modest, calm, conditions, laid).
  DERIVED. THE GIVEN ROWS OF THIS SEAT. 5 by the template 'for every input the law returns true; each argument reads behind the call as it read before'; 0 by the template 'total and deterministic' (their statements: YtckebgalfomonaaTotals.lean).
  GIVEN WITH THE SEED: the statements are not yours to turn. If you find one false, say at which input.
  Laid BY PROGRAM, IN A SANDBOX (cutbox-rows.mjs): the forced cells as the released guide's own fill.sh prints them over the translation e364367e1c24402d… (all of the seat's roots in one cut). By AI agents, Wed Nov 11 2026. No macro, syntax, notation, axiom, sorry.
-/
import Derived.Test.YtckebgalfomonaaChecked
import GoSem.Claim
import GoSem.ClaimJoined
import GoSem.ClaimMapViews
import Derived.JoinedTies
import Derived.KernelRfl
namespace Go.Proofs.Ytckebgalfomonaa
/- THE CELL 'sum', in the pinned program and in every row, IS THE sha256 OF THE DUMP (.gsa) THAT YtckebgalfomonaaProg.lean LOADS. Nothing in Lean hashes anything: it is a label: what it is worth is what the hold of that sum in a sandbox is worth. -/
noncomputable def Try.pinned : Pinned := { name := "ytckebgalfomonaa", sum := "e364367e1c24402d43faaa8305b42098986b6db46d4c94a3e8a3c249731e01b2", checked := Try.checked }
namespace Rows
def none {H : Type} : Left H := { results := [], args := [] }

/-- 'laws.FnExactLapbNew': WHATEVER THE INPUT: true; the input reads as it did. -/
def fnExactLapbNewSpec : ChangeSpec := { name := "fnExactLapbNew", fn := fun _ => fun
  | [d] => { results := [.lit (.bool true)], args := [d] }
  | _ => none }
def fnExactLapbNewRow : OpenClaim := { program := "ytckebgalfomonaa", sum := "e364367e1c24402d43faaa8305b42098986b6db46d4c94a3e8a3c249731e01b2", func := "loop.example/g00351/laws.FnExactLapbNew", spec := "fnExactLapbNew", apart := false }
def FnExactLapbNewSaid : Prop := fnExactLapbNewRow.holds Try.pinned (OpenSpec.ofChange fnExactLapbNewSpec)

/-- ITS FALSE NEIGHBOUR: 'it returns false'. Refute it at one input. -/
def fnExactLapbNewWrong : ChangeSpec := { name := "fnExactLapbNew", fn := fun _ => fun
  | [d] => { results := [.lit (.bool false)], args := [d] }
  | _ => none }
def FnExactLapbNewWrongFalsely : Prop := fnExactLapbNewRow.holds Try.pinned (OpenSpec.ofChange fnExactLapbNewWrong)

/-- 'laws.FnExactLapbRight': WHATEVER THE INPUT: true; the input reads as it did. -/
def fnExactLapbRightSpec : ChangeSpec := { name := "fnExactLapbRight", fn := fun _ => fun
  | [d] => { results := [.lit (.bool true)], args := [d] }
  | _ => none }
def fnExactLapbRightRow : OpenClaim := { program := "ytckebgalfomonaa", sum := "e364367e1c24402d43faaa8305b42098986b6db46d4c94a3e8a3c249731e01b2", func := "loop.example/g00351/laws.FnExactLapbRight", spec := "fnExactLapbRight", apart := false }
def FnExactLapbRightSaid : Prop := fnExactLapbRightRow.holds Try.pinned (OpenSpec.ofChange fnExactLapbRightSpec)

/-- ITS FALSE NEIGHBOUR: 'it returns false'. Refute it at one input. -/
def fnExactLapbRightWrong : ChangeSpec := { name := "fnExactLapbRight", fn := fun _ => fun
  | [d] => { results := [.lit (.bool false)], args := [d] }
  | _ => none }
def FnExactLapbRightWrongFalsely : Prop := fnExactLapbRightRow.holds Try.pinned (OpenSpec.ofChange fnExactLapbRightWrong)

/-- 'laws.FnExactLapbPut': WHATEVER THE INPUT: true; the input reads as it did. -/
def fnExactLapbPutSpec : ChangeSpec := { name := "fnExactLapbPut", fn := fun _ => fun
  | [d1, d2] => { results := [.lit (.bool true)], args := [d1, d2] }
  | _ => none }
def fnExactLapbPutRow : OpenClaim := { program := "ytckebgalfomonaa", sum := "e364367e1c24402d43faaa8305b42098986b6db46d4c94a3e8a3c249731e01b2", func := "loop.example/g00351/laws.FnExactLapbPut", spec := "fnExactLapbPut", apart := false }
def FnExactLapbPutSaid : Prop := fnExactLapbPutRow.holds Try.pinned (OpenSpec.ofChange fnExactLapbPutSpec)

/-- ITS FALSE NEIGHBOUR: 'it returns false'. Refute it at one input. -/
def fnExactLapbPutWrong : ChangeSpec := { name := "fnExactLapbPut", fn := fun _ => fun
  | [d1, d2] => { results := [.lit (.bool false)], args := [d1, d2] }
  | _ => none }
def FnExactLapbPutWrongFalsely : Prop := fnExactLapbPutRow.holds Try.pinned (OpenSpec.ofChange fnExactLapbPutWrong)

/-- 'laws.FnExactLapbNext': WHATEVER THE INPUT: true; the input reads as it did. -/
def fnExactLapbNextSpec : ChangeSpec := { name := "fnExactLapbNext", fn := fun _ => fun
  | [d] => { results := [.lit (.bool true)], args := [d] }
  | _ => none }
def fnExactLapbNextRow : OpenClaim := { program := "ytckebgalfomonaa", sum := "e364367e1c24402d43faaa8305b42098986b6db46d4c94a3e8a3c249731e01b2", func := "loop.example/g00351/laws.FnExactLapbNext", spec := "fnExactLapbNext", apart := false }
def FnExactLapbNextSaid : Prop := fnExactLapbNextRow.holds Try.pinned (OpenSpec.ofChange fnExactLapbNextSpec)

/-- ITS FALSE NEIGHBOUR: 'it returns false'. Refute it at one input. -/
def fnExactLapbNextWrong : ChangeSpec := { name := "fnExactLapbNext", fn := fun _ => fun
  | [d] => { results := [.lit (.bool false)], args := [d] }
  | _ => none }
def FnExactLapbNextWrongFalsely : Prop := fnExactLapbNextRow.holds Try.pinned (OpenSpec.ofChange fnExactLapbNextWrong)

/-- 'laws.FnExactLapbAgain': WHATEVER THE INPUT: true; the input reads as it did. -/
def fnExactLapbAgainSpec : ChangeSpec := { name := "fnExactLapbAgain", fn := fun _ => fun
  | [d] => { results := [.lit (.bool true)], args := [d] }
  | _ => none }
def fnExactLapbAgainRow : OpenClaim := { program := "ytckebgalfomonaa", sum := "e364367e1c24402d43faaa8305b42098986b6db46d4c94a3e8a3c249731e01b2", func := "loop.example/g00351/laws.FnExactLapbAgain", spec := "fnExactLapbAgain", apart := false }
def FnExactLapbAgainSaid : Prop := fnExactLapbAgainRow.holds Try.pinned (OpenSpec.ofChange fnExactLapbAgainSpec)

/-- ITS FALSE NEIGHBOUR: 'it returns false'. Refute it at one input. -/
def fnExactLapbAgainWrong : ChangeSpec := { name := "fnExactLapbAgain", fn := fun _ => fun
  | [d] => { results := [.lit (.bool false)], args := [d] }
  | _ => none }
def FnExactLapbAgainWrongFalsely : Prop := fnExactLapbAgainRow.holds Try.pinned (OpenSpec.ofChange fnExactLapbAgainWrong)

/- THE SECOND FORM. 'bulk': how many values and letters a reading holds, each counted each time it is reached (what is shared counts as often as it is met; a slice's spare places count too). A statement '..UptoSaid' is the law's where the arguments, and the package variables that the reading takes, are together of bulk at most 1048576: NARROWER than '..Said'. Prove '..Said' where nothing that the law and all that it calls make is longer than what came in: it says more and counts as full. Else prove '..UptoSaid'. A law counts once. -/
mutual
def uptoBulk {H : Type} : DataW H → Nat
  | .lit (.string bytes) => bytes.length + 1
  | .lit _ => 1
  | .nil => 1
  | .ptr d => uptoBulk d + 1
  | .slice elems spare => uptoBulkAll elems + uptoBulkAll spare + 1
  | .agg parts => uptoBulkAll parts + 1
  | .iface _ d => uptoBulk d + 1
  | .map entries => uptoBulkEntries entries + 1
  | .held _ => 1
def uptoBulkAll {H : Type} : List (DataW H) → Nat
  | [] => 0
  | d :: r => uptoBulk d + uptoBulkAll r
def uptoBulkEntries {H : Type} : List (Lit × DataW H) → Nat
  | [] => 0
  | x :: r => uptoBulkEntry x + uptoBulkEntries r
def uptoBulkEntry {H : Type} : Lit × DataW H → Nat
  | (.string bytes, d) => bytes.length + uptoBulk d + 1
  | (_, d) => uptoBulk d + 1
 end
def uptoSmall : (H : Type) → List (DataW H) → Bool := fun _ ds => decide (uptoBulkAll ds ≤ 1048576)
def OpenSpec.upto (s : _root_.Go.ChangeSpec) : _root_.Go.OpenSpec := { _root_.Go.OpenSpec.ofChange s with cond := some uptoSmall }

/-- 'laws.FnExactLapbNew', WHERE WHAT IT READS IS OF BULK AT MOST 1048576: true; the input reads as it did. -/
def fnExactLapbNewUptoRow : OpenClaim := { program := "ytckebgalfomonaa", sum := "e364367e1c24402d43faaa8305b42098986b6db46d4c94a3e8a3c249731e01b2", func := "loop.example/g00351/laws.FnExactLapbNew", spec := "fnExactLapbNew", apart := false, narrowed := true }
def FnExactLapbNewUptoSaid : Prop := fnExactLapbNewUptoRow.holds Try.pinned (OpenSpec.upto fnExactLapbNewSpec)

/-- 'laws.FnExactLapbRight', WHERE WHAT IT READS IS OF BULK AT MOST 1048576: true; the input reads as it did. -/
def fnExactLapbRightUptoRow : OpenClaim := { program := "ytckebgalfomonaa", sum := "e364367e1c24402d43faaa8305b42098986b6db46d4c94a3e8a3c249731e01b2", func := "loop.example/g00351/laws.FnExactLapbRight", spec := "fnExactLapbRight", apart := false, narrowed := true }
def FnExactLapbRightUptoSaid : Prop := fnExactLapbRightUptoRow.holds Try.pinned (OpenSpec.upto fnExactLapbRightSpec)

/-- 'laws.FnExactLapbPut', WHERE WHAT IT READS IS OF BULK AT MOST 1048576: true; the input reads as it did. -/
def fnExactLapbPutUptoRow : OpenClaim := { program := "ytckebgalfomonaa", sum := "e364367e1c24402d43faaa8305b42098986b6db46d4c94a3e8a3c249731e01b2", func := "loop.example/g00351/laws.FnExactLapbPut", spec := "fnExactLapbPut", apart := false, narrowed := true }
def FnExactLapbPutUptoSaid : Prop := fnExactLapbPutUptoRow.holds Try.pinned (OpenSpec.upto fnExactLapbPutSpec)

/-- 'laws.FnExactLapbNext', WHERE WHAT IT READS IS OF BULK AT MOST 1048576: true; the input reads as it did. -/
def fnExactLapbNextUptoRow : OpenClaim := { program := "ytckebgalfomonaa", sum := "e364367e1c24402d43faaa8305b42098986b6db46d4c94a3e8a3c249731e01b2", func := "loop.example/g00351/laws.FnExactLapbNext", spec := "fnExactLapbNext", apart := false, narrowed := true }
def FnExactLapbNextUptoSaid : Prop := fnExactLapbNextUptoRow.holds Try.pinned (OpenSpec.upto fnExactLapbNextSpec)

/-- 'laws.FnExactLapbAgain', WHERE WHAT IT READS IS OF BULK AT MOST 1048576: true; the input reads as it did. -/
def fnExactLapbAgainUptoRow : OpenClaim := { program := "ytckebgalfomonaa", sum := "e364367e1c24402d43faaa8305b42098986b6db46d4c94a3e8a3c249731e01b2", func := "loop.example/g00351/laws.FnExactLapbAgain", spec := "fnExactLapbAgain", apart := false, narrowed := true }
def FnExactLapbAgainUptoSaid : Prop := fnExactLapbAgainUptoRow.holds Try.pinned (OpenSpec.upto fnExactLapbAgainSpec)

end Rows
end Go.Proofs.Ytckebgalfomonaa
