/-
  No cell of these rows narrows 'for every input' (looked for: loops, veiled, ifaces, maps, wideKeys, modest, calm, conditions, laid).
  DERIVED. THE GIVEN ROWS OF THIS SEAT. 2 by the template 'for every input the law returns true; each argument reads behind the call as it read before'; 0 by the template 'total and deterministic' (their statements: YtcanpnbpofdpcaaTotals.lean).
  GIVEN WITH THE SEED: the statements are not yours to turn. If you find one false, say at which input.
  Laid BY PROGRAM, IN A SANDBOX (cutbox-rows.mjs): the forced cells as the released guide's own fill.sh prints them over the translation 7b6bb15b90b9a1bd… (all of the seat's roots in one cut). By AI agents, Wed Nov 11 2026. No macro, syntax, notation, axiom, sorry.
-/
import Derived.Test.YtcanpnbpofdpcaaChecked
import GoSem.Claim
import GoSem.ClaimJoined
import GoSem.ClaimMapViews
import Derived.JoinedTies
import Derived.KernelRfl
namespace Go.Proofs.Ytcanpnbpofdpcaa
/- THE CELL 'sum', in the pinned program and in every row, IS THE sha256 OF THE DUMP (.gsa) THAT YtcanpnbpofdpcaaProg.lean LOADS. Nothing in Lean hashes anything: it is a label: what it is worth is what the hold of that sum in a sandbox is worth. -/
noncomputable def Try.pinned : Pinned := { name := "ytcanpnbpofdpcaa", sum := "7b6bb15b90b9a1bd6d9cbd44e708379771d1c05708b85c86b904700f06a9067d", checked := Try.checked }
namespace Rows
def none {H : Type} : Left H := { results := [], args := [] }

/-- 'laws.FnExactBundleRight': WHATEVER THE INPUT: true; the input reads as it did. -/
def fnExactBundleRightSpec : ChangeSpec := { name := "fnExactBundleRight", fn := fun _ => fun
  | [d] => { results := [.lit (.bool true)], args := [d] }
  | _ => none }
def fnExactBundleRightRow : OpenClaim := { program := "ytcanpnbpofdpcaa", sum := "7b6bb15b90b9a1bd6d9cbd44e708379771d1c05708b85c86b904700f06a9067d", func := "loop.example/g00351/laws.FnExactBundleRight", spec := "fnExactBundleRight", apart := false }
def FnExactBundleRightSaid : Prop := fnExactBundleRightRow.holds Try.pinned (OpenSpec.ofChange fnExactBundleRightSpec)

/-- ITS FALSE NEIGHBOUR: 'it returns false'. Refute it at one input. -/
def fnExactBundleRightWrong : ChangeSpec := { name := "fnExactBundleRight", fn := fun _ => fun
  | [d] => { results := [.lit (.bool false)], args := [d] }
  | _ => none }
def FnExactBundleRightWrongFalsely : Prop := fnExactBundleRightRow.holds Try.pinned (OpenSpec.ofChange fnExactBundleRightWrong)

/-- 'laws.FnExactBundleHear': WHATEVER THE INPUT: true; the input reads as it did. -/
def fnExactBundleHearSpec : ChangeSpec := { name := "fnExactBundleHear", fn := fun _ => fun
  | [d1, d2, d3] => { results := [.lit (.bool true)], args := [d1, d2, d3] }
  | _ => none }
def fnExactBundleHearRow : OpenClaim := { program := "ytcanpnbpofdpcaa", sum := "7b6bb15b90b9a1bd6d9cbd44e708379771d1c05708b85c86b904700f06a9067d", func := "loop.example/g00351/laws.FnExactBundleHear", spec := "fnExactBundleHear", inPlace := ["internal/abi.NoEscape"], unfollowed := true, recurses := true, apart := false }
def FnExactBundleHearSaid : Prop := fnExactBundleHearRow.holds Try.pinned (OpenSpec.ofChange fnExactBundleHearSpec)

/-- ITS FALSE NEIGHBOUR: 'it returns false'. Refute it at one input. -/
def fnExactBundleHearWrong : ChangeSpec := { name := "fnExactBundleHear", fn := fun _ => fun
  | [d1, d2, d3] => { results := [.lit (.bool false)], args := [d1, d2, d3] }
  | _ => none }
def FnExactBundleHearWrongFalsely : Prop := fnExactBundleHearRow.holds Try.pinned (OpenSpec.ofChange fnExactBundleHearWrong)

/- THE SECOND FORM. 'bulk': how many values and letters a reading holds, each counted each time it is reached (what is shared counts as often as it is met; a slice's spare places count too). A statement '..UptoSaid' is the law's where the arguments, and the package variables that the reading takes, are together of bulk at most 1048576: NARROWER than '..Said'. Prove '..Said' where nothing that the law and all that it calls make is longer than what came in: it says more and counts as full. Else prove '..UptoSaid'. A law counts once. -/
mutual
def uptoBulk {H : Type} : DataW H → Nat
  | .lit (.string bytes) => bytes.length + 1
  | .lit _ => 1
  | .nil => 1
  | .ptr d => uptoBulk d + 1
  | .slice elems spare => uptoBulkAll elems + uptoBulkAll spare + 1
  | .agg parts => uptoBulkAll parts + 1
  | .iface _ d => uptoBulk d + 1
  | .map entries => uptoBulkEntries entries + 1
  | .held _ => 1
def uptoBulkAll {H : Type} : List (DataW H) → Nat
  | [] => 0
  | d :: r => uptoBulk d + uptoBulkAll r
def uptoBulkEntries {H : Type} : List (Lit × DataW H) → Nat
  | [] => 0
  | x :: r => uptoBulkEntry x + uptoBulkEntries r
def uptoBulkEntry {H : Type} : Lit × DataW H → Nat
  | (.string bytes, d) => bytes.length + uptoBulk d + 1
  | (_, d) => uptoBulk d + 1
 end
def uptoSmall : (H : Type) → List (DataW H) → Bool := fun _ ds => decide (uptoBulkAll ds ≤ 1048576)
def OpenSpec.upto (s : _root_.Go.ChangeSpec) : _root_.Go.OpenSpec := { _root_.Go.OpenSpec.ofChange s with cond := some uptoSmall }

/-- 'laws.FnExactBundleRight', WHERE WHAT IT READS IS OF BULK AT MOST 1048576: true; the input reads as it did. -/
def fnExactBundleRightUptoRow : OpenClaim := { program := "ytcanpnbpofdpcaa", sum := "7b6bb15b90b9a1bd6d9cbd44e708379771d1c05708b85c86b904700f06a9067d", func := "loop.example/g00351/laws.FnExactBundleRight", spec := "fnExactBundleRight", apart := false, narrowed := true }
def FnExactBundleRightUptoSaid : Prop := fnExactBundleRightUptoRow.holds Try.pinned (OpenSpec.upto fnExactBundleRightSpec)

/-- 'laws.FnExactBundleHear', WHERE WHAT IT READS IS OF BULK AT MOST 1048576: true; the input reads as it did. -/
def fnExactBundleHearUptoRow : OpenClaim := { program := "ytcanpnbpofdpcaa", sum := "7b6bb15b90b9a1bd6d9cbd44e708379771d1c05708b85c86b904700f06a9067d", func := "loop.example/g00351/laws.FnExactBundleHear", spec := "fnExactBundleHear", inPlace := ["internal/abi.NoEscape"], unfollowed := true, recurses := true, apart := false, narrowed := true }
def FnExactBundleHearUptoSaid : Prop := fnExactBundleHearUptoRow.holds Try.pinned (OpenSpec.upto fnExactBundleHearSpec)

end Rows
end Go.Proofs.Ytcanpnbpofdpcaa
