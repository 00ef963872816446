/-
  No cell of these rows narrows 'for every input' (looked for: loops, veiled, ifaces, maps, wideKeys, modest, calm, conditions, laid).
  DERIVED. THE GIVEN ROWS OF THIS SEAT. 4 by the template 'for every input the law returns true; each argument reads behind the call as it read before'; 0 by the template 'total and deterministic' (their statements: YteffbodinbmliadTotals.lean).
  GIVEN WITH THE SEED: the statements are not yours to turn. If you find one false, say at which input.
  Laid BY PROGRAM, IN A SANDBOX (cutbox-rows.mjs): the forced cells as the released guide's own fill.sh prints them over the translation 9e882567970663ba… (all of the seat's roots in one cut). By AI agents, Wed Nov 11 2026. No macro, syntax, notation, axiom, sorry.
-/
import Derived.Test.YteffbodinbmliadChecked
import GoSem.Claim
import GoSem.ClaimJoined
import GoSem.ClaimMapViews
import Derived.JoinedTies
import Derived.KernelRfl
namespace Go.Proofs.Yteffbodinbmliad
/- THE CELL 'sum', in the pinned program and in every row, IS THE sha256 OF THE DUMP (.gsa) THAT YteffbodinbmliadProg.lean LOADS. Nothing in Lean hashes anything: it is a label: what it is worth is what the hold of that sum in a sandbox is worth. -/
noncomputable def Try.pinned : Pinned := { name := "yteffbodinbmliad", sum := "9e882567970663ba69f8102718c516e55c81ea4e470ee9ce6fce0136f0257187", checked := Try.checked }
namespace Rows
def none {H : Type} : Left H := { results := [], args := [] }

/-- 'laws.FnExactStuff': WHATEVER THE INPUT: true; the input reads as it did. -/
def fnExactStuffSpec : ChangeSpec := { name := "fnExactStuff", fn := fun _ => fun
  | [d1, d2] => { results := [.lit (.bool true)], args := [d1, d2] }
  | _ => none }
def fnExactStuffRow : OpenClaim := { program := "yteffbodinbmliad", sum := "9e882567970663ba69f8102718c516e55c81ea4e470ee9ce6fce0136f0257187", func := "loop.example/g00351/laws.FnExactStuff", spec := "fnExactStuff", unfollowed := true, recurses := true, apart := false }
def FnExactStuffSaid : Prop := fnExactStuffRow.holds Try.pinned (OpenSpec.ofChange fnExactStuffSpec)

/-- ITS FALSE NEIGHBOUR: 'it returns false'. Refute it at one input. -/
def fnExactStuffWrong : ChangeSpec := { name := "fnExactStuff", fn := fun _ => fun
  | [d1, d2] => { results := [.lit (.bool false)], args := [d1, d2] }
  | _ => none }
def FnExactStuffWrongFalsely : Prop := fnExactStuffRow.holds Try.pinned (OpenSpec.ofChange fnExactStuffWrong)

/-- 'laws.FnExactDeframerRight': WHATEVER THE INPUT: true; the input reads as it did. -/
def fnExactDeframerRightSpec : ChangeSpec := { name := "fnExactDeframerRight", fn := fun _ => fun
  | [d] => { results := [.lit (.bool true)], args := [d] }
  | _ => none }
def fnExactDeframerRightRow : OpenClaim := { program := "yteffbodinbmliad", sum := "9e882567970663ba69f8102718c516e55c81ea4e470ee9ce6fce0136f0257187", func := "loop.example/g00351/laws.FnExactDeframerRight", spec := "fnExactDeframerRight", apart := false }
def FnExactDeframerRightSaid : Prop := fnExactDeframerRightRow.holds Try.pinned (OpenSpec.ofChange fnExactDeframerRightSpec)

/-- ITS FALSE NEIGHBOUR: 'it returns false'. Refute it at one input. -/
def fnExactDeframerRightWrong : ChangeSpec := { name := "fnExactDeframerRight", fn := fun _ => fun
  | [d] => { results := [.lit (.bool false)], args := [d] }
  | _ => none }
def FnExactDeframerRightWrongFalsely : Prop := fnExactDeframerRightRow.holds Try.pinned (OpenSpec.ofChange fnExactDeframerRightWrong)

/-- 'laws.FnExactProtoRight': WHATEVER THE INPUT: true; the input reads as it did. -/
def fnExactProtoRightSpec : ChangeSpec := { name := "fnExactProtoRight", fn := fun _ => fun
  | [d] => { results := [.lit (.bool true)], args := [d] }
  | _ => none }
def fnExactProtoRightRow : OpenClaim := { program := "yteffbodinbmliad", sum := "9e882567970663ba69f8102718c516e55c81ea4e470ee9ce6fce0136f0257187", func := "loop.example/g00351/laws.FnExactProtoRight", spec := "fnExactProtoRight", apart := false }
def FnExactProtoRightSaid : Prop := fnExactProtoRightRow.holds Try.pinned (OpenSpec.ofChange fnExactProtoRightSpec)

/-- ITS FALSE NEIGHBOUR: 'it returns false'. Refute it at one input. -/
def fnExactProtoRightWrong : ChangeSpec := { name := "fnExactProtoRight", fn := fun _ => fun
  | [d] => { results := [.lit (.bool false)], args := [d] }
  | _ => none }
def FnExactProtoRightWrongFalsely : Prop := fnExactProtoRightRow.holds Try.pinned (OpenSpec.ofChange fnExactProtoRightWrong)

/-- 'laws.FnExactPppPack': WHATEVER THE INPUT: true; the input reads as it did. -/
def fnExactPppPackSpec : ChangeSpec := { name := "fnExactPppPack", fn := fun _ => fun
  | [d1, d2, d3, d4] => { results := [.lit (.bool true)], args := [d1, d2, d3, d4] }
  | _ => none }
def fnExactPppPackRow : OpenClaim := { program := "yteffbodinbmliad", sum := "9e882567970663ba69f8102718c516e55c81ea4e470ee9ce6fce0136f0257187", func := "loop.example/g00351/laws.FnExactPppPack", spec := "fnExactPppPack", apart := false }
def FnExactPppPackSaid : Prop := fnExactPppPackRow.holds Try.pinned (OpenSpec.ofChange fnExactPppPackSpec)

/-- ITS FALSE NEIGHBOUR: 'it returns false'. Refute it at one input. -/
def fnExactPppPackWrong : ChangeSpec := { name := "fnExactPppPack", fn := fun _ => fun
  | [d1, d2, d3, d4] => { results := [.lit (.bool false)], args := [d1, d2, d3, d4] }
  | _ => none }
def FnExactPppPackWrongFalsely : Prop := fnExactPppPackRow.holds Try.pinned (OpenSpec.ofChange fnExactPppPackWrong)

/- THE SECOND FORM. 'bulk': how many values and letters a reading holds, each counted each time it is reached (what is shared counts as often as it is met; a slice's spare places count too). A statement '..UptoSaid' is the law's where the arguments, and the package variables that the reading takes, are together of bulk at most 1048576: NARROWER than '..Said'. Prove '..Said' where nothing that the law and all that it calls make is longer than what came in: it says more and counts as full. Else prove '..UptoSaid'. A law counts once. -/
mutual
def uptoBulk {H : Type} : DataW H → Nat
  | .lit (.string bytes) => bytes.length + 1
  | .lit _ => 1
  | .nil => 1
  | .ptr d => uptoBulk d + 1
  | .slice elems spare => uptoBulkAll elems + uptoBulkAll spare + 1
  | .agg parts => uptoBulkAll parts + 1
  | .iface _ d => uptoBulk d + 1
  | .map entries => uptoBulkEntries entries + 1
  | .held _ => 1
def uptoBulkAll {H : Type} : List (DataW H) → Nat
  | [] => 0
  | d :: r => uptoBulk d + uptoBulkAll r
def uptoBulkEntries {H : Type} : List (Lit × DataW H) → Nat
  | [] => 0
  | x :: r => uptoBulkEntry x + uptoBulkEntries r
def uptoBulkEntry {H : Type} : Lit × DataW H → Nat
  | (.string bytes, d) => bytes.length + uptoBulk d + 1
  | (_, d) => uptoBulk d + 1
 end
def uptoSmall : (H : Type) → List (DataW H) → Bool := fun _ ds => decide (uptoBulkAll ds ≤ 1048576)
def OpenSpec.upto (s : _root_.Go.ChangeSpec) : _root_.Go.OpenSpec := { _root_.Go.OpenSpec.ofChange s with cond := some uptoSmall }

/-- 'laws.FnExactStuff', WHERE WHAT IT READS IS OF BULK AT MOST 1048576: true; the input reads as it did. -/
def fnExactStuffUptoRow : OpenClaim := { program := "yteffbodinbmliad", sum := "9e882567970663ba69f8102718c516e55c81ea4e470ee9ce6fce0136f0257187", func := "loop.example/g00351/laws.FnExactStuff", spec := "fnExactStuff", unfollowed := true, recurses := true, apart := false, narrowed := true }
def FnExactStuffUptoSaid : Prop := fnExactStuffUptoRow.holds Try.pinned (OpenSpec.upto fnExactStuffSpec)

/-- 'laws.FnExactDeframerRight', WHERE WHAT IT READS IS OF BULK AT MOST 1048576: true; the input reads as it did. -/
def fnExactDeframerRightUptoRow : OpenClaim := { program := "yteffbodinbmliad", sum := "9e882567970663ba69f8102718c516e55c81ea4e470ee9ce6fce0136f0257187", func := "loop.example/g00351/laws.FnExactDeframerRight", spec := "fnExactDeframerRight", apart := false, narrowed := true }
def FnExactDeframerRightUptoSaid : Prop := fnExactDeframerRightUptoRow.holds Try.pinned (OpenSpec.upto fnExactDeframerRightSpec)

/-- 'laws.FnExactProtoRight', WHERE WHAT IT READS IS OF BULK AT MOST 1048576: true; the input reads as it did. -/
def fnExactProtoRightUptoRow : OpenClaim := { program := "yteffbodinbmliad", sum := "9e882567970663ba69f8102718c516e55c81ea4e470ee9ce6fce0136f0257187", func := "loop.example/g00351/laws.FnExactProtoRight", spec := "fnExactProtoRight", apart := false, narrowed := true }
def FnExactProtoRightUptoSaid : Prop := fnExactProtoRightUptoRow.holds Try.pinned (OpenSpec.upto fnExactProtoRightSpec)

/-- 'laws.FnExactPppPack', WHERE WHAT IT READS IS OF BULK AT MOST 1048576: true; the input reads as it did. -/
def fnExactPppPackUptoRow : OpenClaim := { program := "yteffbodinbmliad", sum := "9e882567970663ba69f8102718c516e55c81ea4e470ee9ce6fce0136f0257187", func := "loop.example/g00351/laws.FnExactPppPack", spec := "fnExactPppPack", apart := false, narrowed := true }
def FnExactPppPackUptoSaid : Prop := fnExactPppPackUptoRow.holds Try.pinned (OpenSpec.upto fnExactPppPackSpec)

end Rows
end Go.Proofs.Yteffbodinbmliad
