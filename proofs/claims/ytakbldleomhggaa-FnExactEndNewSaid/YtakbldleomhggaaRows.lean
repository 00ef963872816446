/-
  No cell of these rows narrows 'for every input' (looked for: loops, veiled, ifaces, maps, wideKeys, modest, calm, conditions, laid).
  DERIVED. THE GIVEN ROWS OF THIS SEAT. 5 by the template 'for every input the law returns true; each argument reads behind the call as it read before'; 0 by the template 'total and deterministic' (their statements: YtakbldleomhggaaTotals.lean).
  GIVEN WITH THE SEED: the statements are not yours to turn. If you find one false, say at which input.
  Laid BY PROGRAM, IN A SANDBOX (cutbox-rows.mjs): the forced cells as the released guide's own fill.sh prints them over the translation b3d633e5a513e27a… (all of the seat's roots in one cut). By AI agents, Wed Nov 11 2026. No macro, syntax, notation, axiom, sorry.
-/
import Derived.Test.YtakbldleomhggaaChecked
import GoSem.Claim
import GoSem.ClaimJoined
import GoSem.ClaimMapViews
import Derived.JoinedTies
import Derived.KernelRfl
namespace Go.Proofs.Ytakbldleomhggaa
/- THE CELL 'sum', in the pinned program and in every row, IS THE sha256 OF THE DUMP (.gsa) THAT YtakbldleomhggaaProg.lean LOADS. Nothing in Lean hashes anything: it is a label: what it is worth is what the hold of that sum in a sandbox is worth. -/
noncomputable def Try.pinned : Pinned := { name := "ytakbldleomhggaa", sum := "b3d633e5a513e27aa498f4209e1ea57266d7591f8690b66d00f3ad488040b7e3", checked := Try.checked }
namespace Rows
def none {H : Type} : Left H := { results := [], args := [] }

/-- 'laws.FnExactOptionsBytes': WHATEVER THE INPUT: true; the input reads as it did. -/
def fnExactOptionsBytesSpec : ChangeSpec := { name := "fnExactOptionsBytes", fn := fun _ => fun
  | [d] => { results := [.lit (.bool true)], args := [d] }
  | _ => none }
def fnExactOptionsBytesRow : OpenClaim := { program := "ytakbldleomhggaa", sum := "b3d633e5a513e27aa498f4209e1ea57266d7591f8690b66d00f3ad488040b7e3", func := "loop.example/g00351/laws.FnExactOptionsBytes", spec := "fnExactOptionsBytes", apart := false }
def FnExactOptionsBytesSaid : Prop := fnExactOptionsBytesRow.holds Try.pinned (OpenSpec.ofChange fnExactOptionsBytesSpec)

/-- ITS FALSE NEIGHBOUR: 'it returns false'. Refute it at one input. -/
def fnExactOptionsBytesWrong : ChangeSpec := { name := "fnExactOptionsBytes", fn := fun _ => fun
  | [d] => { results := [.lit (.bool false)], args := [d] }
  | _ => none }
def FnExactOptionsBytesWrongFalsely : Prop := fnExactOptionsBytesRow.holds Try.pinned (OpenSpec.ofChange fnExactOptionsBytesWrong)

/-- 'laws.FnExactPacketBytes': WHATEVER THE INPUT: true; the input reads as it did. -/
def fnExactPacketBytesSpec : ChangeSpec := { name := "fnExactPacketBytes", fn := fun _ => fun
  | [d] => { results := [.lit (.bool true)], args := [d] }
  | _ => none }
def fnExactPacketBytesRow : OpenClaim := { program := "ytakbldleomhggaa", sum := "b3d633e5a513e27aa498f4209e1ea57266d7591f8690b66d00f3ad488040b7e3", func := "loop.example/g00351/laws.FnExactPacketBytes", spec := "fnExactPacketBytes", apart := false }
def FnExactPacketBytesSaid : Prop := fnExactPacketBytesRow.holds Try.pinned (OpenSpec.ofChange fnExactPacketBytesSpec)

/-- ITS FALSE NEIGHBOUR: 'it returns false'. Refute it at one input. -/
def fnExactPacketBytesWrong : ChangeSpec := { name := "fnExactPacketBytes", fn := fun _ => fun
  | [d] => { results := [.lit (.bool false)], args := [d] }
  | _ => none }
def FnExactPacketBytesWrongFalsely : Prop := fnExactPacketBytesRow.holds Try.pinned (OpenSpec.ofChange fnExactPacketBytesWrong)

/-- 'laws.FnExactReply': WHATEVER THE INPUT: true; the input reads as it did. -/
def fnExactReplySpec : ChangeSpec := { name := "fnExactReply", fn := fun _ => fun
  | [d1, d2] => { results := [.lit (.bool true)], args := [d1, d2] }
  | _ => none }
def fnExactReplyRow : OpenClaim := { program := "ytakbldleomhggaa", sum := "b3d633e5a513e27aa498f4209e1ea57266d7591f8690b66d00f3ad488040b7e3", func := "loop.example/g00351/laws.FnExactReply", spec := "fnExactReply", unfollowed := true, recurses := true, apart := false }
def FnExactReplySaid : Prop := fnExactReplyRow.holds Try.pinned (OpenSpec.ofChange fnExactReplySpec)

/-- ITS FALSE NEIGHBOUR: 'it returns false'. Refute it at one input. -/
def fnExactReplyWrong : ChangeSpec := { name := "fnExactReply", fn := fun _ => fun
  | [d1, d2] => { results := [.lit (.bool false)], args := [d1, d2] }
  | _ => none }
def FnExactReplyWrongFalsely : Prop := fnExactReplyRow.holds Try.pinned (OpenSpec.ofChange fnExactReplyWrong)

/-- 'laws.FnExactEndNew': WHATEVER THE INPUT: true; the input reads as it did. -/
def fnExactEndNewSpec : ChangeSpec := { name := "fnExactEndNew", fn := fun _ => fun
  | [d] => { results := [.lit (.bool true)], args := [d] }
  | _ => none }
def fnExactEndNewRow : OpenClaim := { program := "ytakbldleomhggaa", sum := "b3d633e5a513e27aa498f4209e1ea57266d7591f8690b66d00f3ad488040b7e3", func := "loop.example/g00351/laws.FnExactEndNew", spec := "fnExactEndNew", apart := false }
def FnExactEndNewSaid : Prop := fnExactEndNewRow.holds Try.pinned (OpenSpec.ofChange fnExactEndNewSpec)

/-- ITS FALSE NEIGHBOUR: 'it returns false'. Refute it at one input. -/
def fnExactEndNewWrong : ChangeSpec := { name := "fnExactEndNew", fn := fun _ => fun
  | [d] => { results := [.lit (.bool false)], args := [d] }
  | _ => none }
def FnExactEndNewWrongFalsely : Prop := fnExactEndNewRow.holds Try.pinned (OpenSpec.ofChange fnExactEndNewWrong)

/-- 'laws.FnExactEndRight': WHATEVER THE INPUT: true; the input reads as it did. -/
def fnExactEndRightSpec : ChangeSpec := { name := "fnExactEndRight", fn := fun _ => fun
  | [d] => { results := [.lit (.bool true)], args := [d] }
  | _ => none }
def fnExactEndRightRow : OpenClaim := { program := "ytakbldleomhggaa", sum := "b3d633e5a513e27aa498f4209e1ea57266d7591f8690b66d00f3ad488040b7e3", func := "loop.example/g00351/laws.FnExactEndRight", spec := "fnExactEndRight", unfollowed := true, recurses := true, apart := false }
def FnExactEndRightSaid : Prop := fnExactEndRightRow.holds Try.pinned (OpenSpec.ofChange fnExactEndRightSpec)

/-- ITS FALSE NEIGHBOUR: 'it returns false'. Refute it at one input. -/
def fnExactEndRightWrong : ChangeSpec := { name := "fnExactEndRight", fn := fun _ => fun
  | [d] => { results := [.lit (.bool false)], args := [d] }
  | _ => none }
def FnExactEndRightWrongFalsely : Prop := fnExactEndRightRow.holds Try.pinned (OpenSpec.ofChange fnExactEndRightWrong)

/- THE SECOND FORM. 'bulk': how many values and letters a reading holds, each counted each time it is reached (what is shared counts as often as it is met; a slice's spare places count too). A statement '..UptoSaid' is the law's where the arguments, and the package variables that the reading takes, are together of bulk at most 1048576: NARROWER than '..Said'. Prove '..Said' where nothing that the law and all that it calls make is longer than what came in: it says more and counts as full. Else prove '..UptoSaid'. A law counts once. -/
mutual
def uptoBulk {H : Type} : DataW H → Nat
  | .lit (.string bytes) => bytes.length + 1
  | .lit _ => 1
  | .nil => 1
  | .ptr d => uptoBulk d + 1
  | .slice elems spare => uptoBulkAll elems + uptoBulkAll spare + 1
  | .agg parts => uptoBulkAll parts + 1
  | .iface _ d => uptoBulk d + 1
  | .map entries => uptoBulkEntries entries + 1
  | .held _ => 1
def uptoBulkAll {H : Type} : List (DataW H) → Nat
  | [] => 0
  | d :: r => uptoBulk d + uptoBulkAll r
def uptoBulkEntries {H : Type} : List (Lit × DataW H) → Nat
  | [] => 0
  | x :: r => uptoBulkEntry x + uptoBulkEntries r
def uptoBulkEntry {H : Type} : Lit × DataW H → Nat
  | (.string bytes, d) => bytes.length + uptoBulk d + 1
  | (_, d) => uptoBulk d + 1
 end
def uptoSmall : (H : Type) → List (DataW H) → Bool := fun _ ds => decide (uptoBulkAll ds ≤ 1048576)
def OpenSpec.upto (s : _root_.Go.ChangeSpec) : _root_.Go.OpenSpec := { _root_.Go.OpenSpec.ofChange s with cond := some uptoSmall }

/-- 'laws.FnExactOptionsBytes', WHERE WHAT IT READS IS OF BULK AT MOST 1048576: true; the input reads as it did. -/
def fnExactOptionsBytesUptoRow : OpenClaim := { program := "ytakbldleomhggaa", sum := "b3d633e5a513e27aa498f4209e1ea57266d7591f8690b66d00f3ad488040b7e3", func := "loop.example/g00351/laws.FnExactOptionsBytes", spec := "fnExactOptionsBytes", apart := false, narrowed := true }
def FnExactOptionsBytesUptoSaid : Prop := fnExactOptionsBytesUptoRow.holds Try.pinned (OpenSpec.upto fnExactOptionsBytesSpec)

/-- 'laws.FnExactPacketBytes', WHERE WHAT IT READS IS OF BULK AT MOST 1048576: true; the input reads as it did. -/
def fnExactPacketBytesUptoRow : OpenClaim := { program := "ytakbldleomhggaa", sum := "b3d633e5a513e27aa498f4209e1ea57266d7591f8690b66d00f3ad488040b7e3", func := "loop.example/g00351/laws.FnExactPacketBytes", spec := "fnExactPacketBytes", apart := false, narrowed := true }
def FnExactPacketBytesUptoSaid : Prop := fnExactPacketBytesUptoRow.holds Try.pinned (OpenSpec.upto fnExactPacketBytesSpec)

/-- 'laws.FnExactReply', WHERE WHAT IT READS IS OF BULK AT MOST 1048576: true; the input reads as it did. -/
def fnExactReplyUptoRow : OpenClaim := { program := "ytakbldleomhggaa", sum := "b3d633e5a513e27aa498f4209e1ea57266d7591f8690b66d00f3ad488040b7e3", func := "loop.example/g00351/laws.FnExactReply", spec := "fnExactReply", unfollowed := true, recurses := true, apart := false, narrowed := true }
def FnExactReplyUptoSaid : Prop := fnExactReplyUptoRow.holds Try.pinned (OpenSpec.upto fnExactReplySpec)

/-- 'laws.FnExactEndNew', WHERE WHAT IT READS IS OF BULK AT MOST 1048576: true; the input reads as it did. -/
def fnExactEndNewUptoRow : OpenClaim := { program := "ytakbldleomhggaa", sum := "b3d633e5a513e27aa498f4209e1ea57266d7591f8690b66d00f3ad488040b7e3", func := "loop.example/g00351/laws.FnExactEndNew", spec := "fnExactEndNew", apart := false, narrowed := true }
def FnExactEndNewUptoSaid : Prop := fnExactEndNewUptoRow.holds Try.pinned (OpenSpec.upto fnExactEndNewSpec)

/-- 'laws.FnExactEndRight', WHERE WHAT IT READS IS OF BULK AT MOST 1048576: true; the input reads as it did. -/
def fnExactEndRightUptoRow : OpenClaim := { program := "ytakbldleomhggaa", sum := "b3d633e5a513e27aa498f4209e1ea57266d7591f8690b66d00f3ad488040b7e3", func := "loop.example/g00351/laws.FnExactEndRight", spec := "fnExactEndRight", unfollowed := true, recurses := true, apart := false, narrowed := true }
def FnExactEndRightUptoSaid : Prop := fnExactEndRightUptoRow.holds Try.pinned (OpenSpec.upto fnExactEndRightSpec)

end Rows
end Go.Proofs.Ytakbldleomhggaa
