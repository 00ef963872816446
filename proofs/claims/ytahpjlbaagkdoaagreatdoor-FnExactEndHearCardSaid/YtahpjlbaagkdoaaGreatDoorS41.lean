/- The program's EndTick: what is answered, in plain words; what lay in memory stands. -/
import Derived.Test.YtahpjlbaagkdoaaGreatDoorS40
import Derived.Test.YtahpjlbaagkdoaaGreatDoorS20
import Derived.Test.YtahpjlbaagkdoaaGreatDoorS29
import Derived.Test.YtahpjlbaagkdoaaGreatDoorShW
namespace Go.Proofs.YtahpjlbaagkdoaaGreatDoor
open Go.RowKit
theorem implEndRightE (e : En) (x1 x2 : Option Addr) (y1 y2 : Nat) (F1 F2 : List Op.Opt) (w : World) (l1 : F1.length ≤ maxLen) (l2 : F2.length ≤ maxLen) (h1 : HoldsO w (.slice x1 F1.length y1) F1) (h2 : HoldsO w (.slice x2 F2.length y2) F2) :
  Calls Tryz.prog 35 #[.agg (enC e (.slice x1 F1.length y1) (.slice x2 F2.length y2))] w fun r w' => r = .returned (.bool (enOk e F1 F2)) ∧ Below w.heap.size w w' :=
 implEndRight_of e x1 x2 y1 y2 F1 F2 w l1 l2 h1 h2 eqL
theorem enOk_rights {e : En} {F1 F2 : List Op.Opt} (h : enOk e F1 F2 = true) : Op.right F1 = true ∧ Op.right F2 = true := by
 simp only [enOk, Bool.and_eq_true] at h
 exact ⟨opOk_right h.2.2.2.2.2.2.1, opOk_right h.2.2.2.2.2.2.2.1⟩
end Go.Proofs.YtahpjlbaagkdoaaGreatDoor
