/- errors.As at an error whose own type is the target's: it answers true and sets the target; under the library's variable errors.errorType as it is laid. And codeOf, the program's: the code of an error, 0 of none. What the listed variable of the library, errors.errorType, gives the walks: its one cell; and a start in which it lies; no condition. -/
import Derived.Test.YtahpjlbaagkdoaaGreatDoorS02
import Derived.Test.YtahpjlbaagkdoaaGreatDoorRows
import Derived.ProofKit
import Derived.Lay
import Derived.MakeChecks
import Derived.LaidLaws
import Derived.LaidHandle
import Derived.RowKitTokens
import Derived.Test.YtahpjlbaagkdoaaGreatDoorShW
namespace Go.Proofs.YtahpjlbaagkdoaaGreatDoor
open Go.RowKit Go.Extern.Stop Go.Stop Go.Extern
theorem start4x (w : World) (a b c d : Obj) : ((((w.alloc a).alloc b).alloc c).alloc d).heap.size = w.heap.size + 1 + 1 + 1 + 1 ∧ ((((w.alloc a).alloc b).alloc c).alloc d).heap[w.heap.size]? = some a ∧ ((((w.alloc a).alloc b).alloc c).alloc d).heap[w.heap.size + 1]? = some b ∧
  ((((w.alloc a).alloc b).alloc c).alloc d).heap[w.heap.size + 1 + 1]? = some c ∧ ((((w.alloc a).alloc b).alloc c).alloc d).heap[w.heap.size + 1 + 1 + 1]? = some d ∧ Below w.heap.size w ((((w.alloc a).alloc b).alloc c).alloc d) := by
 have s1 : (w.alloc a).heap.size = w.heap.size + 1 := by simp
 have s2 : ((w.alloc a).alloc b).heap.size = w.heap.size + 1 + 1 := by simp
 have s3 : (((w.alloc a).alloc b).alloc c).heap.size = w.heap.size + 1 + 1 + 1 := by simp
 have e1 := heap_alloc_new w a
 have e2 := heap_alloc_new (w.alloc a) b
 have e3 := heap_alloc_new ((w.alloc a).alloc b) c
 have e4 := heap_alloc_new (((w.alloc a).alloc b).alloc c) d
 rw [s1] at e2
 rw [s2] at e3
 rw [s3] at e4
 refine ⟨by simp, ?_, ?_, ?_, e4, ((((Below.refl _ _).alloc (Nat.le_refl _) _).alloc (by omega) _).alloc (by omega) _).alloc (by omega) _⟩
 ·rw [Below.heap_alloc _ _ _ (by omega), Below.heap_alloc _ _ _ (by omega), Below.heap_alloc _ _ _ (by omega)]; exact e1
 ·rw [Below.heap_alloc _ _ _ (by omega), Below.heap_alloc _ _ _ (by omega)]; exact e2
 ·rw [Below.heap_alloc _ _ _ (by omega)]; exact e3
theorem isNilP (a p : Addr) (W : World) (ha : W.cell? a = some (.pointer (some p))) :
  (ReflectliteValue.method (ReflectliteValue.valueError "reflectlite.Value.IsNil" 0) ReflectliteValue.isNil #[.agg #[.pointer (some ⟨6, 220, none⟩), .pointer (some a), .int .u64 150]]).run Tryz.prog W = .ok (.bool false) W := by
 refine (congrArg (fun m => Sem.run Tryz.prog m W) (show ReflectliteValue.method _ _ _ = (ReflectliteValue.parts (.agg #[.pointer (some ⟨6, 220, none⟩), .pointer (some a), .int .u64 150]) >>= _) from rfl)).trans ?_
 simp only [Sem.run_bind, partsP, Result.andThen]
 simp [ReflectliteValue.isNil, loadVar, isAgg, underlying, Tryz.underlying220, ha, Result.andThen]
theorem elemVP (a p : Addr) (W : World) (ha : W.cell? a = some (.pointer (some p))) :
  (ReflectliteValue.method (ReflectliteValue.valueError "reflectlite.Value.Elem" 0) ReflectliteValue.elem #[.agg #[.pointer (some ⟨6, 220, none⟩), .pointer (some a), .int .u64 150]]).run Tryz.prog W
   = .ok (.agg #[.pointer (some ⟨6, 218, none⟩), .pointer (some p), .int .u64 409]) W := by
 refine (congrArg (fun m => Sem.run Tryz.prog m W) (show ReflectliteValue.method _ _ _ = (ReflectliteValue.parts (.agg #[.pointer (some ⟨6, 220, none⟩), .pointer (some a), .int .u64 150]) >>= _) from rfl)).trans ?_
 simp only [Sem.run_bind, partsP, Result.andThen]
 simp [ReflectliteValue.elem, loadVar, isAgg, underlying, Tryz.underlying220, ha, Result.andThen, elemOfP, mkM]
theorem setM (ta b : Nat) (c : Int) (old : Value) (W : World) (hb : W.heap[b]? = some (.cells #[.int .i64 c] 218)) (ht : W.heap[ta]? = some (.cells #[old] 218)) :
  (ReflectliteValue.set #[.agg #[.pointer (some ⟨6, 218, none⟩), .pointer (some ⟨ta, 0, none⟩), .int .u64 409], .agg #[.pointer (some ⟨6, 218, none⟩), .pointer (some ⟨b, 0, none⟩), .int .u64 153]]).run Tryz.prog W
   = .ok (.tuple #[]) (W.setCell ⟨ta, 0, none⟩ (.int .i64 c)) := by
 have hi : (Tryz.prog.info? 218).map (·.size) = some 1 := by kernel_rfl
 have hld := run_loadVar_row (P := Tryz.prog) W b 218 218 #[.int .i64 c] (0, 0) _ hb Tryz.underlying218 rfl hi
 have hc : W.cell? ⟨ta, 0, none⟩ = some old := by rw [cell_of_row _ _ _ _ _ _ ht]; rfl
 have hf : W.frozen? ⟨ta, 0, none⟩ = false := frz ht 0
 refine (congrArg (fun m => Sem.run Tryz.prog m W) (show ReflectliteValue.set _ = (ReflectliteValue.parts (.agg #[.pointer (some ⟨6, 218, none⟩), .pointer (some ⟨ta, 0, none⟩), .int .u64 409]) >>= fun r => ReflectliteValue.parts (.agg #[.pointer (some ⟨6, 218, none⟩), .pointer (some ⟨b, 0, none⟩), .int .u64 153]) >>= _) from rfl)).trans ?_
 simp only [Sem.run_bind, partsMa, partsM, Result.andThen]
 simp [ReflectliteValue.flagAddr, hld, Result.andThen, directM, storeVar, Value.cells, storeCells, Addr.add]
 rw [run_store Tryz.prog W ⟨ta, 0, none⟩ _ _ (by rfl)]
 simp [hc, hf]
set_option maxHeartbeats 4000000 in
theorem as_hit (c : Int) (t : Nat) (old : Value) (w : World) (hg : w.cell? ⟨4, 0, none⟩ = some (.iface 266 (.agg #[.pointer (some ⟨6, 195, none⟩)]))) (ht0 : w.heap[t]? = some (.cells #[old] 218)) (hgt : 4 < t) :
  Calls Tryz.prog 156 #[.iface 218 (.agg #[.int .i64 c]), .iface 220 (.pointer (some ⟨t, 0, none⟩))] w fun ev w' => ev = .returned (.bool true) ∧ w'.heap[t]? = some (.cells #[.int .i64 c] 218) ∧ Nr t w w' := by
 have h1 := @run_callFunc_extern Tryz.prog 198 _ (fun args => ReflectliteValue.unpack (args.getD 0 (.tuple #[]))) Tryz.func198 (by kernel_rfl) (by kernel_rfl) (by kernel_rfl) (by kernel_rfl)
 have h2 := @run_callFunc_extern Tryz.prog 199 _ (ReflectliteValue.methodAny (ReflectliteValue.valueError "reflectlite.Value.Type" 0) (fun t _ _ _ => ReflectliteType.toType t)) Tryz.func199 (by kernel_rfl) (by kernel_rfl) (by kernel_rfl) (by kernel_rfl)
 have h3 := @run_callFunc_extern Tryz.prog 200 _ (ReflectliteValue.method (ReflectliteValue.valueError "reflectlite.Value.IsNil" 0) ReflectliteValue.isNil) Tryz.func200 (by kernel_rfl) (by kernel_rfl) (by kernel_rfl) (by kernel_rfl)
 have h4 := @run_callFunc_extern Tryz.prog 229 _ (ReflectliteType.abiMethod fun t => do pure (.int .u8 (← Rtype.kind t))) Tryz.func229 (by kernel_rfl) (by kernel_rfl) (by kernel_rfl) (by kernel_rfl)
 have h5 := @run_callFunc_extern Tryz.prog 255 _ (ReflectliteType.method ReflectliteType.elem) Tryz.func255 (by kernel_rfl) (by kernel_rfl) (by kernel_rfl) (by kernel_rfl)
 have h6 := @run_callFunc_extern Tryz.prog 256 _ (ReflectliteType.relation "Implements" ReflectliteType.implements_) Tryz.func256 (by kernel_rfl) (by kernel_rfl) (by kernel_rfl) (by kernel_rfl)
 have h7 := @run_callFunc_extern Tryz.prog 208 _ ReflectliteType.typeOf Tryz.func208 (by kernel_rfl) (by kernel_rfl) (by kernel_rfl) (by kernel_rfl)
 have h8 := @run_callFunc_extern Tryz.prog 253 _ (ReflectliteType.relation "AssignableTo" ReflectliteType.assignableTo) Tryz.func253 (by kernel_rfl) (by kernel_rfl) (by kernel_rfl) (by kernel_rfl)
 have h9 := @run_callFunc_extern Tryz.prog 209 _ (ReflectliteValue.method (ReflectliteValue.valueError "reflectlite.Value.Elem" 0) ReflectliteValue.elem) Tryz.func209 (by kernel_rfl) (by kernel_rfl) (by kernel_rfl) (by kernel_rfl)
 have h10 := @run_callFunc_extern Tryz.prog 210 _ ReflectliteValue.set Tryz.func210 (by kernel_rfl) (by kernel_rfl) (by kernel_rfl) (by kernel_rfl)
 have f1 := typeOfM
 have f2 := methAssignable
 have f3 := assignM
 have f4 := valueM
 have f5 := valueP
 have f6 := typeP
 have f7 := methKind
 have f8 := methElem
 have f9 := methImplements
 have f10 := kindP
 have f11 := kindM
 have f12 := elemT
 have f13 := implM
 have htl : t < w.heap.size := (Array.getElem?_eq_some_iff.1 ht0).1
 have hlt : 4 < w.heap.size := Nat.lt_trans hgt htl
 have n8 := isNilP ⟨w.heap.size, 0, none⟩ ⟨t, 0, none⟩ ((w.alloc (.cells #[.pointer (some ⟨t, 0, none⟩)] 220)).alloc (.cells #[.pointer (some ⟨6, 220, none⟩), .pointer (some ⟨w.heap.size, 0, none⟩), .int .u64 150] 248)) (by simp)
 have hg2 : ((w.alloc (.cells #[.pointer (some ⟨t, 0, none⟩)] 220)).alloc (.cells #[.pointer (some ⟨6, 220, none⟩), .pointer (some ⟨w.heap.size, 0, none⟩), .int .u64 150] 248)).cell? ⟨4, 0, none⟩ = some (.iface 266 (.agg #[.pointer (some ⟨6, 195, none⟩)])) := by
  rw [World.cell?_alloc_lt _ _ ⟨4, 0, none⟩ (by simp <;> omega), World.cell?_alloc_lt _ _ ⟨4, 0, none⟩ hlt]; exact hg
 have el := elemVP ⟨w.heap.size, 0, none⟩ ⟨t, 0, none⟩ (((w.alloc (.cells #[.pointer (some ⟨t, 0, none⟩)] 220)).alloc (.cells #[.pointer (some ⟨6, 220, none⟩), .pointer (some ⟨w.heap.size, 0, none⟩), .int .u64 150] 248)).alloc (.cells #[.pointer (some ⟨6, 220, none⟩), .pointer (some ⟨w.heap.size, 0, none⟩), .int .u64 150] 248)) (by rw [World.cell?_alloc_lt _ _ ⟨w.heap.size, 0, none⟩ (by simp; omega)]; simp)
 obtain ⟨hs, q0, q1, q2, q3, hb⟩ := start4x w (.cells #[.pointer (some ⟨t, 0, none⟩)] 220) (.cells #[.pointer (some ⟨6, 220, none⟩), .pointer (some ⟨w.heap.size, 0, none⟩), .int .u64 150] 248) (.cells #[.pointer (some ⟨6, 220, none⟩), .pointer (some ⟨w.heap.size, 0, none⟩), .int .u64 150] 248) (.cells #[.int .i64 c] 218)
 have htW := (hb.block t htl).trans ht0
 have st := setM t (w.heap.size + 1 + 1 + 1) c old _ q3 htW
 have HT := hide (And.intro (heap_setCell_same _ _ 0 _ _ (.int .i64 c) htW) (((Nr.refl t w).of_below hb).setCell 0 (.int .i64 c)))
 clear q0 q1 q2 q3 hb htW hs
 go_enter Tryz.func156, Tryz.ntmps156
 go_wp2
 refine wp_loop_rounds 1 ?_
 rw [rounds_succ]
 go_wp2
 go_ret
 exact ⟨rfl, (unhide HT).1, (unhide HT).2⟩
def Et (w : World) : Prop := w.cell? ⟨4, 0, none⟩ = some (.iface 266 (.agg #[.pointer (some ⟨6, 195, none⟩)]))
theorem Et.lt {w : World} (h : Et w) : 4 < w.heap.size := World.block_lt_of_cell? w _ h
theorem Et.below {n : Nat} {w w' : World} (h : Et w) (hb : Below n w w') (hn : 4 < n) : Et w' := (hb.cell (p := ⟨4, 0, none⟩) hn).trans h
set_option maxHeartbeats 1000000 in
theorem code_nil (w : World) : Calls Tryz.prog 141 #[.nilIface] w fun e w' => e = .returned (.int .i64 0) ∧ Below w.heap.size w w' := by
 go_enter Tryz.func141, Tryz.ntmps141
 go_wp2_with fail
 refine (as_nil _ _).mono ?_
 rintro e w1 ⟨rfl, rfl⟩
 go_wp2
 go_ret
 exact ⟨rfl, (Below.refl _ _).alloc (Nat.le_refl _) _⟩
set_option maxHeartbeats 1000000 in
theorem code_wrong (c : Int) (w : World) (hE : Et w) : Calls Tryz.prog 141 #[wrong c] w fun e w' => e = .returned (.int .i64 c) ∧ Below w.heap.size w w' := by
 unfold wrong
 have hlt := hE.lt
 have C := hide (as_hit c w.heap.size (.int .i64 0) (w.alloc (.cells #[.int .i64 0] 218)) (hE.below ((Below.refl _ _).alloc (Nat.le_refl _) _) hlt) (heap_alloc_new w _) hlt)
 clear hE
 go_enter Tryz.func141, Tryz.ntmps141
 go_wp2_with fail
 refine (unhide C).mono ?_
 rintro e w1 ⟨rfl, ht, hn⟩
 have hc : w1.cell? ⟨w.heap.size, 0, none⟩ = some (.int .i64 c) := by rw [cell_of_row _ _ _ _ _ _ ht]; rfl
 clear ht C
 go_wp2
 go_ret
 exact ⟨rfl, ((Below.refl _ _).alloc (Nat.le_refl _) _).trans (hn.below (Nat.le_refl _) (by simp))⟩
end Go.Proofs.YtahpjlbaagkdoaaGreatDoor
namespace Go.Proofs.YtahpjlbaagkdoaaGreatDoor
open Go.ChangeShapes Go.WideShapes Go.ChangeAt Go.RowKit
theorem et_at : Tryz.prog.globalNamed "errors.errorType" = some 4 := by kernel_rfl
theorem rt_at : (Tryz.prog.cutTypes.find? (·.1 == "internal/reflectlite.rtype")).map (·.2) = some 266 := by kernel_rfl
theorem one_row : ((List.range 315).filter fun t => Tryz.prog.rowNamed t [101, 114, 114, 111, 114]) = [195] := by kernel_rfl
theorem types_size : Tryz.prog.types.size = 315 := by kernel_rfl
def laidEt : List (String × DataW Unit) := [("errors.errorType", Rows.laid_errors_errorType)]
theorem et_of {W : World} (h : laidMetH Tryz.prog laidEt W) : Et W := by
 have h' : laidMet Tryz.prog [] W ∧ handlesMet Tryz.prog laidEt W := h
 obtain ⟨name, u, ty, e1, e2, e3, e4, e5⟩ := h'.2 _ (List.mem_singleton.2 rfl)
 have en : name = [101, 114, 114, 111, 114] := (Option.some.inj e1).symm
 subst en
 obtain rfl := Option.some.inj (rt_at.symm.trans e2)
 have hm : ty ∈ (List.range 315).filter fun t => Tryz.prog.rowNamed t [101, 114, 114, 111, 114] := List.mem_filter.2 ⟨List.mem_range.2 (by rw [← types_size]; exact e3), e4⟩
 rw [one_row] at hm
 obtain rfl := List.mem_singleton.1 hm
 have hh : typeHandle Tryz.prog 195 = .pointer (some ⟨6, 195, none⟩) := by kernel_rfl
 rw [hh] at e5
 have := World.var?_cell et_at e5 0
 exact this
noncomputable def startEt (os : Os) : World :=
 let w0 := World.holding Tryz.prog os ⟨#[], #[], []⟩
 { w0 with heap := w0.heap.modify 4 fun
   | .cells _ t frozen => .cells #[.iface 266 (.agg #[.pointer (some ⟨6, 195, none⟩)])] t frozen
   | o => o }
end Go.Proofs.YtahpjlbaagkdoaaGreatDoor
