/- A text's bytes in memory: they come of the text, one of them is turned, and they go back into a text; what was Good is then Good no more. -/
import Derived.Test.YtdjlkchdomllhaaDoorCrc
namespace Go.Proofs.YtdjlkchdomllhaaDoor
open Go.RowKit
theorem str_bytes (v : World) (U : ByteArray) :
    ∃ (cap : Nat) (v3 : World), (convert 9 22 (.string U)).run Tryd.prog v = .ok (.slice (some ⟨v.heap.size, 0, none⟩) U.size cap) v3 ∧
      (∀ j (h : j < U.data.toList.length), v3.cell? ⟨v.heap.size, j, none⟩ = some (.int .u8 ((U.data.toList[j]).toNat : Int))) ∧ (∀ j, j < U.size → v3.frozen? ⟨v.heap.size, j, none⟩ = false) ∧ Below v.heap.size v v3 := by
  have hh : ∀ (C : Array Value) (f : Nat × Nat), (v.drew.alloc (.cells C 5 f)).heap[v.heap.size]? = some (.cells C 5 f) := fun C f => heap_alloc_last v.drew _
  refine ⟨_, _, run_bytes_of_string (P := Tryd.prog) v 9 22 5 U Tryd.underlying9 Tryd.underlying22 Tryd.underlying5, ?_, ?_, ?_⟩
  · intro j hj
    have hj' : j < U.size := by rw [Lib.size_eq]; exact hj
    rw [cell_of_row _ _ j _ _ _ (hh _ _)]
    simp [bytesRow, Array.getElem?_append, hj']
  · intro j hj
    have hs : U.size ≤ (bytesRow U (grownCap v U.size 0 5)).size := by
      simp only [bytesRow, Array.size_append, Array.size_map]
      have : U.data.size = U.size := rfl
      omega
    unfold World.frozen?
    simp only [hh]
    rw [Bool.and_eq_false_iff]
    exact Or.inl (decide_eq_false (by omega))
  · exact ((Below.refl _ _).drew).alloc (Nat.le_refl _) _
/-- A text with one byte turned. -/
def turned (U : ByteArray) (r y : Nat) : List Int := (U.data.toList.set r (UInt8.ofNat y)).map fun x => (x.toNat : Int)
theorem turned_data (U : ByteArray) (r y : Nat) : (strOfNums (turned U r y)).data.toList = U.data.toList.set r (UInt8.ofNat y) := by
  rw [strOfNums_data, turned, List.map_map]
  conv => rhs; rw [← List.map_id (U.data.toList.set r (UInt8.ofNat y))]
  apply List.map_congr_left
  intro x _
  simp
theorem bytes_back (v : World) (g cap r y : Nat) (U : ByteArray) (hy : y < 256) (hc : ∀ j (h : j < U.data.toList.length), v.cell? ⟨g, j, none⟩ = some (.int .u8 ((U.data.toList[j]).toNat : Int))) :
    (convert 22 9 (.slice (some ⟨g, 0, none⟩) U.size cap)).run Tryd.prog (v.setCell ⟨g, r, none⟩ (.int .u8 y)) = .ok (.string (strOfNums (turned U r y))) (v.setCell ⟨g, r, none⟩ (.int .u8 y)) := by
  have hl : U.data.toList.length = U.size := (Lib.size_eq U).symm
  refine run_convert_bytes_arg (P := Tryd.prog) _ 22 5 Tryd.underlying22 Tryd.underlying5 g 0 U.size cap (turned U r y) (by simp [turned, hl]) (fun i hi => ?_) 9 Tryd.underlying9
  rw [Nat.zero_add]
  have hi' : i < U.data.toList.length := by omega
  have hd : (turned U r y).getD i 0 = (((U.data.toList.set r (UInt8.ofNat y))[i]'(by simpa using hi')).toNat : Int) := by
    unfold turned
    rw [List.getD_eq_getElem?_getD, List.getElem?_map, List.getElem?_eq_getElem (by simpa using hi')]
    rfl
  rw [hd]
  by_cases h : r = i
  · subst h
    rw [List.getElem_set_self, ofNat_toNat hy]
    exact World.cell?_setCell_same _ _ _ (hc r hi')
  · rw [List.getElem_set_ne h, World.cell?_setCell_other _ _ _ _ (fun e => h (by injection e)), hc i hi']
theorem good_set (U : ByteArray) (b : Bool) (r y : Nat) (hr : r < U.data.toList.length) (hy : y < 256) (hne : y ≠ (U.data.toList[r]).toNat) (hg : goodV U b = true) : goodV (strOfNums (turned U r y)) b = false := by
  refine good_turn U _ b (U.data.toList.take r) (U.data.toList.drop (r + 1)) (U.data.toList[r]) (UInt8.ofNat y) ?_ ?_ ?_ hg
  · rw [List.getElem_cons_drop, List.take_append_drop]
  · rw [turned_data, List.set_eq_take_append_cons_drop, if_pos hr]
  · intro e
    apply hne
    rw [e, ofNat_toNat hy]
/-- What the turning puts there is another byte. -/
theorem xor_turn (c d : Nat) (hc : c < 256) (hd : d < 255) : ∃ y : Nat, bits .xor .u8 (c : Int) (IntKind.u8.wrap (IntKind.i64.wrap (1 + (d : Int)))) = (y : Int) ∧ y < 256 ∧ y ≠ c := by
  have hw : IntKind.u8.wrap (IntKind.i64.wrap (1 + (d : Int))) = ((1 + d : Nat) : Int) := by
    simp only [IntKind.wrap, IntKind.bits, IntKind.signed]
    simp
    omega
  have h := u8_xor_nat c (1 + d) hc (by omega)
  rw [hw]
  refine ⟨c ^^^ (1 + d), h, Nat.xor_lt_two_pow (n := 8) hc (by omega), fun e => ?_⟩
  have e2 : c ^^^ (1 + d) = c ^^^ 0 := by rw [e, Nat.xor_zero]
  have := Fcs.xor_left e2
  omega
end Go.Proofs.YtdjlkchdomllhaaDoor
