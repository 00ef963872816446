/- A text parted at each byte of one kind: the model's l01Split; what lay in memory stands, and the answer's row is its own. -/
import Derived.Test.YtlgbigfdokdgfaaDoorStrRow
import Derived.Test.YtlgbigfdokdgfaaDoorOwnB
import Derived.Deep.DeepCutAuto
namespace Go.Proofs.YtlgbigfdokdgfaaDoor
open Go.RowKit
/-- A text's parts, from a place on. -/
def splitE (t : ByteArray) (by_ : UInt8) (fr i : Nat) : Nat → List ByteArray
  | 0 => [t.extract fr t.size]
  | n + 1 => if (t.data.toList[i]?).getD 0 == by_ then t.extract fr i :: splitE t by_ (i + 1) (i + 1) n else splitE t by_ fr (i + 1) n
/-- A text's parts. -/
def splitOf (t : ByteArray) (by_ : UInt8) : List ByteArray := splitE t by_ 0 0 t.size
set_option maxHeartbeats 2000000 in
theorem specSplit (t : ByteArray) (by_ : UInt8) (w : World) (ht : t.size ≤ 100000) :
    Calls Tryd.prog 28 #[.string t, .int .u8 by_.toNat] w fun e w' => ∃ ad cp, e = .returned (.slice ad (splitOf t by_).length cp) ∧ w'.ownsRow w.heap.size 9 1 (.slice ad (splitOf t by_).length cp) (splitOf t by_).length (scells (splitOf t by_)) ∧ Below w.heap.size w w' := by
  have hw0 : (w.alloc (.cells #[] 9)).ownsRow w.heap.size 9 1 (.slice (some ⟨w.heap.size, 0, none⟩) 0 0) ([] : List ByteArray).length (scells []) := World.ownsRow_lit w #[] 0 (Nat.le_refl _) (Nat.zero_le _) rfl
  have hb0 : Below w.heap.size w (w.alloc (.cells #[] 9)) := (Below.refl _ _).alloc (Nat.le_refl _) _
  have HS : Hid (splitE t by_ 0 0 (t.size - 0) = splitOf t by_) := hide rfl
  have H0 := hide (And.intro hw0 hb0)
  generalize splitOf t by_ = S at *
  clear hw0 hb0
  go_enter Tryd.func28, Tryd.ntmps28
  go_wp2_with fail
  go_loopw [5, 6, 7] (fun x y z wr => ∃ (i fr : Nat) (ad : Option Addr) (cp : Nat) (L : List ByteArray), i ≤ t.size ∧ fr ≤ i ∧ z = .int .i64 i ∧ y = .int .i64 fr ∧ x = .slice ad L.length cp ∧ L.length ≤ i ∧ L ++ splitE t by_ fr i (t.size - i) = S ∧ wr.ownsRow w.heap.size 9 1 (.slice ad L.length cp) L.length (scells L) ∧ Below w.heap.size w wr) (fun _ _ z _ => t.size - (intOf z).toNat)
  case atStart => exact ⟨0, 0, _, _, [], Nat.zero_le _, Nat.le_refl _, rfl, rfl, rfl, Nat.le_refl _, unhide HS, (unhide H0).1, (unhide H0).2⟩
  case round =>
    obtain ⟨i, fr, ad, cp, L, hi, hfr, rfl, rfl, rfl, hLl, hS, ho, hb⟩ := hrel
    clear H0 HS
    have hbs := hb.size
    have d3 : (0 : Int) ≤ (fr : Int) := by omega
    have d4 : (fr : Int) ≤ (i : Int) := by omega
    have d5 : (i : Int) ≤ (t.size : Int) := by omega
    have d6 : (fr : Int) ≤ (t.size : Int) := by omega
    have HO := hide ho
    have HB := hide hb
    have HSS := hide hS
    clear ho hb hS
    by_cases hlt : i < t.size
    · have d1 : (i : Int) < (t.size : Int) := by omega
      have hget : (t.data.toList[i]?).getD 0 = t[i] := by
        rw [List.getElem?_eq_getElem (by rw [Array.length_toList]; exact hlt)]
        rfl
      have HE : Hid (splitE t by_ fr i (t.size - i) = if t[i] == by_ then t.extract fr i :: splitE t by_ (i + 1) (i + 1) (t.size - (i + 1)) else splitE t by_ fr (i + 1) (t.size - (i + 1))) := hide (by
        rw [show t.size - i = (t.size - (i + 1)) + 1 by omega]
        simp only [splitE]
        rw [hget])
      clear hget
      cases hq : (t[i] == by_)
      · have hqi : ((t[i].toNat : Int) == (by_.toNat : Int)) = false := u8_ne (by simpa using hq)
        rw [hq, if_neg (by decide)] at HE
        go_wp2_with fail
        go_roundw
        case rel => exact ⟨i + 1, fr, ad, cp, L, by omega, by omega, by go_num, rfl, rfl, by omega, by rw [← unhide HE]; exact unhide HSS, unhide HO, unhide HB⟩
        case measure => simp [intOf]; omega
      · have hqi : ((t[i].toNat : Int) == (by_.toNat : Int)) = true := by rw [eq_of_beq hq]; exact beq_self_eq_true _
        rw [hq, if_pos rfl] at HE
        go_wp2_with (first
          | (at_builtin; refine append_txt rfl _ _ rfl w.heap.size (.slice ad L.length cp) L L.length rfl rfl (unhide HO) (t.extract fr i) rfl (by omega) hbs ?_; rintro v6 w6 ho6 hg6; obtain ⟨a6, c6, rfl⟩ := own_form ho6))
        have hb6 : Below w.heap.size w w6 := ((unhide HB).alloc hbs _).grown hg6 (by simp; omega) (fun q hq => (World.ownsRow.lt (unhide HO) q hq).1)
        go_roundw
        case rel =>
          have hl1 : L.length + 1 = (L ++ [t.extract fr i]).length := by rw [List.length_append]; rfl
          refine ⟨i + 1, i + 1, a6, c6, L ++ [t.extract fr i], by omega, by omega, by go_num, by go_num, by rw [← hl1], by rw [← hl1]; omega, ?_, by rw [← hl1]; exact ho6, hb6⟩
          rw [← unhide HSS, unhide HE, List.append_assoc]
          rfl
        case measure => simp [intOf]; omega
    · have e : i = t.size := by omega
      subst e
      have d1 : ¬ ((t.size : Int) < (t.size : Int)) := by omega
      have HE : Hid (L ++ [t.extract fr t.size] = S) := hide (by rw [← unhide HSS, Nat.sub_self]; rfl)
      clear HSS
      go_wp2_with (first
        | (at_builtin; refine append_txt rfl _ _ rfl w.heap.size (.slice ad L.length cp) L L.length rfl rfl (unhide HO) (t.extract fr t.size) rfl (by omega) hbs ?_; rintro v6 w6 ho6 hg6; obtain ⟨a6, c6, rfl⟩ := own_form ho6))
      have hb6 : Below w.heap.size w w6 := ((unhide HB).alloc hbs _).grown hg6 (by simp; omega) (fun q hq => (World.ownsRow.lt (unhide HO) q hq).1)
      go_ret
      have hl1 : L.length + 1 = S.length := by rw [← unhide HE, List.length_append]; rfl
      refine ⟨a6, c6, by rw [← hl1]; rfl, ?_, hb6⟩
      rw [← hl1, ← unhide HE]
      exact ho6
end Go.Proofs.YtlgbigfdokdgfaaDoor
