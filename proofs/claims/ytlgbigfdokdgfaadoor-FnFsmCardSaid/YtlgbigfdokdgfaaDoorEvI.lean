/- The program's table of events: FsmEvents and eventNumber; what lay in memory stands, and the answer's row is its own; the table lies as the program's text lays it. -/
import Derived.Test.YtlgbigfdokdgfaaDoorFsmS
namespace Go.Proofs.YtlgbigfdokdgfaaDoor
open Go.RowKit
/-- The events' names lie in the program's variable. -/
def EvT (w : World) : Prop := ∀ (i : Nat) (t : ByteArray), evTexts[i]? = some t → w.cell? ⟨1, i, none⟩ = some (.string t)
theorem EvT.below {w w' : World} (h : EvT w) (hb : Below w.heap.size w w') : EvT w' := fun i t ht => (hb.cell (p := ⟨1, i, none⟩) (World.block_lt_of_cell? _ _ (h i t ht))).trans (h i t ht)
theorem evTexts_len : evTexts.length = 16 := rfl
set_option maxHeartbeats 2000000 in
theorem evNum (t : ByteArray) (w : World) (hT : EvT w) : Calls Tryd.prog 23 #[.string t] w fun e w' => w' = w ∧ ((∃ i : Nat, evTexts[i]? = some t ∧ e = .returned (.tuple #[.int .i64 i, .bool true])) ∨ ((∀ i : Nat, evTexts[i]? ≠ some t) ∧ e = .returned (.tuple #[.int .i64 0, .bool false]))) := by
  have hl := evTexts_len
  have HT : Hid (∀ (i : Nat) (h : i < evTexts.length), w.cell? ⟨1, i, none⟩ = some (.string evTexts[i])) := hide fun i h => hT i _ (List.getElem?_eq_getElem h)
  clear hT
  generalize evTexts = L at *
  go_enter Tryd.func23, Tryd.ntmps23
  go_wp2_with fail
  go_loop [4, 5] (fun x y => ∃ (i : Nat), i ≤ 16 ∧ y = .int .i64 i ∧ ∀ j : Nat, j < i → L[j]? ≠ some t) (fun x y => 16 - (intOf y).toNat)
  case atStart => exact ⟨0, Nat.zero_le _, rfl, fun j h => absurd h (Nat.not_lt_zero _)⟩
  case round =>
    obtain ⟨i, hi, rfl, hf⟩ := hrel
    have HF := hide hf
    clear hf
    by_cases hlt : i < 16
    · have d1 : (i : Int) < 16 := by omega
      have d0 : (0 : Int) ≤ (i : Int) := by omega
      have k1 := unhide HT i (by omega)
      obtain ⟨x, hx⟩ : ∃ x, L[i]'(by omega) = x := ⟨_, rfl⟩
      rw [hx] at k1
      have HX : Hid (L[i]? = some x) := hide (by rw [List.getElem?_eq_getElem (by omega), hx])
      clear hx HT
      cases hq : (x.toList == t.toList)
      · go_wp2_with fail
        go_round
        case rel =>
          refine ⟨i + 1, by omega, by go_num, fun j hj e => ?_⟩
          by_cases hji : j < i
          · exact unhide HF j hji e
          · have : j = i := by omega
            subst this
            rw [unhide HX] at e
            rw [Option.some.inj e, beq_self_eq_true] at hq
            cases hq
        case measure => simp [intOf]; omega
      · have hxt : x = t := by
          have := eq_of_beq hq
          rw [ByteArray.toList_eq, ByteArray.toList_eq] at this
          exact ByteArray.ext (Array.toList_inj.1 this)
        go_wp2
        exact bodyPost_ret (v := .tuple #[.int .i64 i, .bool true]) (by simp [results, Tryd.results23, go_sem]) rfl ⟨rfl, Or.inl ⟨i, by rw [unhide HX, hxt], rfl⟩⟩
    · have e : i = 16 := by omega
      subst e
      clear HT
      go_wp2
      refine bodyPost_ret (v := .tuple #[.int .i64 0, .bool false]) (by simp [results, Tryd.results23, go_sem]) rfl ⟨rfl, Or.inr ⟨fun j hj => ?_, rfl⟩⟩
      by_cases hj16 : j < 16
      · exact unhide HF j hj16 hj
      · rw [List.getElem?_eq_none (by omega)] at hj
        cases hj
set_option maxHeartbeats 2000000 in
/-- The program's events, in a row of its own. -/
theorem implEvents (w : World) (hT : EvT w) : Calls Tryd.prog 9 #[] w fun e w' => ∃ ad cp, e = .returned (.slice ad evTexts.length cp) ∧ w'.ownsRow w.heap.size 9 1 (.slice ad evTexts.length cp) evTexts.length (scells evTexts) ∧ Below w.heap.size w w' := by
  have hl := evTexts_len
  have HT := hide hT
  have HC : Hid (∀ (i : Nat) (h : i < evTexts.length) (w' : World), Below w.heap.size w w' → w'.cell? ⟨1, i, none⟩ = some (.string evTexts[i])) := hide fun i h w' hb => (hT.below hb) i _ (List.getElem?_eq_getElem h)
  clear hT HT
  generalize evTexts = F at *
  go_enter Tryd.func9, Tryd.ntmps9
  go_wp2_with fail
  go_loopw [1, 2, 3] (fun x y z wr => ∃ (i : Nat) (ad : Option Addr) (cp : Nat), i ≤ 16 ∧ z = .int .i64 i ∧ x = .slice ad (F.take i).length cp ∧ wr.ownsRow w.heap.size 9 1 (.slice ad (F.take i).length cp) (F.take i).length (scells (F.take i)) ∧ Below w.heap.size w wr) (fun x y z wr => 16 - (intOf z).toNat)
  case atStart => exact ⟨0, none, 0, Nat.zero_le _, rfl, rfl, ⟨rfl, Or.inl ⟨rfl, rfl⟩⟩, Below.refl _ _⟩
  case round =>
    obtain ⟨i, ad, cp, hi, rfl, rfl, ho, hb⟩ := hrel
    have hbs := hb.size
    have HO := hide ho
    have HB := hide hb
    by_cases hlt : i < 16
    · have d1 : (i : Int) < 16 := by omega
      have d0 : (0 : Int) ≤ (i : Int) := by omega
      have k1 := unhide HC i (by omega) _ hb
      have HS : Hid (F.take (i + 1) = F.take i ++ [F[i]'(by omega)]) := hide (List.take_succ_eq_append_getElem (by omega))
      have hLl : (F.take i).length ≤ i := by rw [List.length_take]; omega
      generalize F[i]'(by omega) = x at *
      generalize F.take i = L at *
      clear ho hb HC
      go_wp2_with (first
        | (at_builtin; refine append_txt rfl _ _ rfl w.heap.size (.slice ad L.length cp) L L.length rfl rfl (unhide HO) x rfl (by omega) hbs ?_; rintro v6 w6 ho6 hg6; obtain ⟨a6, c6, rfl⟩ := own_form ho6))
      have hb6 : Below w.heap.size w w6 := ((unhide HB).alloc hbs _).grown hg6 (by simp; omega) (fun q hq => (World.ownsRow.lt (unhide HO) q hq).1)
      go_roundw
      case rel => exact ⟨i + 1, a6, c6, by omega, by go_num, by rw [unhide HS, List.length_append]; rfl, by rw [unhide HS, List.length_append]; exact ho6, hb6⟩
      case measure => simp [intOf]; omega
    · have e : i = 16 := by omega
      subst e
      have HT16 : Hid (F.take 16 = F) := hide (List.take_of_length_le (by omega))
      clear ho hb HC
      go_wp2
      go_ret
      rw [unhide HT16] at HO ⊢
      exact ⟨ad, cp, rfl, unhide HO, unhide HB⟩
end Go.Proofs.YtlgbigfdokdgfaaDoor
