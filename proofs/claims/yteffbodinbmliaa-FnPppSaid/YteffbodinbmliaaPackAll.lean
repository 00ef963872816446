/- PppPack, the program's and the model's, of any number and text; what lay in memory stands. -/
import Derived.Test.YteffbodinbmliaaPackI
namespace Go.Proofs.Yteffbodinbmliaa
open Go.RowKit
/-- What PppPack answers. -/
def packV (x : Int) (t : ByteArray) (a p : Bool) : ByteArray := txt (Pp.pack x t.data.toList a p)
theorem len_data (t : ByteArray) : t.data.toList.length = t.size := by rw [Array.length_toList]; rfl
theorem packV_no {x : Int} {t : ByteArray} {a p : Bool} (h : ¬ (t.size ≤ 8000 ∧ Pp.ok x = true)) : packV x t a p = ⟨#[]⟩ := by
  unfold packV Pp.pack
  rw [len_data, if_neg h]
  rfl
theorem txt_append (l m : List UInt8) : txt (l ++ m) = txt l ++ txt m := by
  apply ByteArray.ext
  simp [txt]
theorem packV_yes {k : Nat} {t : ByteArray} {a p : Bool} (h : t.size ≤ 8000) (ho : Pp.ok (k : Int) = true) (hl : (Pp.head k a p).length + t.size ≤ 8000) : packV k t a p = txt (Pp.head k a p) ++ t := by
  unfold packV Pp.pack
  rw [len_data, if_pos ⟨h, ho⟩, Int.toNat_natCast, if_pos hl, txt_append]
  rfl
theorem packV_long {k : Nat} {t : ByteArray} {a p : Bool} (h : t.size ≤ 8000) (ho : Pp.ok (k : Int) = true) (hl : ¬ ((Pp.head k a p).length + t.size ≤ 8000)) : packV k t a p = ⟨#[]⟩ := by
  unfold packV Pp.pack
  rw [len_data, if_pos ⟨h, ho⟩, Int.toNat_natCast, if_neg hl]
  rfl
theorem str_vals (t : ByteArray) : Lib.strCells t = vals t.data.toList := by
  simp [Lib.strCells, vals, nums]
set_option maxHeartbeats 1000000 in
theorem specPackAll (x : Int) (t : ByteArray) (a p : Bool) (w : World) (ht : t.size ≤ maxLen) :
    Calls Try.prog 6 #[.int .i64 x, .string t, .bool a, .bool p] w fun e w' => e = .returned (.string (packV x t a p)) ∧ Below w.heap.size w w' := by
  unfold maxLen at ht
  have c1 := specProto x w
  by_cases h8 : t.size ≤ 8000
  · have d0 : ¬ ((8000 : Int) < (t.size : Int)) := by omega
    cases hok : Pp.ok x
    · rw [packV_no (fun h => by rw [hok] at h; cases h.2)]
      rw [hok] at c1
      go_enter Try.func6, Try.ntmps6
      go_wp2_with (first
        | (go_at_call 8; refine c1.mono ?_; rintro e w1 ⟨rfl, rfl⟩))
      go_ret
      exact ⟨rfl, Below.refl _ _⟩
    · rw [hok] at c1
      obtain ⟨k, rfl, hk, _, _⟩ := Pp.ok_get hok
      have C2 := hide fun w => specPack_at k t a p w hk h8
      have hV : (txt (Pp.head k a p) ++ t).size = (Pp.head k a p).length + t.size := by rw [ByteArray.size_append, txt_size]
      have hl4 := (Pp.head_len k a p).2
      by_cases hl : (Pp.head k a p).length + t.size ≤ 8000
      · rw [packV_yes h8 hok hl]
        obtain ⟨V, hVe⟩ : ∃ V, txt (Pp.head k a p) ++ t = V := ⟨_, rfl⟩
        rw [hVe] at hV C2 ⊢
        have d1 : ¬ ((8000 : Int) < (V.size : Int)) := by omega
        clear hV hVe hl
        go_enter Try.func6, Try.ntmps6
        go_wp2_with (first
          | (go_at_call 8; refine c1.mono ?_; rintro e w1 ⟨rfl, hw⟩; replace hw := hw.symm; subst hw)
          | (go_at_call 20; refine (unhide C2 _).mono ?_; rintro e w2 ⟨rfl, hb2⟩))
        go_ret
        exact ⟨rfl, hb2⟩
      · rw [packV_long h8 hok hl]
        obtain ⟨V, hVe⟩ : ∃ V, txt (Pp.head k a p) ++ t = V := ⟨_, rfl⟩
        rw [hVe] at hV C2
        have d1 : (8000 : Int) < (V.size : Int) := by omega
        have d2 : V.size ≤ 8004 := by omega
        clear hV hVe hl
        go_enter Try.func6, Try.ntmps6
        go_wp2_with (first
          | (go_at_call 8; refine c1.mono ?_; rintro e w1 ⟨rfl, hw⟩; replace hw := hw.symm; subst hw)
          | (go_at_call 20; refine (unhide C2 _).mono ?_; rintro e w2 ⟨rfl, hb2⟩))
        go_ret
        exact ⟨rfl, hb2⟩
  · rw [packV_no (fun h => h8 h.1)]
    have d0 : (8000 : Int) < (t.size : Int) := by omega
    go_enter Try.func6, Try.ntmps6
    go_wp2
    go_ret
    exact ⟨rfl, Below.refl _ _⟩
theorem str_append {w : World} {ops : Array Oper} {rest : List Oper} {o : Oper} {a : Act} {Q : Exit → Act → World → Prop} (hgd : o.guard = none) (s x : Operand)
    (ho : o.op = .call { callee := .builtin .append, args := #[s, x], argTypes := #[22, 9] })
    (base : Nat) (v : Value) (L : List UInt8) (hs : a.eval s = v) (hown : w.ownsRow base 5 1 v L.length (vals L)) (t : ByteArray) (hx : a.eval x = .string t) (hlen : L.length + t.size ≤ 1000000) (hbase : base ≤ w.heap.size)
    (h : ∀ v' w', w'.ownsRow base 5 1 v' (L.length + t.size) (vals (L ++ t.data.toList)) → Below base w w' → wpList Try.prog ops Q rest (a.put o.dst v') w') : wpList Try.prog ops Q (o :: rest) a w := by
  obtain ⟨ui, hi1, hi2, hi3, hi4⟩ := u8info
  refine Lib.wpList_append_own_string w hgd s x 22 9 ho base 5 ui Try.underlying22 Try.underlying9 hi1 hi2 hi3 hi4 v L.length (vals L) hs hown t hx (by unfold maxLen; omega) (by omega) hbase ?_
  intro v' w' h1 h2 _
  refine h v' w' ?_ ((Below.refl _ _).grown h2 hbase (fun q hq => (World.ownsRow.lt hown q hq).1))
  rw [vals_append, ← str_vals]
  exact h1
set_option maxHeartbeats 1000000 in
theorem implPackAll (x : Int) (t : ByteArray) (a p : Bool) (w : World) (ht : t.size ≤ maxLen) :
    Calls Try.prog 5 #[.int .i64 x, .string t, .bool a, .bool p] w fun e w' => e = .returned (.string (packV x t a p)) ∧ Below w.heap.size w w' := by
  unfold maxLen at ht
  have c1 := implProto x w
  by_cases h8 : t.size ≤ 8000
  · have d0 : ¬ ((8000 : Int) < (t.size : Int)) := by omega
    cases hok : Pp.ok x
    · rw [packV_no (fun h => by rw [hok] at h; cases h.2)]
      rw [hok] at c1
      go_enter Try.func5, Try.ntmps5
      go_wp2_with (first
        | (go_at_call 7; refine c1.mono ?_; rintro e w1 ⟨rfl, rfl⟩))
      go_ret
      exact ⟨rfl, Below.refl _ _⟩
    · rw [hok] at c1
      obtain ⟨k, rfl, hk, _, _⟩ := Pp.ok_get hok
      have C2 := hide fun w => pairOf k hk w
      have C3 := hide fun w => implHead k a p w hk
      have hl4 := (Pp.head_len k a p).2
      by_cases hl : (Pp.head k a p).length + t.size ≤ 8000
      case' pos => rw [packV_yes h8 hok hl]
      case' neg => rw [packV_long h8 hok hl]
      all_goals
        generalize Pp.head k a p = L at *
        first
          | (have dl : ¬ ((8000 : Int) < (L.length : Int) + (t.size : Int)) := by omega)
          | (have dl : (8000 : Int) < (L.length : Int) + (t.size : Int) := by omega)
        go_enter Try.func5, Try.ntmps5
        go_wp2_with (first
          | (go_at_call 7; refine c1.mono ?_; rintro e w1 ⟨rfl, hw⟩; replace hw := hw.symm; subst hw)
          | (go_at_call 19; refine (unhide C2 _).mono ?_; rintro e w2 ⟨rfl, hw2⟩; have hb2 : Below w.heap.size w w2 := by { rw [hw2]; exact (Below.refl _ _).alloc (Nat.le_refl _) _ }; clear hw2)
          | (go_at_call 18; refine (unhide C3 _).mono ?_; rintro e w3 ⟨v3, rfl, ho3, hb3⟩; have HO3 := hide ho3; clear ho3)
          | (at_builtin; refine str_append rfl _ _ rfl w2.heap.size v3 L rfl (unhide HO3) t rfl (by omega) hb3.size ?_; rintro v4 w4 ho4 hb4; obtain ⟨ad, cp, rfl⟩ := own_form ho4; have hcv := own_conv ho4; clear ho4 HO3))
        go_ret
        refine ⟨?_, (hb2.trans (hb3.mono hb2.size)).trans (hb4.mono hb2.size)⟩
        first
          | rfl
          | (rw [txt_append]; rfl)
  · rw [packV_no (fun h => h8 h.1)]
    have d0 : (8000 : Int) < (t.size : Int) := by omega
    go_enter Try.func5, Try.ntmps5
    go_wp2
    go_ret
    exact ⟨rfl, Below.refl _ _⟩
end Go.Proofs.Yteffbodinbmliaa
