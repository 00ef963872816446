/- OptionsRead, the program's and the model's: of any text the options, and a code; the answer lies in new memory, and what lay there stands; the program's under the library's variable errors.errorType as it is laid. -/
import Derived.Test.YtgelbobocjgdaaaDoorOptsOf
import Derived.Test.YtgelbobocjgdaaaDoorSpecOpt
import Derived.Test.YtgelbobocjgdaaaDoorAsHit
namespace Go.Proofs.YtgelbobocjgdaaaDoor
open Go.RowKit
/-- What OptionsRead answers: the options, and a code. -/
def oread (t : ByteArray) : List Op.Opt × Int :=
  if 8000 < t.size then ([], 2) else
  match Op.acc [] t.data.toList with
  | none => ([], 3)
  | some L => (L, 0)
theorem oread_long {t : ByteArray} (h : 8000 < t.size) : oread t = ([], 2) := by unfold oread; rw [if_pos h]
theorem oread_none {t : ByteArray} (h : ¬ 8000 < t.size) (ha : Op.acc [] t.data.toList = none) : oread t = ([], 3) := by unfold oread; rw [if_neg h, ha]
theorem oread_some {t : ByteArray} {L : List Op.Opt} (h : ¬ 8000 < t.size) (ha : Op.acc [] t.data.toList = some L) : oread t = (L, 0) := by unfold oread; rw [if_neg h, ha]
theorem oread_right (t : ByteArray) : Op.right (oread t).1 = true := by
  by_cases h : 8000 < t.size
  · rw [oread_long h]; rfl
  · cases ha : Op.acc [] t.data.toList with
    | none => rw [oread_none h ha]; rfl
    | some L => rw [oread_some h ha]; exact Op.acc_right ha
/-- The answer as it lies in memory. -/
def OrOut (w w' : World) (o : List Op.Opt × Int) (e : Ending) : Prop :=
  ∃ ad cp, e = .returned (.agg #[.slice ad o.1.length cp, .int .i64 o.2]) ∧ w'.ownsRow w.heap.size 95 2 (.slice ad o.1.length cp) o.1.length (ocells o.1) ∧ Below w.heap.size w w'
theorem own_nil0 (w : World) (n : Nat) : w.ownsRow n 95 2 (.slice none 0 0) 0 (ocells []) := ⟨rfl, Or.inl ⟨rfl, rfl⟩⟩
theorem infoOo : (Tryd.prog.info? 54).map (·.size) = some 2 := by kernel_rfl
theorem load2 {W : World} {E : Nat} {x0 x1 : Value} (h : W.heap[E]? = some (.cells #[x0, x1] 54)) : (loadVar 54 ⟨E, 0, none⟩).run Tryd.prog W = .ok (.agg #[x0, x1]) W :=
  run_loadVar_row (P := Tryd.prog) _ _ 54 54 #[x0, x1] (0, 0) _ h Tryd.underlying54 rfl infoOo
theorem set2_at {W : World} {E : Nat} {z0 z1 : Value} {T : TypeId} (h : W.heap[E]? = some (.cells #[z0, z1] T)) (x0 x1 : Value) :
    ((W.setCell ⟨E, 0, none⟩ x0).setCell ⟨E, 1, none⟩ x1).heap[E]? = some (.cells #[x0, x1] T) :=
  heap_setCell_same _ _ 1 _ _ x1 (heap_setCell_same _ _ 0 _ _ x0 h)
theorem row2w {w : World} {B : Nat} {x0 x1 : Value} {T : TypeId} (h : w.heap[B]? = some (.cells #[x0, x1] T)) :
    w.cell? ⟨B, 0, none⟩ = some x0 ∧ w.cell? ⟨B, 1, none⟩ = some x1 ∧ w.frozen? ⟨B, 0, none⟩ = false ∧ w.frozen? ⟨B, 1, none⟩ = false :=
  ⟨by rw [cell_of_row _ _ _ _ _ _ h]; rfl, by rw [cell_of_row _ _ _ _ _ _ h]; rfl, frz h _, frz h _⟩
theorem own_two {W : World} {base base' E : Nat} {v : Value} {n : Nat} {xs : List Value} (h : W.ownsRow base 95 2 v n xs) (hE : E < base) (hb : base' ≤ base) (x0 x1 : Value) :
    ((W.setCell ⟨E, 0, none⟩ x0).setCell ⟨E, 1, none⟩ x1).ownsRow base' 95 2 v n xs := by
  have h2 : ((W.setCell ⟨E, 0, none⟩ x0).setCell ⟨E, 1, none⟩ x1).ownsRow base 95 2 v n xs := own_same h fun g hg _ => by
    have hne : g ≠ E := by omega
    rw [Below.heap_setCell _ ⟨E, 1, none⟩ _ g hne, Below.heap_setCell _ ⟨E, 0, none⟩ _ g hne]
  exact ⟨h2.1, h2.2.imp id fun ⟨g, cap, cur, h1, q, h3⟩ => ⟨g, cap, cur, h1, Nat.le_trans hb q, h3⟩⟩
set_option maxHeartbeats 4000000 in
theorem specOptsRead (t : ByteArray) (w : World) (ht : t.size ≤ maxLen) :
    Calls Tryd.prog 33 #[.string t] w fun e w' => OrOut w w' (oread t) e := by
  unfold maxLen at ht
  by_cases h8 : 8000 < t.size
  · have d0 : (8000 : Int) < (t.size : Int) := by omega
    rw [oread_long h8]
    go_enter Tryd.func33, Tryd.ntmps33
    go_wp2
    refine bodyPost_ret (v := .agg #[.slice none 0 0, .int .i64 2]) (by simp [results, Tryd.results33, go_sem]) rfl ⟨none, 0, rfl, own_nil0 _ _, (Below.refl _ _).alloc (Nat.le_refl _) _⟩
  · have d0 : ¬ ((8000 : Int) < (t.size : Int)) := by omega
    have C := hide fun v => specRead t v (by omega)
    have hO0 := heap_alloc_new w (.cells #[.slice none 0 0, .int .i64 0] 54)
    have hsz : (w.alloc (.cells #[.slice none 0 0, .int .i64 0] 54)).heap.size = w.heap.size + 1 := by simp
    have HO0 := hide (And.intro hO0 hsz)
    have HA : Hid (Op.acc [] t.data.toList = (Op.rd t.data.toList).bind fun L => if Op.right L = true then some L else none) := hide rfl
    have HN := hide (oread_none h8)
    have HS := hide fun L => oread_some (L := L) h8
    clear hO0 hsz
    go_enter Tryd.func33, Tryd.ntmps33
    go_wp2_with fail
    refine (unhide C _).mono ?_
    rintro e w1 h
    have hsz := (unhide HO0).2
    rcases h with ⟨hres, rfl, hb1⟩ | ⟨L, ad, cp, hres, rfl, ho, hb1⟩
    · have hO1 := (hb1.block w.heap.size (by omega)).trans (unhide HO0).1
      have hB1 : Below w.heap.size w w1 := ((Below.refl _ _).alloc (Nat.le_refl _) _).trans (hb1.mono (by omega))
      obtain ⟨c0, c1, f0, f1⟩ := row2w hO1
      have FIN := hide fun x0 x1 => load2 (set2_at hO1 x0 x1)
      have HR : Hid (oread t = ([], 3)) := hide (unhide HN (by rw [unhide HA, hres]; rfl))
      clear C HO0 HA HN HS hres hO1 hb1 hsz
      go_wp2
      refine bodyPost_ret (v := .agg #[.slice none 0 0, .int .i64 3]) (by simp [results, Tryd.results33, asAddr, unhide FIN]) rfl ?_
      rw [unhide HR]
      exact ⟨none, 0, rfl, own_nil0 _ _, (hB1.setCell (p := ⟨w.heap.size, 0, none⟩) (Nat.le_refl _) _).setCell (p := ⟨w.heap.size, 1, none⟩) (Nat.le_refl _) _⟩
    · have hO1 := (hb1.block w.heap.size (by omega)).trans (unhide HO0).1
      have hB1 : Below w.heap.size w w1 := ((Below.refl _ _).alloc (Nat.le_refl _) _).trans (hb1.mono (by omega))
      obtain ⟨c0, c1, f0, f1⟩ := row2w hO1
      have FIN := hide fun x0 x1 => load2 (set2_at hO1 x0 x1)
      rw [hsz] at ho
      have HO := hide ho
      cases hr : Op.right L
      · have HR : Hid (oread t = ([], 3)) := hide (unhide HN (by rw [unhide HA, hres, Option.bind_some, if_neg (by rw [hr]; decide)]))
        clear C HO0 HA HN HS hres hO1 hb1 hsz hr ho
        go_wp2
        refine bodyPost_ret (v := .agg #[.slice none 0 0, .int .i64 3]) (by simp [results, Tryd.results33, asAddr, unhide FIN]) rfl ?_
        rw [unhide HR]
        exact ⟨none, 0, rfl, own_nil0 _ _, (hB1.setCell (p := ⟨w.heap.size, 0, none⟩) (Nat.le_refl _) _).setCell (p := ⟨w.heap.size, 1, none⟩) (Nat.le_refl _) _⟩
      · have HR : Hid (oread t = (L, 0)) := hide (unhide HS L (by rw [unhide HA, hres, Option.bind_some, if_pos hr]))
        clear C HO0 HA HN HS hres hO1 hb1 hsz hr ho
        go_wp2
        refine bodyPost_ret (v := .agg #[.slice ad L.length cp, .int .i64 0]) (by simp [results, Tryd.results33, asAddr, unhide FIN]) rfl ?_
        rw [unhide HR]
        exact ⟨ad, cp, rfl, own_two (unhide HO) (Nat.lt_succ_self _) (Nat.le_succ _) _ _, (hB1.setCell (p := ⟨w.heap.size, 0, none⟩) (Nat.le_refl _) _).setCell (p := ⟨w.heap.size, 1, none⟩) (Nat.le_refl _) _⟩
set_option maxHeartbeats 4000000 in
theorem implOptsRead (t : ByteArray) (w : World) (ht : t.size ≤ maxLen) (hE : Et w) :
    Calls Tryd.prog 31 #[.string t] w fun e w' => OrOut w w' (oread t) e := by
  have hlt0 := hE.lt
  unfold maxLen at ht
  by_cases h8 : 8000 < t.size
  · have d0 : (8000 : Int) < (t.size : Int) := by omega
    rw [oread_long h8]
    go_enter Tryd.func31, Tryd.ntmps31
    go_wp2
    refine bodyPost_ret (v := .agg #[.slice none 0 0, .int .i64 2]) (by simp [results, Tryd.results31, go_sem]) rfl ⟨none, 0, rfl, own_nil0 _ _, (Below.refl _ _).alloc (Nat.le_refl _) _⟩
  · have d0 : ¬ ((8000 : Int) < (t.size : Int)) := by omega
    have hl8 : t.data.toList.length ≤ 8000 := by rw [len_dat]; omega
    obtain ⟨cap, W1, hcv, hcap, hl1, hb1, hlt1⟩ := bytes_of t (w.alloc (.cells #[.slice none 0 0, .int .i64 0] 54))
    have hW : (w.alloc (.cells #[.slice none 0 0, .int .i64 0] 54)).heap.size = w.heap.size + 1 := by simp
    rw [hW] at hcv hb1 hlt1 hl1
    have C1 := hide (optionsOf W1 (w.heap.size + 1) _ t.data.toList hl8 hlt1 ⟨0, cap, rfl, hcap, hl1⟩)
    rw [len_dat] at C1 hcv
    have hO1 : W1.heap[w.heap.size]? = some (.cells #[.slice none 0 0, .int .i64 0] 54) := (hb1.block w.heap.size (Nat.lt_succ_self _)).trans (heap_alloc_new w _)
    have hB1 : Below w.heap.size w W1 := ((Below.refl _ _).alloc (Nat.le_refl _) _).trans (hb1.mono (Nat.le_succ _))
    have HX := hide (And.intro hO1 hB1)
    have HN := hide (oread_none h8)
    have HS := hide fun L => oread_some (L := L) h8
    have hl1' : w.heap.size + 1 ≤ W1.heap.size := Nat.le_of_lt hlt1
    clear hl1 hb1 hO1 hB1 hcap hW hl8
    go_enter Tryd.func31, Tryd.ntmps31
    go_wp2_with fail
    refine (unhide C1).mono ?_
    rintro e W2 h
    rcases h with ⟨hres, rfl, hb2⟩ | ⟨L, ad, cp, hres, rfl, ho, hb2⟩
    · have hO2 := (hb2.block w.heap.size (by omega)).trans (unhide HX).1
      have hB2 : Below w.heap.size w W2 := (unhide HX).2.trans (hb2.mono (unhide HX).2.size)
      have HR : Hid (oread t = ([], 3)) := hide (unhide HN hres)
      have hlt2 : w.heap.size < W2.heap.size := (Array.getElem?_eq_some_iff.1 hO2).1
      have C2 := hide (code_wrong 3 W2 (hE.below hB2 hlt0))
      have HO2 := hide (And.intro hO2 hB2)
      clear HX C1 hcv hb2 HN HS hres hO2 hB2 hE
      go_wp2_with fail
      refine (unhide C2).mono ?_
      rintro e w3 ⟨rfl, hb3⟩
      have hO3 := (hb3.block w.heap.size hlt2).trans (unhide HO2).1
      have hB3 := (unhide HO2).2.trans (hb3.mono (unhide HO2).2.size)
      obtain ⟨c0, c1, f0, f1⟩ := row2w hO3
      have FIN := hide fun x0 x1 => load2 (set2_at hO3 x0 x1)
      clear C2 HO2 hO3 hb3
      go_wp2
      refine bodyPost_ret (v := .agg #[.slice none 0 0, .int .i64 3]) (by simp [results, Tryd.results31, asAddr, unhide FIN]) rfl ?_
      rw [unhide HR]
      exact ⟨none, 0, rfl, own_nil0 _ _, (hB3.setCell (p := ⟨w.heap.size, 0, none⟩) (Nat.le_refl _) _).setCell (p := ⟨w.heap.size, 1, none⟩) (Nat.le_refl _) _⟩
    · have hO2 := (hb2.block w.heap.size (by omega)).trans (unhide HX).1
      have hB2 : Below w.heap.size w W2 := (unhide HX).2.trans (hb2.mono (unhide HX).2.size)
      have HR : Hid (oread t = (L, 0)) := hide (unhide HS L hres)
      have hlt2 : w.heap.size < W2.heap.size := (Array.getElem?_eq_some_iff.1 hO2).1
      have C2 := hide (code_nil W2)
      have HO2 := hide (And.intro hO2 hB2)
      have HOW := hide ho
      clear HX C1 hcv HN HS hres hO2 hB2 hE ho hb2
      go_wp2_with fail
      refine (unhide C2).mono ?_
      rintro e w3 ⟨rfl, hb3⟩
      have hO3 := (hb3.block w.heap.size hlt2).trans (unhide HO2).1
      have hB3 := (unhide HO2).2.trans (hb3.mono (unhide HO2).2.size)
      have HOW3 := hide (own_same (unhide HOW) fun p _ hp => hb3.block p hp)
      obtain ⟨c0, c1, f0, f1⟩ := row2w hO3
      have FIN := hide fun x0 x1 => load2 (set2_at hO3 x0 x1)
      clear C2 HO2 hO3 hb3 HOW
      go_wp2
      refine bodyPost_ret (v := .agg #[.slice ad L.length cp, .int .i64 0]) (by simp [results, Tryd.results31, asAddr, unhide FIN]) rfl ?_
      rw [unhide HR]
      exact ⟨ad, cp, rfl, own_two (unhide HOW3) (by omega) (by omega) _ _, (hB3.setCell (p := ⟨w.heap.size, 0, none⟩) (Nat.le_refl _) _).setCell (p := ⟨w.heap.size, 1, none⟩) (Nat.le_refl _) _⟩
end Go.Proofs.YtgelbobocjgdaaaDoor
