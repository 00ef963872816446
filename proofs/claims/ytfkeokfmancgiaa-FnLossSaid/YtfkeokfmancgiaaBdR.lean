/- Is a bundle right: the program's walk; what lay in memory stands. -/
import Derived.Test.YtfkeokfmancgiaaBdV
import Derived.Test.YtfkeokfmancgiaaFgB
namespace Go.Proofs.Ytfkeokfmancgiaa
open Go.RowKit
/-- A row of parts, wherever it lies. -/
def HoldsF (w : World) (v : Value) (F : List Fg) : Prop :=
  (∃ ad cp, v = .slice ad F.length cp) ∧ ∀ i (h : i < F.length), ∃ g o cp, v = .slice (some ⟨g, o, none⟩) F.length cp ∧ g < w.heap.size ∧ w.cell? ⟨g, o + i * 4, none⟩ = some (.int .i64 F[i].seq) ∧ w.cell? ⟨g, o + i * 4 + 1, none⟩ = some (.bool F[i].beg) ∧ w.cell? ⟨g, o + i * 4 + 2, none⟩ = some (.bool F[i].fin) ∧ w.cell? ⟨g, o + i * 4 + 3, none⟩ = some (.string F[i].text)
/-- A row of numbers, wherever it lies. -/
def HoldsN9 (w : World) (v : Value) (L : List Int) : Prop :=
  (∃ ad cp, v = .slice ad L.length cp) ∧ ∀ i (h : i < L.length), ∃ g o cp, v = .slice (some ⟨g, o, none⟩) L.length cp ∧ g < w.heap.size ∧ w.cell? ⟨g, o + i, none⟩ = some (.int .i64 L[i])
theorem HoldsF.below {w w' : World} {v : Value} {F : List Fg} (h : HoldsF w v F) (hb : Below w.heap.size w w') : HoldsF w' v F :=
  ⟨h.1, fun i hi => by
    obtain ⟨g, o, cp, h1, h2, h3, h4, h5, h6⟩ := h.2 i hi
    exact ⟨g, o, cp, h1, Nat.lt_of_lt_of_le h2 hb.size, (hb.cell (p := ⟨g, _, none⟩) h2).trans h3, (hb.cell (p := ⟨g, _, none⟩) h2).trans h4, (hb.cell (p := ⟨g, _, none⟩) h2).trans h5, (hb.cell (p := ⟨g, _, none⟩) h2).trans h6⟩⟩
theorem HoldsN9.below {w w' : World} {v : Value} {L : List Int} (h : HoldsN9 w v L) (hb : Below w.heap.size w w') : HoldsN9 w' v L :=
  ⟨h.1, fun i hi => by
    obtain ⟨g, o, cp, h1, h2, h3⟩ := h.2 i hi
    exact ⟨g, o, cp, h1, Nat.lt_of_lt_of_le h2 hb.size, (hb.cell (p := ⟨g, _, none⟩) h2).trans h3⟩⟩
theorem HoldsG.f {w : World} {v : Value} {F : List Fg} (h : HoldsG w v F) : HoldsF w v F := by
  refine ⟨h.form, fun i hi => ?_⟩
  rcases h with ⟨ad, cp, e, e0⟩ | ⟨g, cp, cur, e, q1, q2, q3⟩
  · subst e0
    exact absurd hi (by simp)
  · have hg := fgcells_get F i F[i] (List.getElem?_eq_getElem hi)
    refine ⟨g, 0, cp, e, (Array.getElem?_eq_some_iff.1 q1).1, ?_, ?_, ?_, ?_⟩
    all_goals rw [Nat.zero_add, cell_of_row _ _ _ _ _ _ q1, q3 _ (by omega)]
    · exact hg.1
    · exact hg.2.1
    · exact hg.2.2.1
    · exact hg.2.2.2
theorem HoldsI.f {w : World} {v : Value} {L : List Int} (h : HoldsI w v L) : HoldsN9 w v L := by
  refine ⟨h.form, fun i hi => ?_⟩
  rcases h with ⟨ad, cp, e, e0⟩ | ⟨g, cp, cur, e, q1, q2, q3⟩
  · subst e0
    exact absurd hi (by simp)
  · refine ⟨g, 0, cp, e, (Array.getElem?_eq_some_iff.1 q1).1, ?_⟩
    rw [Nat.zero_add, cell_of_row _ _ _ _ _ _ q1, q3 _ hi]
    exact icells_get L i _ (List.getElem?_eq_getElem hi)
/-- What came ahead of a part. -/
def preS (F : List Fg) (i : Nat) : Int := if i = 0 then -1 else ((F[i - 1]?).map Fg.seq).getD 0
def lnOk (L : List Int) : Prop := (1 ≤ L.length ∧ L.length ≤ 8) ∧ ∀ i (h : i < L.length), -1 ≤ L[i] ∧ L[i] ≤ 16777215
def ptOk (F : List Fg) : Prop := F.length ≤ 40 ∧ ∀ i (h : i < F.length), fgOk F[i] = true ∧ preS F i < F[i].seq
/-- Is it right? -/
noncomputable def bdOk (L : List Int) (F : List Fg) : Bool := @decide (lnOk L ∧ ptOk F) (Classical.propDecidable _)
noncomputable def lnB (L : List Int) : Bool := @decide (lnOk L) (Classical.propDecidable _)
noncomputable def ptB (F : List Fg) : Bool := @decide (ptOk F) (Classical.propDecidable _)
theorem bdOk_and (L : List Int) (F : List Fg) : bdOk L F = (lnB L && ptB F) := by
  unfold bdOk lnB ptB
  by_cases h1 : lnOk L
  · by_cases h2 : ptOk F
    · rw [@decide_eq_true _ (_) ⟨h1, h2⟩, @decide_eq_true _ (_) h1, @decide_eq_true _ (_) h2]
      rfl
    · rw [@decide_eq_false _ (_) (fun h => h2 h.2), @decide_eq_false _ (_) h2, Bool.and_false]
  · rw [@decide_eq_false _ (_) (fun h => h1 h.1), @decide_eq_false _ (_) h1, Bool.false_and]
theorem lnB_t {L : List Int} (h : lnOk L) : lnB L = true := @decide_eq_true _ (_) h
theorem lnB_f {L : List Int} (h : ¬ lnOk L) : lnB L = false := @decide_eq_false _ (_) h
theorem ptB_t {F : List Fg} (h : ptOk F) : ptB F = true := @decide_eq_true _ (_) h
theorem ptB_f {F : List Fg} (h : ¬ ptOk F) : ptB F = false := @decide_eq_false _ (_) h
set_option maxHeartbeats 2000000 in
theorem iLinks (v : Value) (L : List Int) (w : World) (hL : L.length ≤ maxLen) (h : HoldsN9 w v L) : Calls Try.prog 56 #[v] w fun e w' => e = .returned (.bool (lnB L)) ∧ w' = w := by
  unfold maxLen at hL
  obtain ⟨ad, cp, rfl⟩ := h.1
  have C := hide fun v => iWithin9 (L.length : Int) 1 8 v
  by_cases hl : 1 ≤ L.length ∧ L.length ≤ 8
  · rw [wi (by omega)] at C
    have CQ := hide fun x v => iSeq x v
    have HA := hide h.2
    have HT : Hid ((∀ i (h : i < L.length), -1 ≤ L[i] ∧ L[i] ≤ 16777215) → lnB L = true) := hide fun h => lnB_t ⟨hl, h⟩
    have HF : Hid (∀ i (h : i < L.length), ¬ (-1 ≤ L[i] ∧ L[i] ≤ 16777215) → lnB L = false) := hide fun i h hn => lnB_f fun k => hn (k.2 i h)
    obtain ⟨R, hR⟩ : ∃ R, lnB L = R := ⟨_, rfl⟩
    rw [hR] at HT HF ⊢
    obtain ⟨n, hn⟩ : ∃ n, L.length = n := ⟨_, rfl⟩
    rw [hn] at C hL ⊢
    clear h hR
    go_enter Try.func56, Try.ntmps56
    go_wp2_with fail
    refine (unhide C _).mono ?_
    rintro e w2 ⟨rfl, hw⟩
    replace hw := hw.symm
    subst hw
    go_wp2_with fail
    go_loopw [11] (fun y wr => ∃ (i : Nat), i ≤ n ∧ y = .int .i64 i ∧ wr = w ∧ ∀ j (h : j < L.length), j < i → -1 ≤ L[j] ∧ L[j] ≤ 16777215) (fun y _ => n - (intOf y).toNat)
    case atStart => exact ⟨0, Nat.zero_le _, rfl, rfl, fun j h h0 => absurd h0 (Nat.not_lt_zero _)⟩
    case round =>
      obtain ⟨i, hi, rfl, rfl, hall⟩ := hrel
      by_cases hlt : i < n
      · have d1 : (i : Int) < (n : Int) := by omega
        obtain ⟨g, o, cp', hv, hg, c0⟩ := unhide HA i (by omega)
        simp only [Value.slice.injEq] at hv
        obtain ⟨rfl, _, rfl⟩ := hv
        have HALL := hide hall
        have hiL : i < L.length := by omega
        have HFi := hide (unhide HF i hiL)
        have HS : Hid ((-1 ≤ L[i]'hiL ∧ L[i]'hiL ≤ 16777215) → ∀ j (h : j < L.length), j < i + 1 → -1 ≤ L[j] ∧ L[j] ≤ 16777215) := hide fun k j h hj => by
          by_cases e : j = i
          · subst e
            exact k
          · exact hall j h (by omega)
        generalize L[i]'hiL = x at *
        clear hall
        by_cases hx : x = -1
        · subst hx
          go_wp2
          go_roundw
          case rel => exact ⟨i + 1, by omega, by go_num, by trivial, unhide HS (by omega)⟩
          case measure => simp [intOf]; omega
        · have d2 : (x != -1) = true := by simpa using hx
          by_cases hs : 0 ≤ x ∧ x ≤ 16777215
          · have C2 := hide fun v => unhide CQ x v
            rw [wi hs] at C2
            go_wp2_with fail
            refine (unhide C2 _).mono ?_
            rintro e w2 ⟨rfl, hw⟩
            replace hw := hw.symm
            subst hw
            go_wp2
            go_roundw
            case rel => exact ⟨i + 1, by omega, by go_num, by trivial, unhide HS (by omega)⟩
            case measure => simp [intOf]; omega
          · have C2 := hide fun v => unhide CQ x v
            rw [wo hs] at C2
            have hRf := unhide HFi (by omega)
            subst hRf
            go_wp2_with fail
            refine (unhide C2 _).mono ?_
            rintro e w2 ⟨rfl, hw⟩
            replace hw := hw.symm
            subst hw
            go_wp2
            go_ret
            exact ⟨rfl, rfl⟩
      · have e : i = n := by omega
        subst e
        have d1 : ¬ ((i : Int) < (i : Int)) := by omega
        have hRt := unhide HT (fun j h => hall j h (by omega))
        subst hRt
        clear hall
        go_wp2
        go_ret
        exact ⟨rfl, rfl⟩
  · rw [wo (by omega)] at C
    rw [lnB_f (fun k => hl k.1)]
    clear h
    generalize L.length = n at *
    go_enter Try.func56, Try.ntmps56
    go_wp2_with fail
    refine (unhide C _).mono ?_
    rintro e w2 ⟨rfl, hw⟩
    replace hw := hw.symm
    subst hw
    go_wp2
    go_ret
    exact ⟨rfl, rfl⟩
set_option maxHeartbeats 4000000 in
theorem iParts (v : Value) (F : List Fg) (w : World) (hF : F.length ≤ maxLen) (h : HoldsF w v F) : Calls Try.prog 57 #[v] w fun e w' => e = .returned (.bool (ptB F)) ∧ Below w.heap.size w w' := by
  unfold maxLen at hF
  obtain ⟨ad, cp, rfl⟩ := h.1
  by_cases hl : F.length ≤ 40
  · have CQ := hide fun f v => iFgRight f v
    have HA := hide h.2
    have HT : Hid ((∀ i (h : i < F.length), fgOk F[i] = true ∧ preS F i < F[i].seq) → ptB F = true) := hide fun h => ptB_t ⟨hl, h⟩
    have HF : Hid (∀ i (h : i < F.length), ¬ (fgOk F[i] = true ∧ preS F i < F[i].seq) → ptB F = false) := hide fun i h hn => ptB_f fun k => hn (k.2 i h)
    have HP : Hid (∀ i (h : i < F.length), preS F (i + 1) = F[i].seq) := hide fun i h => by unfold preS; rw [if_neg (by omega), Nat.add_sub_cancel, List.getElem?_eq_getElem h]; rfl
    obtain ⟨R, hR⟩ : ∃ R, ptB F = R := ⟨_, rfl⟩
    rw [hR] at HT HF ⊢
    obtain ⟨n, hn⟩ : ∃ n, F.length = n := ⟨_, rfl⟩
    rw [hn] at hF hl ⊢
    have d0 : ¬ ((40 : Int) < (n : Int)) := by omega
    clear h hR
    go_enter Try.func57, Try.ntmps57
    go_wp2_with fail
    go_loopw [3, 11] (fun a y wr => ∃ (i : Nat), i ≤ n ∧ y = .int .i64 i ∧ a = .int .i64 (preS F i) ∧ Below w.heap.size w wr ∧ ∀ j (h : j < F.length), j < i → fgOk F[j] = true ∧ preS F j < F[j].seq) (fun _ y _ => n - (intOf y).toNat)
    case atStart => exact ⟨0, Nat.zero_le _, rfl, rfl, Below.refl _ _, fun j h h0 => absurd h0 (Nat.not_lt_zero _)⟩
    case round =>
      obtain ⟨i, hi, rfl, rfl, hb, hall⟩ := hrel
      have hbs := hb.size
      by_cases hlt : i < n
      · have d1 : (i : Int) < (n : Int) := by omega
        have hiL : i < F.length := by omega
        obtain ⟨g, o, cp', hv, hg, k0, k1, k2, k3⟩ := unhide HA i hiL
        simp only [Value.slice.injEq] at hv
        obtain ⟨rfl, _, rfl⟩ := hv
        have HFi := hide (unhide HF i hiL)
        have HPi := hide (unhide HP i hiL)
        have HS : Hid ((fgOk (F[i]'hiL) = true ∧ preS F i < (F[i]'hiL).seq) → ∀ j (h : j < F.length), j < i + 1 → fgOk F[j] = true ∧ preS F j < F[j].seq) := hide fun k j h hj => by
          by_cases e : j = i
          · subst e
            exact k
          · exact hall j h (by omega)
        generalize F[i]'hiL = f at *
        generalize preS F i = a at *
        have C := hide fun v => unhide CQ f v
        obtain ⟨sq, bg, fn, tx⟩ := f
        dsimp only at *
        have c0 := (hb.cell (p := ⟨g, o + i * 4, none⟩) hg).trans k0
        have c1 := (hb.cell (p := ⟨g, o + i * 4 + 1, none⟩) hg).trans k1
        have c2 := (hb.cell (p := ⟨g, o + i * 4 + 2, none⟩) hg).trans k2
        have c3 := (hb.cell (p := ⟨g, o + i * 4 + 3, none⟩) hg).trans k3
        have hgr : ¬ (g = wr.heap.size) := by omega
        clear hall k0 k1 k2 k3 CQ
        cases hk : fgOk ⟨sq, bg, fn, tx⟩
        · rw [hk] at C
          have hRf := unhide HFi (fun k => by rw [hk] at k; exact absurd k.1 (by decide))
          subst hRf
          go_wp2_with fail
          refine (unhide C _).mono ?_
          rintro e w2 ⟨rfl, hb2⟩
          obtain ⟨hB, hb3⟩ := box_b hb2
          have HB := hide (hb.trans (hb3.mono hbs))
          clear hb2 hb3 hB c0 c1 c2 c3
          go_wp2
          go_ret
          exact ⟨rfl, unhide HB⟩
        · rw [hk] at C
          by_cases hs : a < sq
          · have d2 : decide (sq ≤ a) = false := decide_eq_false (by omega)
            go_wp2_with fail
            refine (unhide C _).mono ?_
            rintro e w2 ⟨rfl, hb2⟩
            obtain ⟨hB, hb3⟩ := box_b hb2
            obtain ⟨e0, e1, e2, e3⟩ := row4g hB
            have HB := hide (hb.trans (hb3.mono hbs))
            clear hb2 hb3 hB c0 c1 c2 c3
            go_wp2
            go_roundw
            case rel => exact ⟨i + 1, by omega, by go_num, by rw [unhide HPi], unhide HB, unhide HS ⟨hk, hs⟩⟩
            case measure => simp [intOf]; omega
          · have d2 : decide (sq ≤ a) = true := decide_eq_true (by omega)
            have hRf := unhide HFi (fun k => hs k.2)
            subst hRf
            go_wp2_with fail
            refine (unhide C _).mono ?_
            rintro e w2 ⟨rfl, hb2⟩
            obtain ⟨hB, hb3⟩ := box_b hb2
            obtain ⟨e0, e1, e2, e3⟩ := row4g hB
            have HB := hide (hb.trans (hb3.mono hbs))
            clear hb2 hb3 hB c0 c1 c2 c3
            go_wp2
            go_ret
            exact ⟨rfl, unhide HB⟩
      · have e : i = n := by omega
        subst e
        have d1 : ¬ ((i : Int) < (i : Int)) := by omega
        have hRt := unhide HT (fun j h => hall j h (by omega))
        subst hRt
        clear hall
        go_wp2
        go_ret
        exact ⟨rfl, hb⟩
  · rw [ptB_f (fun k => hl k.1)]
    clear h
    have d0 : (40 : Int) < (F.length : Int) := by omega
    generalize F.length = n at *
    go_enter Try.func57, Try.ntmps57
    go_wp2
    go_ret
    exact ⟨rfl, Below.refl _ _⟩
set_option maxHeartbeats 2000000 in
theorem iBdRight (a1 b1 : Option Addr) (c1 d1 : Nat) (L : List Int) (F : List Fg) (w : World) (hL : L.length ≤ maxLen) (hF : F.length ≤ maxLen) (h1 : HoldsN9 w (.slice a1 L.length c1) L) (h2 : HoldsF w (.slice b1 F.length d1) F) :
    Calls Try.prog 23 #[.agg #[.slice a1 L.length c1, .slice b1 F.length d1]] w fun e w' => e = .returned (.bool (bdOk L F)) ∧ Below w.heap.size w w' := by
  have C1 := hide fun W (hb : Below w.heap.size w W) => iLinks _ L W hL (h1.below hb)
  have C2 := hide fun W (hb : Below w.heap.size w W) => iParts _ F W hF (h2.below hb)
  have hA := hide ((Below.refl w.heap.size w).alloc (Nat.le_refl _) (.cells #[.slice a1 L.length c1, .slice b1 F.length d1] 29))
  rw [bdOk_and]
  clear h1 h2
  generalize L.length = n at *
  generalize F.length = m at *
  cases hk : lnB L
  · rw [hk] at C1
    rw [Bool.false_and]
    go_enter Try.func23, Try.ntmps23
    go_wp2_with fail
    refine (unhide C1 _ (unhide hA)).mono ?_
    rintro e w2 ⟨rfl, rfl⟩
    go_wp2
    go_ret
    exact ⟨rfl, unhide hA⟩
  · rw [hk] at C1
    rw [Bool.true_and]
    generalize ptB F = Q at *
    go_enter Try.func23, Try.ntmps23
    go_wp2_with fail
    refine (unhide C1 _ (unhide hA)).mono ?_
    rintro e w2 ⟨rfl, hw⟩
    replace hw := hw.symm
    subst hw
    go_wp2_with fail
    refine (unhide C2 _ (unhide hA)).mono ?_
    rintro e w3 ⟨rfl, hb3⟩
    have HB := hide ((unhide hA).trans (hb3.mono (unhide hA).size))
    clear hb3
    go_wp2
    go_ret
    exact ⟨rfl, unhide HB⟩
end Go.Proofs.Ytfkeokfmancgiaa
