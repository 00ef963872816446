/- The draw of a state and an event: some number and some short text; what lay in memory stands. -/
import Derived.Test.YtlgbigfdokdgfaaDoorFsmS
import Derived.Test.YtlgbigfdokdgfaaDoorSrc
import Derived.Test.YtlgbigfdokdgfaaDoorSrcNew
import Derived.Test.YtlgbigfdokdgfaaDoorEdge
namespace Go.Proofs.YtlgbigfdokdgfaaDoor
open Go.RowKit
theorem ev_short : ∀ t ∈ evTexts, t.size ≤ 8 := by
  have h : (evTexts.all fun t => decide (t.size ≤ 8)) = true := by kernel_rfl
  intro t ht
  exact of_decide_eq_true (List.all_eq_true.1 h t ht)
/-- A text of a row, at a place. -/
theorem holdsT_at {w : World} {v : Value} {L : List ByteArray} (h : HoldsT w v L) (r : Nat) (hr : r < L.length) : ∃ g cp, v = .slice (some ⟨g, 0, none⟩) L.length cp ∧ w.cell? ⟨g, r, none⟩ = some (.string L[r]) ∧ g < w.heap.size := by
  rcases h with ⟨_, _, _, e⟩ | ⟨g, cp, cur, e, q1, q2, q3⟩
  · rw [e] at hr; exact absurd hr (Nat.not_lt_zero _)
  · exact ⟨g, cp, e, by rw [cell_of_row _ _ _ _ _ _ q1, q3 r hr]; exact scells_get L r _ (List.getElem?_eq_getElem hr), (Array.getElem?_eq_some_iff.1 q1).1⟩
set_option maxHeartbeats 1000000 in
theorem src_pick (w : World) (B : Nat) (sl : Value) (n : Nat) (v : Value) (L : List ByteArray) (hn : n ≤ maxLen) (hS : Src w B sl n) (hD : Dat w B sl n) (hL : HoldsT w v L) (h0 : 0 < L.length) (h1 : L.length ≤ 1000) (hv : v.ownBlock ≠ some B) :
    Calls Tryd.prog 21 #[.pointer (some ⟨B, 0, none⟩), v] w fun e w' => ∃ t, e = .returned (.string t) ∧ t ∈ L ∧ Src w' B sl n ∧ Touch B w w' := by
  have C := hide (src_n w B sl n L.length (by omega) hn hS hD)
  have HL := hide fun r hr => holdsT_at hL r hr
  obtain ⟨ad, cp, rfl⟩ := hL.form
  clear hL hS hD
  go_enter Tryd.func21, Tryd.ntmps21
  go_wp2_with fail
  refine (unhide C).mono ?_
  rintro e w1 ⟨r, rfl, hr, hS1, ht1⟩
  have hr' : r < L.length := by omega
  have hri : (r : Int) < (L.length : Int) := by omega
  obtain ⟨g, cp', e, k0, _⟩ := unhide HL r hr'
  cases e
  have hgB : g ≠ B := fun e => hv (by rw [e]; rfl)
  have k1 : w1.cell? ⟨g, r, none⟩ = some (.string L[r]) := by
    rw [← k0]
    unfold World.cell?
    rw [ht1.block g hgB]
  have HM := hide (List.getElem_mem hr')
  have H1 := hide (And.intro hS1 ht1)
  generalize L[r] = t at *
  clear k0 HL C hS1 ht1 hr hgB
  go_wp2
  go_ret
  exact ⟨t, rfl, unhide HM, (unhide H1).1, (unhide H1).2⟩
theorem ownT_at {w w' : World} {B : Nat} {v : Value} {L : List ByteArray} (h : HoldsT w v L) (ht : Touch B w w') (hv : v.ownBlock ≠ some B) : HoldsT w' v L :=
  h.imp id fun ⟨g, cp, cur, e1, e2, e3⟩ => ⟨g, cp, cur, e1, (ht.block g fun e => hv (by rw [e1, ← e]; rfl)).trans e2, e3⟩
set_option maxHeartbeats 4000000 in
theorem drawFsm (w : World) (sl : Value) (n : Nat) (hn : n ≤ maxLen) (hD : Dat w w.heap.size sl n) :
    Calls Tryd.prog 6 #[sl] w fun e w' => ∃ (x : Int) (t : ByteArray), e = .returned (.tuple #[.int .i64 x, .string t]) ∧ -9223372036854775808 ≤ x ∧ x ≤ 9223372036854775807 ∧ t.size ≤ 8 ∧ Below w.heap.size w w' := by
  have c := src_new w sl n hn hD
  have HD := hide hD
  have hlen : evTexts.length = 16 := rfl
  have CE := hide fun v => specEvents v
  have HV := hide ev_short
  generalize evTexts = E at *
  rw [hlen] at CE
  clear hD
  go_enter Tryd.func6, Tryd.ntmps6
  go_wp2_with fail
  refine c.mono ?_
  rintro e w1 ⟨rfl, hS1, hb1⟩
  have hl1 := hS1.lt
  have HS1 := hide (And.intro hS1 hb1)
  clear hS1 c hb1
  go_wp2_with fail
  refine (unhide CE _).mono ?_
  rintro e w2 ⟨ad, cp, rfl, ho2, hb2⟩
  have hS2 := (unhide HS1).1.same (hb2.block w.heap.size hl1)
  have hB2 := (unhide HS1).2.trans (hb2.mono (unhide HS1).2.size)
  have hh2 : HoldsT w2 (.slice ad 16 cp) E := by
    have := HoldsT.own (L := E) (v := .slice ad 16 cp) (base := w1.heap.size) (by rw [hlen]; exact ho2)
    exact this
  have hv2 : (Value.slice ad 16 cp).ownBlock ≠ some w.heap.size := fun e => by have := (World.ownsRow.lt ho2 _ e).1; omega
  have HS2 := hide (And.intro hS2 (And.intro hB2 (And.intro hh2 hv2)))
  clear hS2 hB2 hh2 hv2 ho2 hb2 HS1 CE
  go_wp2_with fail
  refine (src_n w2 w.heap.size sl n 16 (by decide) hn (unhide HS2).1 ((unhide HD).below (unhide HS2).2.1)).mono ?_
  rintro e w3 ⟨r, rfl, hr, hS3, ht3⟩
  have hr' : r < E.length := by omega
  have hri : (r : Int) < 16 := by omega
  have hr0 : (0 : Int) ≤ (r : Int) := by omega
  obtain ⟨g, cp', e, k0, _⟩ := holdsT_at (ownT_at (unhide HS2).2.2.1 ht3 (unhide HS2).2.2.2) r hr'
  rw [hlen] at e
  cases e
  have hts := unhide HV _ (List.getElem_mem hr')
  generalize E[r] = t0 at *
  have HS3 := hide (And.intro hS3 ((unhide HS2).2.1.trans ht3.below))
  clear hS3 ht3 HS2 hr HV hlen
  go_wp2_with fail
  refine (src_one w3 w.heap.size sl n 12 (by decide) hn (unhide HS3).1 ((unhide HD).below (unhide HS3).2)).mono ?_
  rintro e w4 ⟨b4, rfl, hS4, ht4⟩
  have HS4 := hide (And.intro hS4 ((unhide HS3).2.trans ht4.below))
  clear hS4 ht4 HS3 k0
  go_upto_if 18 with fail
  go_cut [6] (fun v wx => ∃ t, v = .string t ∧ t.size ≤ 8 ∧ Src wx w.heap.size sl n ∧ Below w.heap.size w wx)
  case first =>
    cases b4
    · go_wp2_with fail
      go_meet
      exact ⟨t0, rfl, hts, (unhide HS4).1, (unhide HS4).2⟩
    · have hl4 := (unhide HS4).1.lt
      go_wp2_with fail
      refine (src_pick _ w.heap.size sl n _ [⟨#[]⟩, ⟨#[117, 112]⟩, ⟨#[84, 79]⟩, ⟨#[82, 67, 82]⟩] hn ((unhide HS4).1.same (Below.heap_alloc _ _ _ hl4)) ((unhide HD).below ((unhide HS4).2.alloc (unhide HS4).2.size _)) (HoldsT.own (World.ownsRow_lit (base := w4.heap.size) w4 _ 4 (Nat.le_refl _) (by decide) rfl)) (by decide) (by decide) (fun e => by have e9 : w4.heap.size = w.heap.size := Option.some.inj e; omega)).mono ?_
      rintro e w5 ⟨t5, rfl, hm5, hS5, ht5⟩
      have h5 : t5.size ≤ 8 := by
        simp only [List.mem_cons, List.not_mem_nil, or_false] at hm5
        rcases hm5 with rfl | rfl | rfl | rfl <;> decide
      have HS5 := hide (And.intro hS5 (((unhide HS4).2.alloc (unhide HS4).2.size _).trans ht5.below))
      clear hS5 ht5 hm5
      go_wp2_with fail
      go_meet
      exact ⟨t5, rfl, h5, (unhide HS5).1, (unhide HS5).2⟩
  case rest =>
    obtain ⟨t, hu, hts2, hS, hB⟩ := hcut
    subst hu
    have HS := hide (And.intro hS hB)
    clear hS hB HS4 hts
    go_wp2_with fail
    refine (src_one wc w.heap.size sl n 12 (by decide) hn (unhide HS).1 ((unhide HD).below (unhide HS).2)).mono ?_
    rintro e w6 ⟨b6, rfl, hS6, ht6⟩
    have HS6 := hide (And.intro hS6 ((unhide HS).2.trans ht6.below))
    clear hS6 ht6 HS
    cases b6
    · go_wp2_with fail
      refine (src_n w6 w.heap.size sl n 10 (by decide) hn (unhide HS6).1 ((unhide HD).below (unhide HS6).2)).mono ?_
      rintro e w7 ⟨r7, rfl, hr7, hS7, ht7⟩
      have HB7 := hide ((unhide HS6).2.trans ht7.below)
      clear hS7 ht7 HS6
      go_wp2
      go_ret2
      exact ⟨r7, t, rfl, by omega, by omega, hts2, unhide HB7⟩
    · go_wp2_with fail
      refine (src_edge w6 w.heap.size sl n hn (unhide HS6).1 ((unhide HD).below (unhide HS6).2)).mono ?_
      rintro e w7 ⟨x7, rfl, hx1, hx2, hS7, hb7⟩
      have hl7 := hS7.lt
      have HS7 := hide (And.intro hS7 ((unhide HS6).2.trans hb7))
      clear hS7 hb7 HS6
      go_wp2_with fail
      refine (src_n _ w.heap.size sl n 3 (by decide) hn ((unhide HS7).1.same (Below.heap_alloc _ _ _ hl7)) ((unhide HD).below ((unhide HS7).2.alloc (unhide HS7).2.size _))).mono ?_
      rintro e w8 ⟨r8, rfl, hr8, hS8, ht8⟩
      have hr8' : r8 < 3 := by omega
      have hr8i : (r8 : Int) < 3 := by omega
      have hrow := (ht8.block w7.heap.size (by omega)).trans (heap_alloc_new w7 _)
      obtain ⟨y, hy, hy1, hy2⟩ := lit_cell hrow (fun v hv => by
        simp only [List.mem_cons, List.not_mem_nil, or_false] at hv
        rcases hv with rfl | rfl | rfl
        · rfl
        · rfl
        · simp only [okI64, decide_eq_true_eq]; first | exact ⟨hx1, hx2⟩ | simp [hx1, hx2]) r8 hr8'
      have HB8 := hide (((unhide HS7).2.alloc (unhide HS7).2.size _).trans ht8.below)
      clear hrow hS8 ht8 HS7 hr8
      go_wp2
      go_ret2
      exact ⟨y, t, rfl, hy1, hy2, hts2, unhide HB8⟩
end Go.Proofs.YtlgbigfdokdgfaaDoor
