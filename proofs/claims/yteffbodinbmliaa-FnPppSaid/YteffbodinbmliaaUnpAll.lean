/- PppUnpack, the program's: of any text what is read; what lay in memory stands. -/
import Derived.Test.YteffbodinbmliaaUnpI
namespace Go.Proofs.Yteffbodinbmliaa
open Go.RowKit
/-- A text as bytes of its own. -/
theorem bytes_of (t : ByteArray) (W : World) : ∃ cap W', (convert 9 22 (.string t)).run Try.prog W = .ok (.slice (some ⟨W.heap.size, 0, none⟩) t.data.toList.length cap) W' ∧ t.data.toList.length ≤ cap ∧ Lies W' W.heap.size 0 t.data.toList ∧ Below W.heap.size W W' ∧ W.heap.size < W'.heap.size := by
  have h := run_bytes_of_string (P := Try.prog) W 9 22 5 t Try.underlying9 Try.underlying22 Try.underlying5
  have hg := grownCap_ge W t.size 0 5
  refine ⟨_, _, by rw [len_dat]; exact h, by rw [len_dat]; omega, ?_, (Below.refl _ _).drew.alloc (Nat.le_refl _) _, by simp⟩
  intro i hi
  have hh : (W.drew.alloc (.cells (bytesRow t (grownCap W t.size 0 5)) 5 ((bytesRow t (grownCap W t.size 0 5)).size, (bytesRow t (grownCap W t.size 0 5)).size + 1))).heap[W.heap.size]? = _ := heap_alloc_new W.drew _
  rw [cell_of_row _ _ _ _ _ _ hh]
  have hi' : i < t.size := by rw [← len_dat]; exact hi
  simp [bytesRow, Array.getElem?_append, hi']
theorem conv_lies {w : World} {B off : Nat} {l : List UInt8} (h : Lies w B off l) {cap : Nat} : (convert 22 9 (.slice (some ⟨B, off, none⟩) l.length cap)).run Try.prog w = .ok (.string (txt l)) w :=
  run_convert_bytes_back (P := Try.prog) w 22 9 5 ⟨B, off, none⟩ cap l Try.underlying22 Try.underlying5 Try.underlying9 (fun j hj => by rw [Addr.add_lit]; exact h j hj)
theorem infoP : (Try.prog.info? 29).map (·.size) = some 3 := by kernel_rfl
theorem row3' {w : World} {B : Nat} {x0 x1 x2 : Value} {T : TypeId} (h : w.heap[B]? = some (.cells #[x0, x1, x2] T)) :
    w.cell? ⟨B, 0, none⟩ = some x0 ∧ w.cell? ⟨B, 1, none⟩ = some x1 ∧ w.cell? ⟨B, 2, none⟩ = some x2 ∧ w.frozen? ⟨B, 0, none⟩ = false ∧ w.frozen? ⟨B, 1, none⟩ = false ∧ w.frozen? ⟨B, 2, none⟩ = false :=
  ⟨by rw [cell_of_row _ _ _ _ _ _ h]; rfl, by rw [cell_of_row _ _ _ _ _ _ h]; rfl, by rw [cell_of_row _ _ _ _ _ _ h]; rfl, frz h _, frz h _, frz h _⟩
set_option maxHeartbeats 2000000 in
theorem implUnp_at (t : ByteArray) (w : World) (h8 : t.size ≤ 8000) :
    Calls Try.prog 10 #[.string t] w fun e w' => e = .returned (outV (Pp.unpack t.data.toList)) ∧ Below w.heap.size w w' := by
  have d0 : ¬ ((8000 : Int) < (t.size : Int)) := by omega
  have hl8 := len_dat t
  have HRL := hide (Pp.rest_len t.data.toList)
  rw [show Pp.unpack t.data.toList = Pp.read (Pp.rest t.data.toList) by unfold Pp.unpack; rw [len_dat, if_pos h8]]
  obtain ⟨cap, W1, hcv, hcap, hl1, hb1, hlt1⟩ := bytes_of t (w.alloc (.cells #[.int .i64 0, .string ⟨#[]⟩, .int .i64 0] 29))
  have C1 := hide (behind _ 0 cap t.data.toList W1 (by omega) hcap hlt1 hl1)
  have hW : (w.alloc (.cells #[.int .i64 0, .string ⟨#[]⟩, .int .i64 0] 29)).heap.size = w.heap.size + 1 := by simp
  rw [hW] at hcv C1 hb1 hlt1
  have hO1 : W1.heap[w.heap.size]? = some (.cells #[.int .i64 0, .string ⟨#[]⟩, .int .i64 0] 29) := (hb1.block w.heap.size (Nat.lt_succ_self _)).trans (heap_alloc_new w _)
  have hB1 : Below w.heap.size w W1 := ((Below.refl _ _).alloc (Nat.le_refl _) _).trans (hb1.mono (Nat.le_succ _))
  have HX := hide (And.intro hO1 hB1)
  clear hl1 hb1 hO1 hB1 hcap hW
  generalize t.data.toList = l at *
  obtain ⟨L, hL⟩ : ∃ L, Pp.rest l = L := ⟨_, rfl⟩
  rw [hl8] at C1 hcv HRL
  rw [hL] at C1 HRL ⊢
  clear hl8 hL
  go_enter Try.func10, Try.ntmps10
  go_wp2_with fail
  refine (unhide C1).mono ?_
  rintro e W2 ⟨off, cap2, rfl, hcap2, hl2, hb2⟩
  have hO2 := (hb2.block w.heap.size (by omega)).trans (unhide HX).1
  have hB2 : Below w.heap.size w W2 := (unhide HX).2.trans (hb2.mono (by omega))
  have hrl := unhide HRL
  clear HX C1 hcv hb2 HRL
  have hs2 := hB2.size
  obtain ⟨o0, o1, o2, q0, q1, q2⟩ := row3' hO2
  have HO := hide hO2
  clear hO2
  have FIN : Hid (∀ x y z : Value, (loadVar 29 ⟨w.heap.size, 0, none⟩).run Try.prog (((W2.setCell ⟨w.heap.size, 0, none⟩ x).setCell ⟨w.heap.size, 1, none⟩ y).setCell ⟨w.heap.size, 2, none⟩ z) = .ok (.agg #[x, y, z]) (((W2.setCell ⟨w.heap.size, 0, none⟩ x).setCell ⟨w.heap.size, 1, none⟩ y).setCell ⟨w.heap.size, 2, none⟩ z)) := by
    refine hide fun x y z => ?_
    have h := heap_setCell_same _ _ 2 _ _ z (heap_setCell_same _ _ 1 _ _ y (heap_setCell_same _ _ 0 _ _ x (unhide HO)))
    exact run_loadVar_row (P := Try.prog) _ _ 29 29 #[x, y, z] (0, 0) _ h Try.underlying29 rfl infoP
  have BEL : Hid (∀ x y z : Value, Below w.heap.size w (((W2.setCell ⟨w.heap.size, 0, none⟩ x).setCell ⟨w.heap.size, 1, none⟩ y).setCell ⟨w.heap.size, 2, none⟩ z)) :=
    hide fun x y z => ((hB2.setCell (p := ⟨w.heap.size, 0, none⟩) (Nat.le_refl _) _).setCell (p := ⟨w.heap.size, 1, none⟩) (Nat.le_refl _) _).setCell (p := ⟨w.heap.size, 2, none⟩) (Nat.le_refl _) _
  have hle : L.length ≤ 8000 := by omega
  have HL2 := hide hl2
  clear hl2 HO hrl hB2
  rcases L with _ | ⟨c, L⟩
  · have C2 := hide (protoSize0 (w.heap.size + 1) off cap2 W2)
    go_wp2_with (first
      | (go_at_call 23; refine (unhide C2).mono ?_; rintro e w3 ⟨rfl, hw⟩; replace hw := hw.symm; subst hw))
    refine bodyPost_ret (v := outV ⟨0, [], 4⟩) (by simp [results, Try.results10, asAddr, unhide FIN, outV, txt]) rfl ⟨rfl, unhide BEL _ _ _⟩
  · have hcc : W2.cell? ⟨w.heap.size + 1, off, none⟩ = some (.int .u8 c.toNat) := (unhide HL2) 0 (by simp)
    have C2 := hide (protoSize1 (w.heap.size + 1) off cap2 L.length c W2 (by simp at hle; omega) hcc)
    have hlt := c.toNat_lt
    rcases Nat.mod_two_eq_zero_or_one c.toNat with ho | ho
    · rw [if_neg (by omega)] at C2
      rcases L with _ | ⟨d, r⟩
      · have HR : Hid (Pp.read [c] = ⟨0, [], 4⟩) := hide (by simp only [Pp.read]; rw [if_neg (by omega)])
        clear ho hcc
        go_wp2_with (first
          | (go_at_call 23; refine (unhide C2).mono ?_; rintro e w3 ⟨rfl, hw⟩; replace hw := hw.symm; subst hw))
        refine bodyPost_ret (v := outV ⟨0, [], 4⟩) (by simp [results, Try.results10, asAddr, unhide FIN, outV, txt]) rfl ⟨by rw [unhide HR], unhide BEL _ _ _⟩
      · have hltd := d.toNat_lt
        have C3 := hide (highest (w.heap.size + 1) off 2 [c, d] W2 (by simp) (fun i hi => by
          have h := unhide HL2 i (by simp at hi ⊢; omega)
          rw [h]
          rcases i with _ | _ | i
          · rfl
          · rfl
          · exact absurd hi (by simp)))
        rw [show numOf [c, d] = 256 * c.toNat + d.toNat by simp [numOf]] at C3
        have C4 := hide fun v => implProto ((256 * c.toNat + d.toNat : Nat) : Int) v
        simp only [List.length_cons] at hle hcap2 C2 ⊢
        have d1 : ¬ ((r.length : Int) + 1 + 1 < 2) := by omega
        have d2 : (2 : Int) ≤ (cap2 : Int) := by omega
        by_cases hd : d.toNat % 2 = 1
        · have HR : Hid (Pp.read (c :: d :: r) = ⟨(256 * c.toNat + d.toNat : Nat), r, 0⟩) := hide (by simp only [Pp.read]; rw [if_neg (by omega), if_pos hd])
          rw [show Pp.ok ((256 * c.toNat + d.toNat : Nat) : Int) = true from Pp.ok_nat (by omega) (by omega) (by omega)] at C4
          generalize 256 * c.toNat + d.toNat = N at *
          clear ho hcc hd
          by_cases hr : r = []
          · subst hr
            have hcv : (convert 22 9 (.slice (some ⟨w.heap.size + 1, off, none⟩) 0 0)).run Try.prog W2 = .ok (.string (txt [])) W2 := conv_lies (l := []) (fun i hi => absurd hi (by simp))
            go_wp2_with (first
              | (go_at_call 23; refine (unhide C2).mono ?_; rintro e w3 ⟨rfl, hw⟩; replace hw := hw.symm; subst hw)
              | (go_at_call 24; refine (unhide C3).mono ?_; rintro e w3 ⟨rfl, hw⟩; replace hw := hw.symm; subst hw)
              | (go_at_call 7; refine (unhide C4 _).mono ?_; rintro e w3 ⟨rfl, hw⟩; replace hw := hw.symm; subst hw))
            refine bodyPost_ret (v := outV ⟨(N : Nat), [], 0⟩) (by simp [results, Try.results10, asAddr, unhide FIN, outV, txt]) rfl ⟨by rw [unhide HR], unhide BEL _ _ _⟩
          · have hr2 : ¬ (r.length + 1 + 1 = 2) := fun h => hr (List.eq_nil_of_length_eq_zero (by omega))
            have hcv : (convert 22 9 (.slice (some ⟨w.heap.size + 1, off + 2, none⟩) r.length r.length)).run Try.prog W2 = .ok (.string (txt r)) W2 := conv_lies ((unhide HL2).drop 2)
            go_wp2_with (first
              | (go_at_call 23; refine (unhide C2).mono ?_; rintro e w3 ⟨rfl, hw⟩; replace hw := hw.symm; subst hw)
              | (go_at_call 24; refine (unhide C3).mono ?_; rintro e w3 ⟨rfl, hw⟩; replace hw := hw.symm; subst hw)
              | (go_at_call 7; refine (unhide C4 _).mono ?_; rintro e w3 ⟨rfl, hw⟩; replace hw := hw.symm; subst hw))
            refine bodyPost_ret (v := outV ⟨(N : Nat), r, 0⟩) (by simp [results, Try.results10, asAddr, unhide FIN, outV, txt]) rfl ⟨by rw [unhide HR], unhide BEL _ _ _⟩
        · have HR : Hid (Pp.read (c :: d :: r) = ⟨0, [], 3⟩) := hide (by simp only [Pp.read]; rw [if_neg (by omega), if_neg hd])
          rw [show Pp.ok ((256 * c.toNat + d.toNat : Nat) : Int) = false from decide_eq_false (by omega)] at C4
          generalize 256 * c.toNat + d.toNat = N at *
          clear ho hcc hd
          go_wp2_with (first
            | (go_at_call 23; refine (unhide C2).mono ?_; rintro e w3 ⟨rfl, hw⟩; replace hw := hw.symm; subst hw)
            | (go_at_call 24; refine (unhide C3).mono ?_; rintro e w3 ⟨rfl, hw⟩; replace hw := hw.symm; subst hw)
            | (go_at_call 7; refine (unhide C4 _).mono ?_; rintro e w3 ⟨rfl, hw⟩; replace hw := hw.symm; subst hw))
          refine bodyPost_ret (v := outV ⟨0, [], 3⟩) (by simp [results, Try.results10, asAddr, unhide FIN, outV, txt]) rfl ⟨by rw [unhide HR], unhide BEL _ _ _⟩
    · rw [if_pos ho] at C2
      have C3 := hide (highest (w.heap.size + 1) off 1 [c] W2 (by simp) (fun i hi => by
        have h := unhide HL2 i (by simp at hi ⊢; omega)
        rw [h]
        rcases i with _ | i
        · rfl
        · exact absurd hi (by simp)))
      rw [show numOf [c] = c.toNat by simp [numOf]] at C3
      have C4 := hide fun v => implProto (c.toNat : Int) v
      rw [Pp.ok_nat (by omega) ho (by omega)] at C4
      simp only [List.length_cons] at hle hcap2 C2 ⊢
      have d1 : ¬ ((L.length : Int) + 1 < 1) := by omega
      have d2 : (1 : Int) ≤ (cap2 : Int) := by omega
      have HR : Hid (Pp.read (c :: L) = ⟨c.toNat, L, 0⟩) := by
        have h := Pp.read_one (k := c.toNat) hlt ho L
        rw [show UInt8.ofNat c.toNat = c by simp] at h
        exact hide h
      generalize c.toNat = N at *
      clear ho hcc
      by_cases hr : L = []
      · subst hr
        have hcv : (convert 22 9 (.slice (some ⟨w.heap.size + 1, off, none⟩) 0 0)).run Try.prog W2 = .ok (.string (txt [])) W2 := conv_lies (l := []) (fun i hi => absurd hi (by simp))
        go_wp2_with (first
          | (go_at_call 23; refine (unhide C2).mono ?_; rintro e w3 ⟨rfl, hw⟩; replace hw := hw.symm; subst hw)
          | (go_at_call 24; refine (unhide C3).mono ?_; rintro e w3 ⟨rfl, hw⟩; replace hw := hw.symm; subst hw)
          | (go_at_call 7; refine (unhide C4 _).mono ?_; rintro e w3 ⟨rfl, hw⟩; replace hw := hw.symm; subst hw))
        refine bodyPost_ret (v := outV ⟨(N : Nat), [], 0⟩) (by simp [results, Try.results10, asAddr, unhide FIN, outV, txt]) rfl ⟨by rw [unhide HR], unhide BEL _ _ _⟩
      · have hr2 : ¬ (L.length + 1 = 1) := fun h => hr (List.eq_nil_of_length_eq_zero (by omega))
        have hcv : (convert 22 9 (.slice (some ⟨w.heap.size + 1, off + 1, none⟩) L.length L.length)).run Try.prog W2 = .ok (.string (txt L)) W2 := conv_lies ((unhide HL2).drop 1)
        go_wp2_with (first
          | (go_at_call 23; refine (unhide C2).mono ?_; rintro e w3 ⟨rfl, hw⟩; replace hw := hw.symm; subst hw)
          | (go_at_call 24; refine (unhide C3).mono ?_; rintro e w3 ⟨rfl, hw⟩; replace hw := hw.symm; subst hw)
          | (go_at_call 7; refine (unhide C4 _).mono ?_; rintro e w3 ⟨rfl, hw⟩; replace hw := hw.symm; subst hw))
        refine bodyPost_ret (v := outV ⟨(N : Nat), L, 0⟩) (by simp [results, Try.results10, asAddr, unhide FIN, outV, txt]) rfl ⟨by rw [unhide HR], unhide BEL _ _ _⟩
set_option maxHeartbeats 400000 in
theorem implUnpAll (t : ByteArray) (w : World) (ht : t.size ≤ maxLen) :
    Calls Try.prog 10 #[.string t] w fun e w' => e = .returned (outV (Pp.unpack t.data.toList)) ∧ Below w.heap.size w w' := by
  by_cases h8 : t.size ≤ 8000
  · exact implUnp_at t w h8
  · unfold maxLen at ht
    have d0 : (8000 : Int) < (t.size : Int) := by omega
    rw [show Pp.unpack t.data.toList = ⟨0, [], 2⟩ by unfold Pp.unpack; rw [len_dat, if_neg h8]]
    go_enter Try.func10, Try.ntmps10
    go_wp2
    refine bodyPost_ret (v := outV ⟨0, [], 2⟩) ?_ rfl ⟨rfl, (Below.refl _ _).alloc (Nat.le_refl _) _⟩
    simp [results, Try.results10, go_sem, outV, txt]
end Go.Proofs.Yteffbodinbmliaa
