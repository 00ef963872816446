/- A count of a reading, of one byte or of two, and its text, the program's; only the reading is turned. -/
import Derived.Test.YtgelbobocjgdaaaDoorReads
namespace Go.Proofs.YtgelbobocjgdaaaDoor
open Go.RowKit
theorem num_le (l : List UInt8) (h : l.length ≤ 2) : numOf l ≤ 65535 := by
  rcases l with _ | ⟨c, _ | ⟨d, _ | ⟨e, r⟩⟩⟩
  · simp [numOf]
  · have := c.toNat_lt
    simp [numOf]
    omega
  · have := c.toNat_lt
    have := d.toNat_lt
    simp [numOf]
    omega
  · simp at h
set_option maxHeartbeats 2000000 in
theorem cnt_any1 (R N B : Nat) (p : Value) (ah ms lk : Int) (l : List UInt8) (ss : List Value) (ct : Int) (t : ByteArray) (w : World) (hRN : R < N) (hB : B < w.heap.size) (hne : B ≠ R) (ha1 : 0 ≤ ah) (ha2 : ah ≤ 10) (hs : 1 ≤ l.length)
    (h : Rdg w R N B p ah ms lk l ss ct t) :
    Calls Tryd.prog 102 #[.pointer (some ⟨R, 0, none⟩)] w fun e w' => e = .returned (if bad ah ms (numOf (l.take 1)) (l.drop 1) = true then wrong 3 else .nilIface) ∧ Nr R w w' ∧ Rdg w' R N B p ah ms lk (l.drop 1) ss ((numOf (l.take 1) : Nat) - ah) t := by
  obtain ⟨v, s, hR, hv, ho⟩ := h
  have hM : numOf (l.take 1) ≤ 65535 := num_le _ (by rw [List.length_take]; omega)
  have C := hide (num_ok R B 1 l v p (.int .i64 ah) (.int .i64 ms) (.int .i64 lk) s (.int .i64 ct) (.string t) w (by decide) hs hB hne hv hR)
  have HO := hide ho
  generalize numOf (l.take 1) = M at *
  generalize l.drop 1 = L at *
  obtain ⟨V, hV⟩ : ∃ V, (if bad ah ms M L = true then wrong 3 else .nilIface) = V := ⟨_, rfl⟩
  rw [hV]
  have HV := hide hV
  clear hR ho hv hV
  go_enter Tryd.func102, Tryd.ntmps102
  go_wp2_with fail
  refine (unhide C).mono ?_
  rintro e w1 ⟨rfl, v1, hR1, hv1, hn1⟩
  have C2 := hide (expect_any R N B p ah ms lk L ss ct t M w1 hRN (Nat.lt_of_lt_of_le hB hn1.size) hne hM ha1 ha2 ⟨v1, s, hR1, hv1, own_nr (unhide HO) hn1 hRN⟩)
  rw [unhide HV] at C2
  clear C hR1 hv1 HO HV
  go_wp2_with fail
  refine (unhide C2).mono ?_
  rintro e w2 ⟨rfl, hn2, hr2⟩
  go_wp2
  go_ret
  exact ⟨rfl, hn1.trans hn2, hr2⟩
set_option maxHeartbeats 2000000 in
theorem cnt_short1 (R N B : Nat) (p : Value) (ah ms lk : Int) (l : List UInt8) (ss : List Value) (ct : Int) (t : ByteArray) (w : World) (hs : l.length < 1) (h : Rdg w R N B p ah ms lk l ss ct t) :
    Calls Tryd.prog 102 #[.pointer (some ⟨R, 0, none⟩)] w fun e w' => e = .returned (wrong lk) ∧ Nr R w w' := by
  obtain ⟨v, s, hR, hv, ho⟩ := h
  have C := hide (num_short R B 1 l v lk p (.int .i64 ah) (.int .i64 ms) s (.int .i64 ct) (.string t) w hs hv hR)
  clear hR hv ho
  unfold wrong at *
  go_enter Tryd.func102, Tryd.ntmps102
  go_wp2_with fail
  refine (unhide C).mono ?_
  rintro e w1 ⟨rfl, k, rfl⟩
  clear C
  go_wp2
  go_ret
  exact ⟨rfl, (Nr.refl _ _).drewN k⟩
set_option maxHeartbeats 2000000 in
theorem cnt_any2 (R N B : Nat) (p : Value) (ah ms lk : Int) (l : List UInt8) (ss : List Value) (ct : Int) (t : ByteArray) (w : World) (hRN : R < N) (hB : B < w.heap.size) (hne : B ≠ R) (ha1 : 0 ≤ ah) (ha2 : ah ≤ 10) (hs : 2 ≤ l.length)
    (h : Rdg w R N B p ah ms lk l ss ct t) :
    Calls Tryd.prog 103 #[.pointer (some ⟨R, 0, none⟩)] w fun e w' => e = .returned (if bad ah ms (numOf (l.take 2)) (l.drop 2) = true then wrong 3 else .nilIface) ∧ Nr R w w' ∧ Rdg w' R N B p ah ms lk (l.drop 2) ss ((numOf (l.take 2) : Nat) - ah) t := by
  obtain ⟨v, s, hR, hv, ho⟩ := h
  have hM : numOf (l.take 2) ≤ 65535 := num_le _ (by rw [List.length_take]; omega)
  have C := hide (num_ok R B 2 l v p (.int .i64 ah) (.int .i64 ms) (.int .i64 lk) s (.int .i64 ct) (.string t) w (by decide) hs hB hne hv hR)
  have HO := hide ho
  generalize numOf (l.take 2) = M at *
  generalize l.drop 2 = L at *
  obtain ⟨V, hV⟩ : ∃ V, (if bad ah ms M L = true then wrong 3 else .nilIface) = V := ⟨_, rfl⟩
  rw [hV]
  have HV := hide hV
  clear hR ho hv hV
  go_enter Tryd.func103, Tryd.ntmps103
  go_wp2_with fail
  refine (unhide C).mono ?_
  rintro e w1 ⟨rfl, v1, hR1, hv1, hn1⟩
  have C2 := hide (expect_any R N B p ah ms lk L ss ct t M w1 hRN (Nat.lt_of_lt_of_le hB hn1.size) hne hM ha1 ha2 ⟨v1, s, hR1, hv1, own_nr (unhide HO) hn1 hRN⟩)
  rw [unhide HV] at C2
  clear C hR1 hv1 HO HV
  go_wp2_with fail
  refine (unhide C2).mono ?_
  rintro e w2 ⟨rfl, hn2, hr2⟩
  go_wp2
  go_ret
  exact ⟨rfl, hn1.trans hn2, hr2⟩
set_option maxHeartbeats 2000000 in
theorem cnt_short2 (R N B : Nat) (p : Value) (ah ms lk : Int) (l : List UInt8) (ss : List Value) (ct : Int) (t : ByteArray) (w : World) (hs : l.length < 2) (h : Rdg w R N B p ah ms lk l ss ct t) :
    Calls Tryd.prog 103 #[.pointer (some ⟨R, 0, none⟩)] w fun e w' => e = .returned (wrong lk) ∧ Nr R w w' := by
  obtain ⟨v, s, hR, hv, ho⟩ := h
  have C := hide (num_short R B 2 l v lk p (.int .i64 ah) (.int .i64 ms) s (.int .i64 ct) (.string t) w hs hv hR)
  clear hR hv ho
  unfold wrong at *
  go_enter Tryd.func103, Tryd.ntmps103
  go_wp2_with fail
  refine (unhide C).mono ?_
  rintro e w1 ⟨rfl, k, rfl⟩
  clear C
  go_wp2
  go_ret
  exact ⟨rfl, (Nr.refl _ _).drewN k⟩
set_option maxHeartbeats 2000000 in
theorem dat_any (R N B : Nat) (p : Value) (ah ms lk : Int) (l : List UInt8) (ss : List Value) (k : Nat) (t : ByteArray) (w : World) (hRN : R < N) (hB : B < w.heap.size) (hne : B ≠ R) (hk : k ≤ l.length)
    (h : Rdg w R N B p ah ms lk l ss k t) :
    Calls Tryd.prog 104 #[.pointer (some ⟨R, 0, none⟩)] w fun e w' => e = .returned .nilIface ∧ Nr R w w' ∧ Rdg w' R N B p ah ms lk (l.drop k) ss k (txt (l.take k)) := by
  obtain ⟨v, s, hR, hv, ho⟩ := h
  obtain ⟨off, cap, hvf, hcap, hl⟩ := hv
  subst hvf
  have C := hide (take_ok R B off l.length cap k p (.int .i64 ah) (.int .i64 ms) (.int .i64 lk) s (.int .i64 k) (.string t) w hk hcap hR)
  obtain ⟨c0, c1, c2, c3, c4, c5, c6, c7, cf⟩ := rg8 hR
  have HO := hide ho
  have HL := hide hl
  clear hR ho hl cf
  go_enter Tryd.func104, Tryd.ntmps104
  go_wp2_with fail
  refine (unhide C).mono ?_
  rintro e w1 ⟨rfl, ht⟩
  obtain ⟨⟨v1, hR1, hv1, hn1⟩, ht2⟩ := took_rest ht (unhide HL) hB hne
  have hcv := conv_lies ht2 (cap := k)
  rw [show (l.take k).length = k by rw [List.length_take]; omega] at hcv
  obtain ⟨e0, e1, e2, e3, e4, e5, e6, e7, ef⟩ := rg8 hR1
  have hf := ef 7
  have HR1 := hide hR1
  have HV1 := hide hv1
  have HO1 := hide (own_nr (unhide HO) hn1 hRN)
  clear c0 c1 c2 c3 c4 c5 c6 c7 ht ht2 ef C hR1 hv1 HO HL
  go_wp2
  go_ret
  refine ⟨rfl, hn1.setCell 7 _, v1, s, ?_, ?_, ?_⟩
  · rw [heap_setCell_same _ _ 7 _ _ _ (unhide HR1)]; rfl
  · exact (unhide HV1).same (Below.heap_setCell w1 ⟨R, 7, none⟩ _ B hne)
  · exact own_same (unhide HO1) fun g hg _ => Below.heap_setCell w1 ⟨R, 7, none⟩ _ g (by show g ≠ R; omega)
end Go.Proofs.YtgelbobocjgdaaaDoor
