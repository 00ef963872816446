/- The law FnPpp walked: it returns true, and what lay in memory stands. -/
import Derived.Test.YteffbodinbmliaaDrawUnp
import Derived.Test.YteffbodinbmliaaUnpAll
namespace Go.Proofs.Yteffbodinbmliaa
open Go.RowKit
/-- Does a packet without its first bytes begin like them. -/
def oddV (x : Int) (t : ByteArray) (a p : Bool) : Bool := a && (x == 255 && (p && (decide (0 < t.size) && (t.data.toList.head? == some 3))))
set_option maxHeartbeats 400000 in
theorem lwOdd (x : Int) (t : ByteArray) (a p : Bool) (w : World) :
    Calls Try.prog 9 #[.int .i64 x, .string t, .bool a, .bool p] w fun e w' => e = .returned (.bool (oddV x t a p)) ∧ w' = w := by
  unfold oddV
  cases a
  · go_enter Try.func9, Try.ntmps9
    go_wp2
    go_ret
    exact ⟨rfl, rfl⟩
  · cases hx : (x == 255)
    · go_enter Try.func9, Try.ntmps9
      go_wp2
      go_ret
      exact ⟨rfl, rfl⟩
    · cases p
      · go_enter Try.func9, Try.ntmps9
        go_wp2
        go_ret
        exact ⟨rfl, rfl⟩
      · by_cases h : 0 < t.size
        · have d1 : decide ((0 : Int) < (t.size : Int)) = true := decide_eq_true (by omega)
          have HT : Hid ((t.data.toList.head? == some 3) = ((t[0].toNat : Int) == 3)) := hide (by
            rw [get_cons0 h, List.head?_cons]
            by_cases e : t[0] = 3
            · rw [e]; rfl
            · rw [show ((t[0].toNat : Int) == 3) = false from u8_ne e]
              exact beq_eq_false_iff_ne.2 (by simpa using e))
          go_enter Try.func9, Try.ntmps9
          go_wp2
          go_ret
          refine ⟨ret_bool ?_, rfl⟩
          rw [unhide HT, decide_eq_true h]
          rfl
        · have d1 : decide ((0 : Int) < (t.size : Int)) = false := decide_eq_false (by omega)
          have HT := hide (decide_eq_false h)
          go_enter Try.func9, Try.ntmps9
          go_wp2
          go_ret
          exact ⟨ret_bool (by rw [unhide HT]; rfl), rfl⟩
theorem back_of (x : Int) (t : ByteArray) (a p : Bool) (h : ¬ (packV x t a p).size = 0) (ho : oddV x t a p = false) : Pp.unpack (packV x t a p).data.toList = ⟨x, t.data.toList, 0⟩ := by
  refine Pp.back x t.data.toList a p (fun e => h ?_) ?_
  · unfold packV; rw [e]; rfl
  · rintro ⟨rfl, rfl, rfl, r, hr⟩
    have hs : 0 < t.size := by rw [← len_dat, hr]; simp
    unfold oddV at ho
    rw [hr, decide_eq_true hs] at ho
    simp at ho
theorem emp_of {t : ByteArray} (h : t.size = 0) : t = ⟨#[]⟩ := by
  obtain ⟨a⟩ := t
  congr
  exact Array.eq_empty_of_size_eq_zero h
theorem not_emp {t : ByteArray} (h : ¬ t.size = 0) : t.toList.isEmpty = false := by
  rw [ByteArray.toList_eq, List.isEmpty_eq_false_iff]
  intro e
  apply h
  rw [← len_dat, e]
  rfl
theorem outV_of {x : Int} {t : ByteArray} : outV ⟨x, t.data.toList, 0⟩ = .agg #[.int .i64 x, .string t, .int .i64 0] := rfl
set_option maxHeartbeats 1000000 in
set_option maxRecDepth 100000 in
theorem lawPpp (w : World) (s1 s2 : Value) (n1 n2 : Nat) (h1 : n1 ≤ maxLen) (h2 : n2 ≤ maxLen) (hD1 : Dat w w.heap.size s1 n1) (hD2 : Dat w w.heap.size s2 n2)
    (hl1 : n1 ≤ 1048576) (hl2 : n2 ≤ 1048576) :
    Calls Try.prog 3 #[s1, s2] w fun e w' => e = .returned (.bool true) ∧ Below w.heap.size w w' := by
  have c1 := drawPack w s1 n1 h1 hD1
  have HD2 := hide hD2
  obtain ⟨a1, cap1, rfl⟩ := hD1.1
  obtain ⟨a2, cap2, rfl⟩ := hD2.1
  clear hD1 hD2
  have d1 : ¬ ((1048576 : Int) < (n1 : Int)) := by omega
  have d2 : ¬ ((1048576 : Int) < (n2 : Int)) := by omega
  go_enter Try.func3, Try.ntmps3
  go_wp2_with fail
  refine c1.mono ?_
  rintro e w1 ⟨x, t, a, p, rfl, hts, hb1⟩
  have htm : t.size ≤ maxLen := by unfold maxLen; omega
  have C1 := hide fun v => implPackAll x t a p v htm
  have C2 := hide fun v => specPackAll x t a p v htm
  have C3 := hide fun v => implProto x v
  have C4 := hide fun v => specProto x v
  have C5 := hide fun v => lwOdd x t a p v
  have HBk := hide (back_of x t a p)
  have hVs := packV_size x t a p
  have C6 := hide fun v => implUnpAll (packV x t a p) v (by unfold maxLen; omega)
  generalize packV x t a p = V at *
  generalize Pp.ok x = ok at *
  have TAIL : Hid (∀ v, Below w.heap.size w v → Calls Try.prog 11 #[.slice a2 n2 cap2] v fun e w' => ∃ u : ByteArray, e = .returned (.string u) ∧ u.size ≤ 8001 ∧ Below w.heap.size w w') :=
    hide fun v hv => (drawUnp v (.slice a2 n2 cap2) n2 h2 (((unhide HD2).below hv).mono hv.size)).mono fun e w' ⟨u, q1, q2, q3⟩ => ⟨u, q1, q2, hv.trans (q3.mono hv.size)⟩
  clear c1 HD2 htm
  go_wp2_with fail
  refine (unhide C1 _).mono ?_
  rintro e w2 ⟨rfl, hb2⟩
  have hb3 := hb1.trans (hb2.mono hb1.size)
  clear hb2 C1
  go_upto_region 5 with fail
  go_cut [44] (fun b wx => b = .bool false ∧ Below w.heap.size w wx)
  case first =>
    go_wp2_with fail
    refine (unhide C2 _).mono ?_
    rintro e w3 ⟨rfl, hb4⟩
    have hb5 := hb3.trans (hb4.mono hb3.size)
    clear hb4
    cases ok
    all_goals
      go_wp2_with (first
        | (go_at_call 7; refine (unhide C3 _).mono ?_; rintro e w4 ⟨rfl, hw⟩; replace hw := hw.symm; subst hw)
        | (go_at_call 8; refine (unhide C4 _).mono ?_; rintro e w4 ⟨rfl, hw⟩; replace hw := hw.symm; subst hw))
      go_meet
      exact ⟨rfl, hb5⟩
  case rest =>
    obtain ⟨hu44, hb5⟩ := hcut
    subst hu44
    clear C2 C3 C4
    go_upto_region 7 with fail
    go_cut [62] (fun b wx => b = .bool false ∧ Below w.heap.size w wx)
    case first =>
      by_cases hV : V.size = 0
      · obtain rfl := emp_of hV
        go_wp2_with fail
        go_meet
        exact ⟨rfl, hb5⟩
      · have d3 := not_emp hV
        cases ho : oddV x t a p
        · have C6' := unhide C6
          rw [unhide HBk hV ho] at C6'
          have C7 := hide C6'
          rw [ho] at C5
          rw [outV_of] at C7
          clear C6 C6' ho HBk
          go_wp2_with (first
            | (go_at_call 9; refine (unhide C5 _).mono ?_; rintro e w4 ⟨rfl, hw⟩; replace hw := hw.symm; subst hw)
            | (go_at_call 10; refine (unhide C7 _).mono ?_; rintro e w4 ⟨rfl, hb6⟩))
          go_meet
          exact ⟨rfl, hb5.trans (hb6.mono hb5.size)⟩
        · rw [ho] at C5
          clear C6 ho HBk
          go_wp2_with (first
            | (go_at_call 9; refine (unhide C5 _).mono ?_; rintro e w4 ⟨rfl, hw⟩; replace hw := hw.symm; subst hw))
          go_meet
          exact ⟨rfl, hb5⟩
    case rest =>
      obtain ⟨hu62, hb6⟩ := hcut
      subst hu62
      clear C5 C6 HBk
      go_wp2_with fail
      refine (unhide TAIL _ hb6).mono ?_
      rintro e w5 ⟨u, rfl, hus, hb7⟩
      have hum : u.size ≤ maxLen := by unfold maxLen; omega
      have C1 := hide fun v => implUnpAll u v hum
      have C2 := hide fun v => specUnpAll u v hum
      generalize Pp.unpack u.data.toList = o at *
      obtain ⟨y, l, z⟩ := o
      unfold outV at C1 C2
      generalize txt l = T at *
      clear hum
      go_wp2_with (first
        | (go_at_call 10; refine (unhide C1 _).mono ?_; rintro e w6 ⟨rfl, hb8⟩)
        | (go_at_call 12; refine (unhide C2 _).mono ?_; rintro e w7 ⟨rfl, hb9⟩))
      go_ret
      have hb10 := hb7.trans (hb8.mono hb7.size)
      exact ⟨rfl, hb10.trans (hb9.mono hb10.size)⟩
end Go.Proofs.Yteffbodinbmliaa
