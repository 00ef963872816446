/- The law FnSums walked: it returns true, and what lay in memory stands; under the library's two tables as they are laid. -/
import Derived.Test.YtdjlkchdomllhaaDoorTurn
import Derived.Test.YtdjlkchdomllhaaDoorFcs
import Derived.Test.YtdjlkchdomllhaaDoorDrawSums
import Derived.Test.YtdjlkchdomllhaaDoorLwAt
namespace Go.Proofs.YtdjlkchdomllhaaDoor
open Go.RowKit
/-- The library's tables lie in this world, and what lay in the first one stands. -/
def Ok (w0 w : World) : Prop := Lib.Utf8Tabs 0 1 w ∧ Below w0.heap.size w0 w
theorem Ok.step {w0 w w' : World} (h : Ok w0 w) (hb : Below w.heap.size w w') : Ok w0 w' := ⟨Utf8Tabs_below h.1 hb, h.2.trans (hb.mono h.2.size)⟩
theorem Ok.drew {w0 w : World} (h : Ok w0 w) : Ok w0 w.drew := h.step (Below.refl _ _).drew
theorem ok_tail (w0 : World) (t : ByteArray) (b : Bool) (w : World) (ht : t.size ≤ 8000) (h : Ok w0 w) :
    Calls Tryd.prog 5 #[.string t, .bool b] w fun e w' => e = .returned (.string (tailB t.data.toList b)) ∧ Ok w0 w' :=
  (implTail t b w (by unfold maxLen; omega) ht h.1).mono fun _ _ ⟨h1, h2⟩ => ⟨h1, h.step h2⟩
theorem ok_specTail (w0 : World) (t : ByteArray) (b : Bool) (w : World) (ht : t.size ≤ 8000) (h : Ok w0 w) :
    Calls Tryd.prog 7 #[.string t, .bool b] w fun e w' => e = .returned (.string (tailB t.data.toList b)) ∧ Ok w0 w' :=
  (specTailAll t b w (by unfold maxLen; omega)).mono fun _ _ ⟨h1, h2⟩ => ⟨by rw [h1, show tailV t b = tailB t.data.toList b from if_pos ht], h.step h2⟩
theorem ok_good (w0 : World) (t : ByteArray) (b v : Bool) (w : World) (ht : t.size ≤ 8000) (hv : goodV t b = v) (h : Ok w0 w) :
    Calls Tryd.prog 12 #[.string t, .bool b] w fun e w' => e = .returned (.bool v) ∧ Ok w0 w' :=
  (implGoodAll t b w (by unfold maxLen; omega) h.1).mono fun _ _ ⟨h1, h2⟩ => ⟨by rw [h1, hv], h.step h2⟩
theorem ok_fcs16 (w0 : World) (x v : Int) (t : ByteArray) (w : World) (hx1 : -9223372036854775808 ≤ x) (hx2 : x ≤ 9223372036854775807) (ht : t.size ≤ 8000) (hv : fcs16 x t.data.toList = v) (h : Ok w0 w) :
    Calls Tryd.prog 8 #[.int .i64 x, .string t] w fun e w' => e = .returned (.int .i64 v) ∧ Ok w0 w' :=
  (implFcs16 x t w hx1 hx2 (by unfold maxLen; omega) h.1).mono fun _ _ ⟨h1, h2⟩ => ⟨by rw [h1, hv], h.step h2⟩
theorem ok_specFcs16 (w0 : World) (x v : Int) (t : ByteArray) (w : World) (hx1 : -9223372036854775808 ≤ x) (hx2 : x ≤ 9223372036854775807) (ht : t.size ≤ 8000) (hv : fcs16 x t.data.toList = v) (h : Ok w0 w) :
    Calls Tryd.prog 9 #[.int .i64 x, .string t] w fun e w' => e = .returned (.int .i64 v) ∧ Ok w0 w' :=
  (specFcs16 x t w hx1 hx2 (by unfold maxLen; omega)).mono fun _ _ ⟨h1, h2⟩ => ⟨by rw [h1, hv], by rw [h2]; exact h⟩
theorem fcs16_goes (t : ByteArray) (k : Nat) (hk : k ≤ t.size) (ht : t.size ≤ 8000) :
    fcs16 (fcs16 65535 (t.extract 0 k).data.toList) (t.extract k t.size).data.toList = fcs16 65535 t.data.toList ∧ 0 ≤ fcs16 65535 (t.extract 0 k).data.toList ∧ fcs16 65535 (t.extract 0 k).data.toList ≤ 65535 := by
  have s1 : (t.extract 0 k).size = k := extract_size t k hk
  have s2 : (t.extract k t.size).size ≤ 8000 := by rw [ByteArray.size_extract]; omega
  have e1 := fcs16_pos (x := 65535) (t := t.extract 0 k) (by omega) (by decide) (by decide)
  have hq := sumL_lt16 33800 65535 (t.extract 0 k).data.toList (by decide) (by decide)
  have e3 := fcs16_pos (x := 65535) (t := t) ht (by decide) (by decide)
  have eM : Int.toNat 65535 = 65535 := by simp
  rw [e1, e3, eM]
  have e2 := fcs16_pos (x := ((Fcs.sumL 33800 65535 (t.extract 0 k).data.toList : Nat) : Int)) (t := t.extract k t.size) s2 (by omega) (by omega)
  rw [e2, Int.toNat_natCast, ← Fcs.sumL_append]
  refine ⟨?_, by omega, by omega⟩
  congr 2
  rw [extract_list, extract_list, List.drop_zero, Nat.sub_zero, List.take_of_length_le (l := List.drop k t.data.toList) (by simp), List.take_append_drop]
theorem fcs16_resid (u t : ByteArray) (hu : u.data.toList = t.data.toList ++ (tailB t.data.toList false).data.toList) (hs : u.size ≤ 8000) :
    fcs16 65535 u.data.toList = 61624 := by
  have eM : Int.toNat 65535 = 65535 := by simp
  have hr := resid t.data.toList false
  simp [ruleB, initB, residB] at hr
  rw [fcs16_pos hs (by decide) (by decide), hu, eM, hr]
  rfl
theorem ok_fcs32 (w0 : World) (x v : Int) (t : ByteArray) (w : World) (hx1 : -9223372036854775808 ≤ x) (hx2 : x ≤ 9223372036854775807) (ht : t.size ≤ 8000) (hv : fcs32 x t.data.toList = v) (h : Ok w0 w) :
    Calls Tryd.prog 10 #[.int .i64 x, .string t] w fun e w' => e = .returned (.int .i64 v) ∧ Ok w0 w' :=
  (implFcs32 x t w hx1 hx2 (by unfold maxLen; omega) h.1).mono fun _ _ ⟨h1, h2⟩ => ⟨by rw [h1, hv], h.step h2⟩
theorem ok_specFcs32 (w0 : World) (x v : Int) (t : ByteArray) (w : World) (hx1 : -9223372036854775808 ≤ x) (hx2 : x ≤ 9223372036854775807) (ht : t.size ≤ 8000) (hv : fcs32 x t.data.toList = v) (h : Ok w0 w) :
    Calls Tryd.prog 11 #[.int .i64 x, .string t] w fun e w' => e = .returned (.int .i64 v) ∧ Ok w0 w' :=
  (specFcs32 x t w hx1 hx2 (by unfold maxLen; omega)).mono fun _ _ ⟨h1, h2⟩ => ⟨by rw [h1, hv], by rw [h2]; exact h⟩
theorem fcs32_goes (t : ByteArray) (k : Nat) (hk : k ≤ t.size) (ht : t.size ≤ 8000) :
    fcs32 (fcs32 4294967295 (t.extract 0 k).data.toList) (t.extract k t.size).data.toList = fcs32 4294967295 t.data.toList ∧ 0 ≤ fcs32 4294967295 (t.extract 0 k).data.toList ∧ fcs32 4294967295 (t.extract 0 k).data.toList ≤ 4294967295 := by
  have s1 : (t.extract 0 k).size = k := extract_size t k hk
  have s2 : (t.extract k t.size).size ≤ 8000 := by rw [ByteArray.size_extract]; omega
  have e1 := fcs32_pos (x := 4294967295) (t := t.extract 0 k) (by omega) (by decide) (by decide)
  have hq := sumL_lt32 3988292384 4294967295 (t.extract 0 k).data.toList (by decide) (by decide)
  have e3 := fcs32_pos (x := 4294967295) (t := t) ht (by decide) (by decide)
  have eM : Int.toNat 4294967295 = 4294967295 := by simp
  rw [e1, e3, eM]
  have e2 := fcs32_pos (x := ((Fcs.sumL 3988292384 4294967295 (t.extract 0 k).data.toList : Nat) : Int)) (t := t.extract k t.size) s2 (by omega) (by omega)
  rw [e2, Int.toNat_natCast, ← Fcs.sumL_append]
  refine ⟨?_, by omega, by omega⟩
  congr 2
  rw [extract_list, extract_list, List.drop_zero, Nat.sub_zero, List.take_of_length_le (l := List.drop k t.data.toList) (by simp), List.take_append_drop]
theorem fcs32_resid (u t : ByteArray) (hu : u.data.toList = t.data.toList ++ (tailB t.data.toList true).data.toList) (hs : u.size ≤ 8000) :
    fcs32 4294967295 u.data.toList = 3736805603 := by
  have eM : Int.toNat 4294967295 = 4294967295 := by simp
  have hr := resid t.data.toList true
  simp [ruleB, initB, residB] at hr
  rw [fcs32_pos hs (by decide) (by decide), hu, eM, hr]
  rfl

set_option maxHeartbeats 1000000 in
set_option maxRecDepth 100000 in
theorem lawSums (w : World) (s1 s2 : Value) (n1 n2 : Nat) (h1 : n1 ≤ maxLen) (h2 : n2 ≤ maxLen) (hD1 : Dat w w.heap.size s1 n1) (hD2 : Dat w w.heap.size s2 n2)
    (hT : Lib.Utf8Tabs 0 1 w) (hl1 : n1 ≤ 1048576) (hl2 : n2 ≤ 1048576) :
    Calls Tryd.prog 3 #[s1, s2] w fun e w' => e = .returned (.bool true) ∧ Below w.heap.size w w' := by
  have c1 := drawTail w s1 n1 h1 hD1
  have HD2 := hide hD2
  obtain ⟨a1, cap1, rfl⟩ := hD1.1
  obtain ⟨a2, cap2, rfl⟩ := hD2.1
  clear hD1 hD2
  have d1 : ¬ ((1048576 : Int) < (n1 : Int)) := by omega
  have d2 : ¬ ((1048576 : Int) < (n2 : Int)) := by omega
  go_enter Tryd.func3, Tryd.ntmps3
  go_wp2_with fail
  refine c1.mono ?_
  rintro e w1 ⟨xs, b, rfl, hxl, hb1⟩
  have hok1 : Ok w w1 := ⟨Utf8Tabs_below hT hb1, hb1⟩
  have hts : (strOfNums xs).size < 20 := by rw [strOfNums_size]; exact hxl
  generalize strOfNums xs = t at *
  clear c1 hxl hb1
  go_wp2_with fail
  refine (ok_tail w t b w1 (by omega) hok1).mono ?_
  rintro e w2 ⟨rfl, hok2⟩
  go_wp2_with fail
  refine (drawFcs w2 (.slice a2 n2 cap2) n2 h2 (((unhide HD2).below hok2.2).mono hok2.2.size)).mono ?_
  rintro e w3 ⟨x, ys, rfl, hx1, hx2, hyl, hb3⟩
  have hok3 : Ok w w3 := hok2.step hb3
  have hus : (strOfNums ys).size < 12 := by rw [strOfNums_size]; exact hyl
  generalize strOfNums ys = u at *
  clear hok1 hok2 hb3 hyl
  go_wp2_with fail
  refine (ok_specTail w t b w3 (by omega) hok3).mono ?_
  rintro e w4 ⟨rfl, hok4⟩
  obtain ⟨V, hV⟩ : ∃ V, tailB t.data.toList b = V := ⟨_, rfl⟩
  have hVs : V.size = tailN b := by
    have := tailB_len t.data.toList b
    rw [hV, ← Lib.size_eq] at this
    exact this
  have hb4 := tailN_le b
  have hU : (t ++ V).data.toList = t.data.toList ++ (tailB t.data.toList b).data.toList := by
    rw [hV, ByteArray.data_append, Array.toList_append]
  have hUs : (t ++ V).size ≤ 8000 := by rw [ByteArray.size_append]; omega
  have hgood : goodV (t ++ V) b = true := good_tail t (t ++ V) b (by omega) hU
  have hcat : ¬ (9223372036854775807 < t.size + V.size) := by omega
  have KG := hide fun w' => ok_good w (t ++ V) b true w' hUs hgood
  have HV := hide hV
  have HU := hide hU
  have HUs := hide hUs
  have HG := hide hgood
  have HVs := hide hVs
  rw [hV]
  clear hV hok3 hU hUs hgood hVs
  obtain ⟨v16, hv16⟩ : ∃ v, fcs16 x u.data.toList = v := ⟨_, rfl⟩
  obtain ⟨v32, hv32⟩ : ∃ v, fcs32 x u.data.toList = v := ⟨_, rfl⟩
  have K16 := hide fun w' => ok_fcs16 w x v16 u w' hx1 hx2 (by omega) hv16
  have S16 := hide fun w' => ok_specFcs16 w x v16 u w' hx1 hx2 (by omega) hv16
  have K32 := hide fun w' => ok_fcs32 w x v32 u w' hx1 hx2 (by omega) hv32
  have S32 := hide fun w' => ok_specFcs32 w x v32 u w' hx1 hx2 (by omega) hv32
  clear hv16 hv32
  go_wp2_with fail
  refine (unhide K16 w4 hok4).mono ?_
  rintro e w5 ⟨rfl, hok5⟩
  clear hok4 K16
  go_wp2_with fail
  refine (unhide S16 w5 hok5).mono ?_
  rintro e w6 ⟨rfl, hok6⟩
  clear hok5 S16
  go_wp2_with fail
  refine (unhide K32 w6 hok6).mono ?_
  rintro e w7 ⟨rfl, hok7⟩
  clear hok6 K32
  go_wp2_with fail
  refine (unhide S32 w7 hok7).mono ?_
  rintro e w8 ⟨rfl, hok8⟩
  clear hok7 S32
  go_wp2_with fail
  refine (unhide KG w8 hok8).mono ?_
  rintro e w9 ⟨rfl, hok9⟩
  clear hok8 KG
  go_wp2_with fail
  refine (lwAt w9 w.heap.size (.slice a2 n2 cap2) n2 0 (t.size + 1) (by omega) (by omega) h2 ((unhide HD2).below hok9.2)).mono ?_
  rintro e w10 ⟨k, rfl, hk, rfl⟩
  have hk2 : k ≤ t.size := by omega
  clear hk
  go_wp2_with fail
  obtain ⟨g16, a16, b16⟩ := fcs16_goes t k hk2 (by omega)
  obtain ⟨g32, a32, b32⟩ := fcs32_goes t k hk2 (by omega)
  have es1 : (t.extract 0 k).size ≤ 8000 := by rw [ByteArray.size_extract]; omega
  have es2 : (t.extract k t.size).size ≤ 8000 := by rw [ByteArray.size_extract]; omega
  have P1 := hide fun w' => ok_fcs16 w 65535 _ (t.extract 0 k) w' (by decide) (by decide) es1 rfl
  have P2 := hide fun w' => ok_fcs16 w (fcs16 65535 (t.extract 0 k).data.toList) _ (t.extract k t.size) w' (by omega) (by omega) es2 g16
  have P3 := hide fun w' => ok_fcs16 w 65535 _ t w' (by decide) (by decide) (by omega) rfl
  have Q1 := hide fun w' => ok_fcs32 w 4294967295 _ (t.extract 0 k) w' (by decide) (by decide) es1 rfl
  have Q2 := hide fun w' => ok_fcs32 w (fcs32 4294967295 (t.extract 0 k).data.toList) _ (t.extract k t.size) w' (by omega) (by omega) es2 g32
  have Q3 := hide fun w' => ok_fcs32 w 4294967295 _ t w' (by decide) (by decide) (by omega) rfl
  clear g16 a16 b16 g32 a32 b32 es1 es2
  generalize fcs16 65535 (t.extract 0 k).data.toList = A16 at *
  generalize fcs32 4294967295 (t.extract 0 k).data.toList = A32 at *
  generalize fcs16 65535 t.data.toList = F16 at *
  generalize fcs32 4294967295 t.data.toList = F32 at *
  have hki : (k : Int) ≤ (t.size : Int) := by omega
  have dF16 : (F16 == F16) = true := beq_self_eq_true F16
  have dF32 : (F32 == F32) = true := beq_self_eq_true F32
  go_region_held (fun v => Ok w v) (first | assumption | exact Ok.drew (by assumption)) (first
    | (go_at_call_of 8 (Value.int .i64 A16); refine (unhide P2 _ ?_).mono ?_; assumption; rintro e v1 ⟨rfl, hv1⟩)
    | (go_at_call_of 8 (Value.string (t.extract 0 k)); refine (unhide P1 _ ?_).mono ?_; assumption; rintro e v1 ⟨rfl, hv1⟩)
    | (go_at_call_of 8 (Value.string t); refine (unhide P3 _ ?_).mono ?_; assumption; rintro e v1 ⟨rfl, hv1⟩)
    | (go_at_call_of 10 (Value.int .i64 A32); refine (unhide Q2 _ ?_).mono ?_; assumption; rintro e v1 ⟨rfl, hv1⟩)
    | (go_at_call_of 10 (Value.string (t.extract 0 k)); refine (unhide Q1 _ ?_).mono ?_; assumption; rintro e v1 ⟨rfl, hv1⟩)
    | (go_at_call_of 10 (Value.string t); refine (unhide Q3 _ ?_).mono ?_; assumption; rintro e v1 ⟨rfl, hv1⟩))
  clear P1 P2 P3 Q1 Q2 Q3 dF16 dF32 hok9
  have R16 := hide fun (hb : b = false) w' => ok_fcs16 w 65535 61624 (t ++ V) w' (by decide) (by decide) (unhide HUs) (fcs16_resid (t ++ V) t (by have := unhide HU; rw [hb] at this; exact this) (unhide HUs))
  have R32 := hide fun (hb : b = true) w' => ok_fcs32 w 4294967295 3736805603 (t ++ V) w' (by decide) (by decide) (unhide HUs) (fcs32_resid (t ++ V) t (by have := unhide HU; rw [hb] at this; exact this) (unhide HUs))
  have hv1' : Ok w v1 := by assumption
  have hb0 : (b = false → ∀ w', Ok w w' → Calls Tryd.prog 8 #[.int .i64 65535, .string (t ++ V)] w' fun e w'' => e = .returned (.int .i64 61624) ∧ Ok w w'') := unhide R16
  have hb1 : (b = true → ∀ w', Ok w w' → Calls Tryd.prog 10 #[.int .i64 4294967295, .string (t ++ V)] w' fun e w'' => e = .returned (.int .i64 3736805603) ∧ Ok w w'') := unhide R32
  clear R16 R32
  have hU2 : 0 < (t ++ V).size := by
    rw [ByteArray.size_append]
    have := unhide HVs
    have : 2 ≤ tailN b := by cases b <;> decide
    omega
  have HU2 := hide hU2
  clear hU2
  have R0 := hide hb0
  have R1 := hide hb1
  clear hb0 hb1
  cases b
  case' false =>
    go_wp2_with fail
    refine (unhide R0 trivial v1 hv1').mono ?_
  case' true =>
    go_wp2_with fail
    refine (unhide R1 trivial v1 hv1').mono ?_
  all_goals
    rintro e v2 ⟨rfl, hv2⟩
    clear hv1'
    go_wp2_with fail
    clear hcat R0 R1
    generalize t ++ V = U at *
    obtain ⟨cap3, v3, hcv, hcl, hfr, hb3⟩ := str_bytes v2 U
    have hok3 : Ok w v3 := hv2.step hb3
    have HCL := hide hcl
    have HFR := hide hfr
    have hs3 : v2.heap.size < v3.heap.size ∨ True := Or.inr trivial
    clear hcl hfr hs3
    have hU8 := unhide HUs
    have hU0 := unhide HU2
    rw [hcv]
    simp only [Result.andThen]
    rw [Oper.upon_value]
    clear hcv
    go_wp2_with fail
    refine (lwAt v3 w.heap.size (.slice a2 n2 cap2) n2 1 U.size (by omega) (by omega) h2 ((unhide HD2).below hok3.2)).mono ?_
    rintro e v4 ⟨r, rfl, hr, rfl⟩
    have hr2 : r < U.size := by omega
    have hr3 : r < U.data.toList.length := by rw [← Lib.size_eq]; exact hr2
    have hcr := unhide HCL r hr3
    have hfr := unhide HFR r hr2
    have hri : (r : Int) < (U.size : Int) := by omega
    obtain ⟨c, hc⟩ : ∃ c, (U.data.toList[r]).toNat = c := ⟨_, rfl⟩
    have hc256 : c < 256 := by rw [← hc]; exact (U.data.toList[r]).toNat_lt
    have HC := hide hc
    rw [hc] at hcr
    clear hc hr
    have KL := hide fun v (hv : Dat v w.heap.size (.slice a2 n2 cap2) n2) => lwAt v w.heap.size (.slice a2 n2 cap2) n2 2 255 (by decide) (by decide) h2 hv
    have HD4 := hide ((unhide HD2).below hok3.2)
    go_wp2_with fail
    go_region_with (first
      | (go_at_call 13; refine (unhide KL _ ?_).mono ?_; exact (unhide HD4).below (Below.refl _ _).drew; rintro e v5 ⟨d, rfl, hd, rfl⟩; have hd2 : d < 255 := by omega))
    all_goals
      obtain ⟨y, hy, hy2, hy3⟩ := xor_turn c d hc256 (by assumption)
      rw [hy]
      have hbW : Below w.heap.size w (v4.setCell ⟨v2.heap.size, r, none⟩ (.int .u8 y)).drew := (hok3.2.setCell (p := ⟨v2.heap.size, r, none⟩) hv2.2.size _).drew
      have hokW : Ok w (v4.setCell ⟨v2.heap.size, r, none⟩ (.int .u8 y)).drew := ⟨Utf8Tabs_below hT hbW, hbW⟩
      have hback : (convert 22 9 (.slice (some ⟨v2.heap.size, 0, none⟩) U.size cap3)).run Tryd.prog (v4.setCell ⟨v2.heap.size, r, none⟩ (.int .u8 y)).drew = .ok (.string (strOfNums (turned U r y))) (v4.setCell ⟨v2.heap.size, r, none⟩ (.int .u8 y)).drew :=
        bytes_back v4.drew v2.heap.size cap3 r y U hy2 (unhide HCL)
      have hbad := good_set U _ r y hr3 hy2 (by rw [unhide HC]; exact hy3) (unhide HG)
      have hsz : (strOfNums (turned U r y)).size ≤ 8000 := by
        rw [strOfNums_size]
        simp only [turned, List.length_map, List.length_set]
        rw [← Lib.size_eq]
        exact hU8
      have KB := hide (ok_good w (strOfNums (turned U r y)) _ false _ hsz hbad hokW)
      have HB := hide hback
      clear hy hbad hsz hback
      generalize strOfNums (turned U r y) = T at *
      generalize (v4.setCell ⟨v2.heap.size, r, none⟩ (.int .u8 y)).drew = W at *
      go_wp2_with fail
      rw [unhide HB]
      simp only [Result.andThen]
      rw [Oper.upon_value]
      go_wp2_with fail
      refine (unhide KB).mono ?_
      rintro e w' ⟨rfl, hokE⟩
      go_wp2
      go_ret
      exact ⟨rfl, hokE.2⟩
end Go.Proofs.YtdjlkchdomllhaaDoor
