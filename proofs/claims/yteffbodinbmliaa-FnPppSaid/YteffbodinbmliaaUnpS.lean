/- PppUnpack, the model's: of any text what is read; what lay in memory stands. -/
import Derived.Test.YteffbodinbmliaaProto
import Derived.Test.YteffbodinbmliaaTxt
import Derived.Deep.DeepCutAuto
namespace Go.Proofs.Yteffbodinbmliaa
open Go.RowKit
/-- What PppUnpack answers, as a value. -/
def outV (o : Pp.Out) : Value := .agg #[.int .i64 o.proto, .string (txt o.text), .int .i64 o.code]
theorem len_dat (t : ByteArray) : t.data.toList.length = t.size := by rw [Array.length_toList]; rfl
/-- Which text is read: behind the front, or whole. -/
theorem rest_ways (t : ByteArray) (P : Prop) (h1 : t.size < 2 → Pp.rest t.data.toList = t.data.toList → P)
    (h2 : 2 ≤ t.size → t.data.toList.take 2 ≠ [0xff, 3] → Pp.rest t.data.toList = t.data.toList → P) (h3 : 2 ≤ t.size → t.data.toList.take 2 = [0xff, 3] → Pp.rest t.data.toList = t.data.toList.drop 2 → P) : P := by
  have hl := len_dat t
  generalize t.data.toList = l at *
  rcases l with _ | ⟨c, _ | ⟨d, r⟩⟩
  · exact h1 (by simp at hl; omega) rfl
  · exact h1 (by simp at hl; omega) rfl
  · have hs : 2 ≤ t.size := by simp at hl; omega
    have hr : Pp.rest (c :: d :: r) = (if c = 0xff ∧ d = 3 then r else c :: d :: r) := rfl
    by_cases e : c = 0xff ∧ d = 3
    · rw [if_pos e] at hr
      exact h3 hs (by simp [e]) hr
    · rw [if_neg e] at hr
      exact h2 hs (by simpa using e) hr
theorem get_cons0 {U : ByteArray} (h : 0 < U.size) : U.data.toList = U[0] :: U.data.toList.drop 1 := by
  have hl := len_dat U
  exact List.drop_eq_getElem_cons (i := 0) (l := U.data.toList) (by omega)
theorem get_cons1 {U : ByteArray} (h : 1 < U.size) : U.data.toList = U[0] :: U[1] :: U.data.toList.drop 2 := by
  have hl := len_dat U
  conv => lhs; rw [get_cons0 (by omega)]
  congr 1
  exact List.drop_eq_getElem_cons (i := 1) (by omega)
theorem read_none {U : ByteArray} (h : U.size < 1) : Pp.read U.data.toList = ⟨0, [], 4⟩ := by
  have hl := len_dat U
  rw [List.eq_nil_of_length_eq_zero (l := U.data.toList) (by omega)]
  rfl
theorem read_odd {U : ByteArray} (h : 0 < U.size) (ho : U[0].toNat % 2 = 1) : Pp.read U.data.toList = ⟨U[0].toNat, U.data.toList.drop 1, 0⟩ := by
  conv => lhs; rw [get_cons0 h]
  have := Pp.read_one (k := U[0].toNat) U[0].toNat_lt ho (U.data.toList.drop 1)
  rwa [show UInt8.ofNat U[0].toNat = U[0] by simp] at this
theorem read_even1 {U : ByteArray} (h : 0 < U.size) (h1 : U.size < 2) (ho : U[0].toNat % 2 = 0) : Pp.read U.data.toList = ⟨0, [], 4⟩ := by
  have hl := len_dat U
  rw [get_cons0 h, List.drop_eq_nil_of_le (by omega)]
  simp only [Pp.read]
  rw [if_neg (by omega)]
theorem read_even2 {U : ByteArray} (h : 1 < U.size) (ho : U[0].toNat % 2 = 0) :
    Pp.read U.data.toList = (if Pp.ok ((256 * U[0].toNat + U[1].toNat : Nat) : Int) = true then ⟨(256 * U[0].toNat + U[1].toNat : Nat), U.data.toList.drop 2, 0⟩ else ⟨0, [], 3⟩) := by
  have h1 := U[0].toNat_lt
  have h2 := U[1].toNat_lt
  conv => lhs; rw [get_cons1 h]
  simp only [Pp.read]
  rw [if_neg (by omega)]
  by_cases c : U[1].toNat % 2 = 1
  · rw [if_pos c, if_pos (Pp.ok_nat (by omega) (by omega) (by omega))]
  · rw [if_neg c, if_neg]
    intro e
    obtain ⟨k, hk, _, h4, _⟩ := Pp.ok_get e
    omega
theorem txt_drop (U : ByteArray) (n : Nat) : U.extract n U.size = txt (U.data.toList.drop n) := by
  have hl := len_dat U
  apply ByteArray.ext
  apply Array.ext'
  simp only [txt, ByteArray.data_extract, Array.toList_extract, List.extract_eq_take_drop]
  rw [List.take_of_length_le (by rw [List.length_drop]; omega)]
set_option maxHeartbeats 2000000 in
theorem specUnp_at (t : ByteArray) (w : World) (h8 : t.size ≤ 8000) :
    Calls Try.prog 12 #[.string t] w fun e w' => e = .returned (outV (Pp.unpack t.data.toList)) ∧ Below w.heap.size w w' := by
  have d0 : ¬ ((8000 : Int) < (t.size : Int)) := by omega
  have hun : Pp.unpack t.data.toList = Pp.read (Pp.rest t.data.toList) := by unfold Pp.unpack; rw [len_dat, if_pos h8]
  have hrl := Pp.rest_len t.data.toList
  rw [len_dat] at hrl
  obtain ⟨U, hU⟩ : ∃ U : ByteArray, U = txt (Pp.rest t.data.toList) := ⟨_, rfl⟩
  have hUl : U.data.toList = Pp.rest t.data.toList := by rw [hU]; rfl
  have hUs : U.size ≤ 8000 := by rw [← len_dat, hUl]; omega
  rw [hun, ← hUl]
  have HU := hide hU
  clear hU hUl hrl hun
  go_enter Try.func12, Try.ntmps12
  go_upto_region 3 with fail
  go_cut [16] (fun b wx => b = .bool (decide (t.data.toList.take 2 = [0xff, 3])) ∧ wx = w.alloc (.cells #[.int .i64 0, .string ⟨#[]⟩, .int .i64 0] 29))
  case first =>
    by_cases h2 : 2 ≤ t.size
    · have d1 : decide ((2 : Int) ≤ (t.size : Int)) = true := decide_eq_true (by omega)
      have d2 : (2 : Int) ≤ (t.size : Int) := by omega
      have hx : (t.extract 0 2).toList = t.data.toList.take 2 := by rw [ByteArray.toList_eq]; simp [ByteArray.data_extract]
      by_cases e : t.data.toList.take 2 = [0xff, 3]
      · have d3 : ((t.extract 0 2).toList == [255, 3]) = true := by rw [hx, e]; rfl
        have HE := hide (decide_eq_true e)
        clear hx e
        go_wp2_with fail
        go_meet
        exact ⟨by rw [unhide HE], rfl⟩
      · have d3 : ((t.extract 0 2).toList == [255, 3]) = false := by rw [hx]; exact beq_eq_false_iff_ne.2 e
        have HE := hide (decide_eq_false e)
        clear hx e
        go_wp2_with fail
        go_meet
        exact ⟨by rw [unhide HE], rfl⟩
    · have d1 : decide ((2 : Int) ≤ (t.size : Int)) = false := decide_eq_false (by omega)
      have e : ¬ (t.data.toList.take 2 = [0xff, 3]) := fun e => by
        have := congrArg List.length e
        rw [List.length_take, len_dat] at this
        simp at this
        omega
      have HE := hide (decide_eq_false e)
      clear e
      go_wp2_with fail
      go_meet
      exact ⟨by rw [unhide HE], rfl⟩
  case rest =>
    obtain ⟨hu16, rfl⟩ := hcut
    subst hu16
    go_upto_if 16 with fail
    go_cut [0] (fun v wx => v = .string U ∧ wx = w.alloc (.cells #[.int .i64 0, .string ⟨#[]⟩, .int .i64 0] 29))
    case first =>
      by_cases e : t.data.toList.take 2 = [0xff, 3]
      · have h2 : 2 ≤ t.size := by
          have := congrArg List.length e
          rw [List.length_take, len_dat] at this
          simp at this
          omega
        have d2 : (2 : Int) ≤ (t.size : Int) := by omega
        have HX : Hid (t.extract 2 t.size = U) := by
          refine hide ?_
          rw [unhide HU]
          refine rest_ways t _ (fun a _ => by omega) (fun _ a _ => absurd e a) (fun _ _ r => ?_)
          rw [r]
          exact txt_drop t 2
        rw [decide_eq_true e]
        clear e
        go_wp2_with fail
        go_meet
        exact ⟨by rw [unhide HX], rfl⟩
      · have HX : Hid (t = U) := by
          refine hide ?_
          rw [unhide HU]
          refine rest_ways t _ (fun _ r => ?_) (fun _ _ r => ?_) (fun _ a _ => absurd a e)
          · rw [r]; rfl
          · rw [r]; rfl
        rw [decide_eq_false e]
        clear e
        go_wp2_with fail
        go_meet
        exact ⟨by rw [unhide HX], rfl⟩
    case rest =>
      obtain ⟨hu0, hwc⟩ := hcut
      subst hu0 hwc
      clear HU
      have C1 := hide fun x v => specProto x v
      have hb0 : Below w.heap.size w (w.alloc (.cells #[.int .i64 0, .string ⟨#[]⟩, .int .i64 0] 29)) := (Below.refl _ _).alloc (Nat.le_refl _) _
      by_cases h0 : U.size < 1
      · have d1 : decide ((U.size : Int) < 1) = true := decide_eq_true (by omega)
        have HR := hide (read_none h0)
        go_wp2
        refine bodyPost_ret (v := outV ⟨0, [], 4⟩) (by simp [results, Try.results12, go_sem, outV, txt]) rfl ⟨by rw [unhide HR], ?_⟩
        exact (Below.refl _ _).alloc (Nat.le_refl _) _
      · have g0 : 0 < U.size := by omega
        have d1 : decide ((U.size : Int) < 1) = false := decide_eq_false (by omega)
        have d1' : ¬ ((U.size : Int) < 1) := by omega
        rcases Nat.mod_two_eq_zero_or_one U[0].toNat with ho | ho
        · by_cases h1 : 1 < U.size
          · have HR := hide (read_even2 h1 ho)
            have hlt := U[0].toNat_lt
            have hlt1 := U[1].toNat_lt
            have HX := hide (txt_drop U 2)
            obtain ⟨c, hc⟩ : ∃ c, U[0]'g0 = c := ⟨_, rfl⟩
            obtain ⟨d, hd⟩ : ∃ c, U[1]'h1 = c := ⟨_, rfl⟩
            rw [hc, hd] at HR
            rw [hc] at ho hlt
            rw [hd] at hlt1
            have d2 : decide ((U.size : Int) < 2) = false := decide_eq_false (by omega)
            have d2' : (1 : Int) < (U.size : Int) := by omega
            have d3 : (c.toNat : Int) % 2 = 0 := by omega
            have d5 : wrap64 (c.toNat : Int) = (c.toNat : Int) := by unfold wrap64; omega
            have d6 : wrap64 (d.toNat : Int) = (d.toNat : Int) := by unfold wrap64; omega
            have d7 : wrap64 (256 * (c.toNat : Int)) = 256 * (c.toNat : Int) := by unfold wrap64; omega
            have d8 : wrap64 (256 * (c.toNat : Int) + (d.toNat : Int)) = 256 * (c.toNat : Int) + (d.toNat : Int) := by unfold wrap64; omega
            have c1 := specProto (256 * (c.toNat : Int) + (d.toNat : Int)) (w.alloc (.cells #[.int .i64 0, .string ⟨#[]⟩, .int .i64 0] 29))
            rw [show ((256 * c.toNat + d.toNat : Nat) : Int) = 256 * (c.toNat : Int) + (d.toNat : Int) by omega] at HR
            clear ho C1
            cases hok : Pp.ok (256 * (c.toNat : Int) + (d.toNat : Int))
            · rw [hok] at c1 HR
              clear hok
              go_wp2_with (first
                | (go_at_call 8; refine c1.mono ?_; rintro e w1 ⟨rfl, rfl⟩))
              refine bodyPost_ret (v := outV ⟨0, [], 3⟩) ?_ rfl ⟨by rw [unhide HR]; rfl, (Below.refl _ _).alloc (Nat.le_refl _) _⟩
              simp [results, Try.results12, go_sem, outV, txt]
            · rw [hok] at c1 HR
              clear hok
              go_wp2_with (first
                | (go_at_call 8; refine c1.mono ?_; rintro e w1 ⟨rfl, rfl⟩))
              refine bodyPost_ret (v := outV ⟨256 * (c.toNat : Int) + (d.toNat : Int), U.data.toList.drop 2, 0⟩) ?_ rfl ⟨by rw [unhide HR]; rfl, (Below.refl _ _).alloc (Nat.le_refl _) _⟩
              simp [results, Try.results12, go_sem, outV, unhide HX]
          · have HR := hide (read_even1 g0 (by omega) ho)
            have d2 : decide ((U.size : Int) < 2) = true := decide_eq_true (by omega)
            have d3 : (U[0].toNat : Int) % 2 = 0 := by omega
            clear ho
            go_wp2
            refine bodyPost_ret (v := outV ⟨0, [], 4⟩) (by simp [results, Try.results12, go_sem, outV, txt]) rfl ⟨by rw [unhide HR], ?_⟩
            exact (Below.refl _ _).alloc (Nat.le_refl _) _
        · have HR := hide (read_odd g0 ho)
          have hlt := U[0].toNat_lt
          have HOK : Hid (Pp.ok (U[0].toNat : Int) = true) := hide (Pp.ok_nat (by omega) ho (by omega))
          have HX := hide (txt_drop U 1)
          obtain ⟨c, hc⟩ : ∃ c, U[0]'g0 = c := ⟨_, rfl⟩
          rw [hc] at HR HOK ho hlt
          have d3 : ¬ ((c.toNat : Int) % 2 = 0) := by omega
          have d4 : ((c.toNat : Int) % 2 == 0) = false := beq_eq_false_iff_ne.2 d3
          have d5 : wrap64 (c.toNat : Int) = (c.toNat : Int) := by unfold wrap64; omega
          have c1 := specProto (c.toNat : Int) (w.alloc (.cells #[.int .i64 0, .string ⟨#[]⟩, .int .i64 0] 29))
          rw [unhide HOK] at c1
          clear ho C1
          go_wp2_with (first
            | (go_at_call 8; refine c1.mono ?_; rintro e w1 ⟨rfl, rfl⟩))
          refine bodyPost_ret (v := outV ⟨(c.toNat : Int), U.data.toList.drop 1, 0⟩) ?_ rfl ⟨by rw [unhide HR], (Below.refl _ _).alloc (Nat.le_refl _) _⟩
          simp [results, Try.results12, go_sem, outV, unhide HX]
set_option maxHeartbeats 400000 in
theorem specUnpAll (t : ByteArray) (w : World) (ht : t.size ≤ maxLen) :
    Calls Try.prog 12 #[.string t] w fun e w' => e = .returned (outV (Pp.unpack t.data.toList)) ∧ Below w.heap.size w w' := by
  by_cases h8 : t.size ≤ 8000
  · exact specUnp_at t w h8
  · unfold maxLen at ht
    have d0 : (8000 : Int) < (t.size : Int) := by omega
    rw [show Pp.unpack t.data.toList = ⟨0, [], 2⟩ by unfold Pp.unpack; rw [len_dat, if_neg h8]]
    go_enter Try.func12, Try.ntmps12
    go_wp2
    refine bodyPost_ret (v := outV ⟨0, [], 2⟩) ?_ rfl ⟨rfl, (Below.refl _ _).alloc (Nat.le_refl _) _⟩
    simp [results, Try.results12, go_sem, outV, txt]
end Go.Proofs.Yteffbodinbmliaa
