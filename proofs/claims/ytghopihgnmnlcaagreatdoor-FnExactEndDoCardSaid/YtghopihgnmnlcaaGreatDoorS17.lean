/- The model's l05Ask; what lay in memory stands, and the answer is a row of its own. Small things of the model's end at work: the first bytes of a text, the lesser of two numbers; memory stands as it was. The model's EndNew; what lay in memory stands. -/
import Derived.Test.YtghopihgnmnlcaaGreatDoorS16
import Derived.Test.YtghopihgnmnlcaaGreatDoorS00
import Derived.Test.YtghopihgnmnlcaaGreatDoorS10
import Derived.Great.Walk
namespace Go.Proofs.YtghopihgnmnlcaaGreatDoor
open Go.RowKit
/-- A row under way: what is asked for of the first kinds. -/
def AskC (L : List Op.Opt) (base : Nat) (w0 : World) (v : Value) (wx : World) : Prop :=
  ∃ ad cp, v = .slice ad L.length cp ∧ wx.ownsRow base 118 2 (.slice ad L.length cp) L.length (ocells L) ∧ Below base w0 wx
theorem AskC.cfg {L : List Op.Opt} {B : Nat} {w0 : World} {v : Value} {wx : World} {cs : Array Value} {T : TypeId} (h : AskC L (B + 1) w0 v wx) (hc : w0.heap[B]? = some (.cells cs T)) : wx.heap[B]? = some (.cells cs T) := by
  obtain ⟨_, _, _, _, hb⟩ := h
  exact (hb.block B (Nat.lt_succ_self _)).trans hc
theorem askS0 (m a g : Nat) (p c d : Bool) : askL m a g p c d 1 = askL m a g p c d 0 ++ askIf ((m : Int) != 300) 1 (put2 m) := by simp [askL, askP]
theorem askS1 (m a g : Nat) (p c d : Bool) : askL m a g p c d 2 = askL m a g p c d 1 ++ askIf ((a : Int) != 4294967295) 2 (put4 a) := by simp [askL, askP]
theorem askS2 (m a g : Nat) (p c d : Bool) : askL m a g p c d 3 = askL m a g p c d 2 ++ askIf ((g : Int) != 0) 5 (put4 g) := by simp [askL, askP]
theorem askS3 (m a g : Nat) (p c d : Bool) : askL m a g p c d 4 = askL m a g p c d 3 ++ askIf (p) 7 (⟨#[]⟩) := by simp [askL, askP]
theorem askS4 (m a g : Nat) (p c d : Bool) : askL m a g p c d 5 = askL m a g p c d 4 ++ askIf (c) 8 (⟨#[]⟩) := by simp [askL, askP]
theorem askS5 (m a g : Nat) (p c d : Bool) : askL m a g p c d 6 = askL m a g p c d 5 ++ askIf (d) 9 (put1 4) := by simp [askL, askP]
set_option maxHeartbeats 8000000 in
theorem specL05 (m a g : Nat) (p c d : Bool) (w : World) :
    Calls Tryz.prog 122 #[cfgV m a g p c d] w fun e w' => ∃ v, e = .returned v ∧ AskC (askL m a g p c d 6) w.heap.size w v w' := by
  have HC0 : Hid ((w.alloc (.cells #[.int .i64 m, .int .i64 a, .int .i64 g, .bool p, .bool c, .bool d] 24)).heap[w.heap.size]? = some (.cells #[.int .i64 m, .int .i64 a, .int .i64 g, .bool p, .bool c, .bool d] 24)) := hide (heap_alloc_last w _)
  have hB0 : Below w.heap.size w (w.alloc (.cells #[.int .i64 m, .int .i64 a, .int .i64 g, .bool p, .bool c, .bool d] 24)) := (Below.refl _ _).alloc (Nat.le_refl _) _
  have HB0 := hide hB0
  have hs0 : (w.alloc (.cells #[.int .i64 m, .int .i64 a, .int .i64 g, .bool p, .bool c, .bool d] 24)).heap.size = w.heap.size + 1 := by simp
  have HS0 := hide hs0
  clear hB0 hs0
  go_enter Tryz.func122, Tryz.ntmps122
  go_upto_region 2 with fail
  have hA0 : AskC (askL m a g p c d 0) (w.heap.size + 1) (w.alloc (.cells #[.int .i64 m, .int .i64 a, .int .i64 g, .bool p, .bool c, .bool d] 24)) (.slice (some ⟨w.heap.size + 1, 0, none⟩) 0 0) ((w.alloc (.cells #[.int .i64 m, .int .i64 a, .int .i64 g, .bool p, .bool c, .bool d] 24)).alloc (.cells #[] 118)) := by
    refine ⟨_, _, rfl, ?_, (Below.refl _ _).alloc (by rw [unhide HS0]; exact Nat.le_refl _) _⟩
    have := World.ownsRow_lit (w.alloc (.cells #[.int .i64 m, .int .i64 a, .int .i64 g, .bool p, .bool c, .bool d] 24)) (base := w.heap.size + 1) (e := 118) (size := 2) #[] 0 (by rw [unhide HS0]; exact Nat.le_refl _) (Nat.zero_le _) rfl
    rw [unhide HS0] at this
    exact this
  refine gen_world (fun q => AskC (askL m a g p c d 0) (w.heap.size + 1) (w.alloc (.cells #[.int .i64 m, .int .i64 a, .int .i64 g, .bool p, .bool c, .bool d] 24)) (.slice (some ⟨w.heap.size + 1, 0, none⟩) 0 0) q) hA0 ?_
  clear hA0
  rintro q0 hA
  generalize (w.alloc (.cells #[.int .i64 m, .int .i64 a, .int .i64 g, .bool p, .bool c, .bool d] 24)) = W0 at *
  obtain ⟨ad0, cp0, hv0, ho, hb⟩ := hA
  have HO := hide ho
  have HB := hide hb
  rw [hv0]
  clear ho hb hv0
  have hbs := (unhide HB).size
  rw [unhide HS0] at hbs
  have hc := ((unhide HB).block w.heap.size (Nat.lt_succ_self _)).trans (unhide HC0)
  obtain ⟨c0, c1, c2, c3, c4, c5⟩ := row6 hc
  have hln := askL_len m a g p c d 0
  clear hc
  go_upto_if 7 with fail
  have HSL := hide (askS0 m a g p c d)
  generalize ((m : Int) != 300) = b at *
  go_cut [3] (fun v wx => AskC (askL m a g p c d 1) (w.heap.size + 1) W0 v wx)
  case first =>
    generalize askL m a g p c d 0 = L at *
    generalize askL m a g p c d 1 = L1 at *
    have HLT := hide (congrArg List.length (unhide HSL))
    cases b
    · rw [askIf_no, List.append_nil] at HSL
      clear HLT
      go_wp2_with fail
      go_meet
      rw [unhide HSL]
      exact ⟨_, _, rfl, unhide HO, unhide HB⟩
    · go_wp2_with fail
      refine (sput2 m _).mono ?_
      rintro e w4 ⟨rfl, hb4⟩
      have HO4 := hide (own_same (unhide HO) fun q _ hq => hb4.block q hq)
      have HB4 := hide ((unhide HB).trans (hb4.mono hbs))
      have hbs4 := Nat.le_trans hbs hb4.size
      clear hb4 HO HB c0 c1 c2 c3 c4 c5
      go_wp2_with (first | (at_builtin; refine append_opt rfl _ _ rfl (w.heap.size + 1) (.slice ad0 L.length cp0) L L.length rfl rfl (unhide HO4) 1 (put2 m) rfl (by omega) hbs4 ?_; rintro v6 w6 ho6 hg6; obtain ⟨a6, c6, rfl⟩ := own_form ho6))
      have hb6 : Below (w.heap.size + 1) W0 w6 := ((unhide HB4).alloc hbs4 _).grown hg6 (by simp; omega) (fun q hq => (World.ownsRow.lt (unhide HO4) q hq).1)
      go_meet
      have hl1 : L.length + 1 = L1.length := by rw [unhide HLT, askIf_yes, List.length_append]; rfl
      refine ⟨a6, c6, by rw [← hl1], ?_, hb6⟩
      rw [← hl1, unhide HSL, askIf_yes]
      exact ho6
  case rest =>
    obtain ⟨ad1, cp1, hu, ho, hb⟩ := hcut
    subst hu
    clear HO HB hbs c0 c1 c2 c3 c4 c5 hln HSL
    have HO := hide ho
    have HB := hide hb
    clear ho hb
    have hbs := (unhide HB).size
    rw [unhide HS0] at hbs
    have hc := ((unhide HB).block w.heap.size (Nat.lt_succ_self _)).trans (unhide HC0)
    obtain ⟨c0, c1, c2, c3, c4, c5⟩ := row6 hc
    have hln := askL_len m a g p c d 1
    clear hc
    go_upto_if 17 with fail
    have HSL := hide (askS1 m a g p c d)
    generalize ((a : Int) != 4294967295) = b at *
    go_cut [3] (fun v wx => AskC (askL m a g p c d 2) (w.heap.size + 1) W0 v wx)
    case first =>
      generalize askL m a g p c d 1 = L at *
      generalize askL m a g p c d 2 = L1 at *
      have HLT := hide (congrArg List.length (unhide HSL))
      cases b
      · rw [askIf_no, List.append_nil] at HSL
        clear HLT
        go_wp2_with fail
        go_meet
        rw [unhide HSL]
        exact ⟨_, _, rfl, unhide HO, unhide HB⟩
      · go_wp2_with fail
        refine (sput4 a _).mono ?_
        rintro e w4 ⟨rfl, hb4⟩
        have HO4 := hide (own_same (unhide HO) fun q _ hq => hb4.block q hq)
        have HB4 := hide ((unhide HB).trans (hb4.mono hbs))
        have hbs4 := Nat.le_trans hbs hb4.size
        clear hb4 HO HB c0 c1 c2 c3 c4 c5
        go_wp2_with (first | (at_builtin; refine append_opt rfl _ _ rfl (w.heap.size + 1) (.slice ad1 L.length cp1) L L.length rfl rfl (unhide HO4) 2 (put4 a) rfl (by omega) hbs4 ?_; rintro v6 w6 ho6 hg6; obtain ⟨a6, c6, rfl⟩ := own_form ho6))
        have hb6 : Below (w.heap.size + 1) W0 w6 := ((unhide HB4).alloc hbs4 _).grown hg6 (by simp; omega) (fun q hq => (World.ownsRow.lt (unhide HO4) q hq).1)
        go_meet
        have hl1 : L.length + 1 = L1.length := by rw [unhide HLT, askIf_yes, List.length_append]; rfl
        refine ⟨a6, c6, by rw [← hl1], ?_, hb6⟩
        rw [← hl1, unhide HSL, askIf_yes]
        exact ho6
    case rest =>
      obtain ⟨ad2, cp2, hu, ho, hb⟩ := hcut
      subst hu
      clear HO HB hbs c0 c1 c2 c3 c4 c5 hln HSL
      have HO := hide ho
      have HB := hide hb
      clear ho hb
      have hbs := (unhide HB).size
      rw [unhide HS0] at hbs
      have hc := ((unhide HB).block w.heap.size (Nat.lt_succ_self _)).trans (unhide HC0)
      obtain ⟨c0, c1, c2, c3, c4, c5⟩ := row6 hc
      have hln := askL_len m a g p c d 2
      clear hc
      go_upto_if 27 with fail
      have HSL := hide (askS2 m a g p c d)
      generalize ((g : Int) != 0) = b at *
      go_cut [3] (fun v wx => AskC (askL m a g p c d 3) (w.heap.size + 1) W0 v wx)
      case first =>
        generalize askL m a g p c d 2 = L at *
        generalize askL m a g p c d 3 = L1 at *
        have HLT := hide (congrArg List.length (unhide HSL))
        cases b
        · rw [askIf_no, List.append_nil] at HSL
          clear HLT
          go_wp2_with fail
          go_meet
          rw [unhide HSL]
          exact ⟨_, _, rfl, unhide HO, unhide HB⟩
        · go_wp2_with fail
          refine (sput4 g _).mono ?_
          rintro e w4 ⟨rfl, hb4⟩
          have HO4 := hide (own_same (unhide HO) fun q _ hq => hb4.block q hq)
          have HB4 := hide ((unhide HB).trans (hb4.mono hbs))
          have hbs4 := Nat.le_trans hbs hb4.size
          clear hb4 HO HB c0 c1 c2 c3 c4 c5
          go_wp2_with (first | (at_builtin; refine append_opt rfl _ _ rfl (w.heap.size + 1) (.slice ad2 L.length cp2) L L.length rfl rfl (unhide HO4) 5 (put4 g) rfl (by omega) hbs4 ?_; rintro v6 w6 ho6 hg6; obtain ⟨a6, c6, rfl⟩ := own_form ho6))
          have hb6 : Below (w.heap.size + 1) W0 w6 := ((unhide HB4).alloc hbs4 _).grown hg6 (by simp; omega) (fun q hq => (World.ownsRow.lt (unhide HO4) q hq).1)
          go_meet
          have hl1 : L.length + 1 = L1.length := by rw [unhide HLT, askIf_yes, List.length_append]; rfl
          refine ⟨a6, c6, by rw [← hl1], ?_, hb6⟩
          rw [← hl1, unhide HSL, askIf_yes]
          exact ho6
      case rest =>
        obtain ⟨ad3, cp3, hu, ho, hb⟩ := hcut
        subst hu
        clear HO HB hbs c0 c1 c2 c3 c4 c5 hln HSL
        have HO := hide ho
        have HB := hide hb
        clear ho hb
        have hbs := (unhide HB).size
        rw [unhide HS0] at hbs
        have hc := ((unhide HB).block w.heap.size (Nat.lt_succ_self _)).trans (unhide HC0)
        obtain ⟨c0, c1, c2, c3, c4, c5⟩ := row6 hc
        have hln := askL_len m a g p c d 3
        clear hc
        go_upto_if 36 with fail
        have HSL := hide (askS3 m a g p c d)
        go_cut [3] (fun v wx => AskC (askL m a g p c d 4) (w.heap.size + 1) W0 v wx)
        case first =>
          generalize askL m a g p c d 3 = L at *
          generalize askL m a g p c d 4 = L1 at *
          have HLT := hide (congrArg List.length (unhide HSL))
          cases p
          · rw [askIf_no, List.append_nil] at HSL
            clear HLT
            go_wp2_with fail
            go_meet
            rw [unhide HSL]
            exact ⟨_, _, rfl, unhide HO, unhide HB⟩
          · clear c0 c1 c2 c3 c4 c5
            go_wp2_with (first | (at_builtin; refine append_opt rfl _ _ rfl (w.heap.size + 1) (.slice ad3 L.length cp3) L L.length rfl rfl (unhide HO) 7 (⟨#[]⟩) rfl (by omega) hbs ?_; rintro v6 w6 ho6 hg6; obtain ⟨a6, c6, rfl⟩ := own_form ho6))
            have hb6 : Below (w.heap.size + 1) W0 w6 := ((unhide HB).alloc hbs _).grown hg6 (by simp; omega) (fun q hq => (World.ownsRow.lt (unhide HO) q hq).1)
            go_meet
            have hl1 : L.length + 1 = L1.length := by rw [unhide HLT, askIf_yes, List.length_append]; rfl
            refine ⟨a6, c6, by rw [← hl1], ?_, hb6⟩
            rw [← hl1, unhide HSL, askIf_yes]
            exact ho6
        case rest =>
          obtain ⟨ad4, cp4, hu, ho, hb⟩ := hcut
          subst hu
          clear HO HB hbs c0 c1 c2 c3 c4 c5 hln HSL
          have HO := hide ho
          have HB := hide hb
          clear ho hb
          have hbs := (unhide HB).size
          rw [unhide HS0] at hbs
          have hc := ((unhide HB).block w.heap.size (Nat.lt_succ_self _)).trans (unhide HC0)
          obtain ⟨c0, c1, c2, c3, c4, c5⟩ := row6 hc
          have hln := askL_len m a g p c d 4
          clear hc
          go_upto_if 42 with fail
          have HSL := hide (askS4 m a g p c d)
          go_cut [3] (fun v wx => AskC (askL m a g p c d 5) (w.heap.size + 1) W0 v wx)
          case first =>
            generalize askL m a g p c d 4 = L at *
            generalize askL m a g p c d 5 = L1 at *
            have HLT := hide (congrArg List.length (unhide HSL))
            cases c
            · rw [askIf_no, List.append_nil] at HSL
              clear HLT
              go_wp2_with fail
              go_meet
              rw [unhide HSL]
              exact ⟨_, _, rfl, unhide HO, unhide HB⟩
            · clear c0 c1 c2 c3 c4 c5
              go_wp2_with (first | (at_builtin; refine append_opt rfl _ _ rfl (w.heap.size + 1) (.slice ad4 L.length cp4) L L.length rfl rfl (unhide HO) 8 (⟨#[]⟩) rfl (by omega) hbs ?_; rintro v6 w6 ho6 hg6; obtain ⟨a6, c6, rfl⟩ := own_form ho6))
              have hb6 : Below (w.heap.size + 1) W0 w6 := ((unhide HB).alloc hbs _).grown hg6 (by simp; omega) (fun q hq => (World.ownsRow.lt (unhide HO) q hq).1)
              go_meet
              have hl1 : L.length + 1 = L1.length := by rw [unhide HLT, askIf_yes, List.length_append]; rfl
              refine ⟨a6, c6, by rw [← hl1], ?_, hb6⟩
              rw [← hl1, unhide HSL, askIf_yes]
              exact ho6
          case rest =>
            obtain ⟨ad5, cp5, hu, ho, hb⟩ := hcut
            subst hu
            clear HO HB hbs c0 c1 c2 c3 c4 c5 hln HSL
            have HO := hide ho
            have HB := hide hb
            clear ho hb
            have hbs := (unhide HB).size
            rw [unhide HS0] at hbs
            have hc := ((unhide HB).block w.heap.size (Nat.lt_succ_self _)).trans (unhide HC0)
            obtain ⟨c0, c1, c2, c3, c4, c5⟩ := row6 hc
            have hln := askL_len m a g p c d 5
            clear hc
            go_upto_if 48 with fail
            have HSL := hide (askS5 m a g p c d)
            go_cut [3] (fun v wx => AskC (askL m a g p c d 6) (w.heap.size + 1) W0 v wx)
            case first =>
              generalize askL m a g p c d 5 = L at *
              generalize askL m a g p c d 6 = L1 at *
              have HLT := hide (congrArg List.length (unhide HSL))
              cases d
              · rw [askIf_no, List.append_nil] at HSL
                clear HLT
                go_wp2_with fail
                go_meet
                rw [unhide HSL]
                exact ⟨_, _, rfl, unhide HO, unhide HB⟩
              · clear c0 c1 c2 c3 c4 c5
                go_wp2_with (first | (at_builtin; refine append_opt rfl _ _ rfl (w.heap.size + 1) (.slice ad5 L.length cp5) L L.length rfl rfl (unhide HO) 9 (put1 4) rfl (by omega) hbs ?_; rintro v6 w6 ho6 hg6; obtain ⟨a6, c6, rfl⟩ := own_form ho6))
                have hb6 : Below (w.heap.size + 1) W0 w6 := ((unhide HB).alloc hbs _).grown hg6 (by simp; omega) (fun q hq => (World.ownsRow.lt (unhide HO) q hq).1)
                go_meet
                have hl1 : L.length + 1 = L1.length := by rw [unhide HLT, askIf_yes, List.length_append]; rfl
                refine ⟨a6, c6, by rw [← hl1], ?_, hb6⟩
                rw [← hl1, unhide HSL, askIf_yes]
                exact ho6
            case rest =>
              obtain ⟨ad6, cp6, hu, ho, hb⟩ := hcut
              subst hu
              clear HO HB hbs c0 c1 c2 c3 c4 c5 hln HSL
              have HO := hide ho
              have HB := hide hb
              clear ho hb
              have hB := (unhide HB0).trans ((unhide HB).mono (Nat.le_succ _))
              have ho := own_lower (unhide HO) (Nat.le_succ _)
              clear HO HB HB0 HS0 HC0
              go_wp2_with fail
              go_ret
              exact ⟨_, rfl, _, _, rfl, ho, hB⟩
end Go.Proofs.YtghopihgnmnlcaaGreatDoor
namespace Go.Proofs.YtghopihgnmnlcaaGreatDoor
open Go.RowKit
/-- The first 250 bytes of a text. -/
def first250 (t : ByteArray) : ByteArray := if 250 < t.size then t.extract 0 250 else t
set_option maxHeartbeats 400000 in
theorem specFirst (t : ByteArray) (w : World) (ht : t.size ≤ 100000) : Calls Tryz.prog 127 #[.string t, .int .i64 250] w fun e w' => e = .returned (.string (first250 t)) ∧ w' = w := by
  unfold first250
  by_cases h : 250 < t.size
  · have d : (250 : Int) < (t.size : Int) := by omega
    have d2 : (250 : Int) ≤ (t.size : Int) := by omega
    rw [if_pos h]
    go_enter Tryz.func127, Tryz.ntmps127
    go_wp2
    go_ret
    exact ⟨rfl, rfl⟩
  · have d : ¬ ((250 : Int) < (t.size : Int)) := by omega
    rw [if_neg h]
    go_enter Tryz.func127, Tryz.ntmps127
    go_wp2
    go_ret
    exact ⟨rfl, rfl⟩
set_option maxHeartbeats 400000 in
theorem specMin3 (y : Int) (w : World) : Calls Tryz.prog 126 #[.int .i64 3, .int .i64 y] w fun e w' => e = .returned (.int .i64 (min 3 y)) ∧ w' = w := by
  by_cases h : 3 ≤ y
  · rw [Int.min_eq_left h]
    by_cases h0 : y = 3
    · subst h0
      go_enter Tryz.func126, Tryz.ntmps126
      go_wp2
      go_ret
      exact ⟨rfl, rfl⟩
    · have h1 : 3 < y := by omega
      have h2 : ¬ (y < 3) := by omega
      go_enter Tryz.func126, Tryz.ntmps126
      go_wp2
      go_ret
      exact ⟨rfl, rfl⟩
  · rw [Int.min_eq_right (by omega)]
    have h1 : y < 3 := by omega
    have h2 : ¬ (3 < y) := by omega
    go_enter Tryz.func126, Tryz.ntmps126
    go_wp2
    go_ret
    exact ⟨rfl, rfl⟩
end Go.Proofs.YtghopihgnmnlcaaGreatDoor
namespace Go.Proofs.YtghopihgnmnlcaaGreatDoor
open Go.RowKit
/-- The zero End, and a new one. -/
def enZero : En := ⟨0, 0, 0, false, false, false, 0, 0, 0, false, false, false, 0, 0, 0, 0, 0, false, 0, 0, false, false, false, 0, 0, false, false, false⟩
def enFresh (m a g : Int) (p c d : Bool) : En := ⟨m, a, g, p, c, d, m, a, g, p, c, d, 0, 0, -1, 0, 0, false, 0, 0, false, false, false, 0, 0, false, false, false⟩
/-- What EndNew answers. -/
def enNew (m a g : Int) (p c d : Bool) : En := if cfgOk m a g = true then enFresh m a g p c d else enZero
set_option maxHeartbeats 2000000 in
set_option maxRecDepth 100000 in
theorem specEndNew (m a g : Int) (p c d : Bool) (w : World) : Calls Tryz.prog 67 #[.agg #[.int .i64 m, .int .i64 a, .int .i64 g, .bool p, .bool c, .bool d]] w fun r w' => r = .returned (.agg (enC (enNew m a g p c d) (.slice none 0 0) (.slice none 0 0))) ∧ Below w.heap.size w w' := by
  have C := hide fun v => specCfg m a g p c d v
  obtain ⟨_, hA, hR, hb⟩ := start2r w (.cells #[.int .i64 m, .int .i64 a, .int .i64 g, .bool p, .bool c, .bool d] 24) (.cells #[.int .i64 0, .int .i64 0, .int .i64 0, .bool false, .bool false, .bool false, .int .i64 0, .int .i64 0, .int .i64 0, .bool false, .bool false, .bool false, .int .i64 0, .int .i64 0, .int .i64 0, .int .i64 0, .int .i64 0, .slice none 0 0, .slice none 0 0, .bool false, .int .i64 0, .int .i64 0, .bool false, .bool false, .bool false, .int .i64 0, .int .i64 0, .bool false, .bool false, .bool false] 29)
  have H0 := hide (And.intro hA (And.intro hR hb))
  clear hA hR hb
  unfold enNew
  cases hq : cfgOk m a g
  · rw [if_neg (by decide)]
    rw [hq] at C
    show Calls Tryz.prog 67 #[.agg #[.int .i64 m, .int .i64 a, .int .i64 g, .bool p, .bool c, .bool d]] w fun r w' => r = .returned (.agg #[.int .i64 0, .int .i64 0, .int .i64 0, .bool false, .bool false, .bool false, .int .i64 0, .int .i64 0, .int .i64 0, .bool false, .bool false, .bool false, .int .i64 0, .int .i64 0, .int .i64 0, .int .i64 0, .int .i64 0, .slice none 0 0, .slice none 0 0, .bool false, .int .i64 0, .int .i64 0, .bool false, .bool false, .bool false, .int .i64 0, .int .i64 0, .bool false, .bool false, .bool false]) ∧ Below w.heap.size w w'
    go_enter Tryz.func67, Tryz.ntmps67
    go_wp2_with fail
    refine (unhide C _).mono ?_
    rintro r w1 ⟨rfl, hb1⟩
    obtain ⟨hA, hR, hb⟩ := unhide H0
    have hR1 := (hb1.block (w.heap.size + 1) (by simp)).trans hR
    have hB1 := hb.trans (hb1.mono hb.size)
    have H1 := hide (And.intro hR1 hB1)
    clear hA hR hb hR1 hB1 hb1 H0 C
    go_upto_region 2 with fail
    apply wp_region_lit
    refine wpList_buildTo rfl 29 _ rfl (some 6) rfl #[.int .i64 0, .int .i64 0, .int .i64 0, .bool false, .bool false, .bool false, .int .i64 0, .int .i64 0, .int .i64 0, .bool false, .bool false, .bool false, .int .i64 0, .int .i64 0, .int .i64 0, .int .i64 0, .int .i64 0, .slice none 0 0, .slice none 0 0, .bool false, .int .i64 0, .int .i64 0, .bool false, .bool false, .bool false, .int .i64 0, .int .i64 0, .bool false, .bool false, .bool false] (by as_aux_lemma => kernel_rfl) ?_
    refine wpList_store_rowTo rfl 29 (.tmp 2) (.tmp 6) rfl rfl (w.heap.size + 1) #[.int .i64 0, .int .i64 0, .int .i64 0, .bool false, .bool false, .bool false, .int .i64 0, .int .i64 0, .int .i64 0, .bool false, .bool false, .bool false, .int .i64 0, .int .i64 0, .int .i64 0, .int .i64 0, .int .i64 0, .slice none 0 0, .slice none 0 0, .bool false, .int .i64 0, .int .i64 0, .bool false, .bool false, .bool false, .int .i64 0, .int .i64 0, .bool false, .bool false, .bool false] rfl rfl 29 _ (unhide H1).1 infoE rfl (by kernel_rfl) ?_
    apply wpList_nil
    simp only [Act.put, List.setIfInBounds_toArray, List.set_cons_zero, List.set_cons_succ]
    go_wp2
    exact bodyPost_ret (v := .agg #[.int .i64 0, .int .i64 0, .int .i64 0, .bool false, .bool false, .bool false, .int .i64 0, .int .i64 0, .int .i64 0, .bool false, .bool false, .bool false, .int .i64 0, .int .i64 0, .int .i64 0, .int .i64 0, .int .i64 0, .slice none 0 0, .slice none 0 0, .bool false, .int .i64 0, .int .i64 0, .bool false, .bool false, .bool false, .int .i64 0, .int .i64 0, .bool false, .bool false, .bool false]) (by simp [results, Tryz.results67, asAddr, loadEn (setRow_heap w1 (w.heap.size + 1) _ #[.int .i64 0, .int .i64 0, .int .i64 0, .bool false, .bool false, .bool false, .int .i64 0, .int .i64 0, .int .i64 0, .bool false, .bool false, .bool false, .int .i64 0, .int .i64 0, .int .i64 0, .int .i64 0, .int .i64 0, .slice none 0 0, .slice none 0 0, .bool false, .int .i64 0, .int .i64 0, .bool false, .bool false, .bool false, .int .i64 0, .int .i64 0, .bool false, .bool false, .bool false] _ _ (unhide H1).1)]) rfl ⟨rfl, below_row (unhide H1).2 (by omega) _⟩
  · rw [if_pos rfl]
    rw [hq] at C
    show Calls Tryz.prog 67 #[.agg #[.int .i64 m, .int .i64 a, .int .i64 g, .bool p, .bool c, .bool d]] w fun r w' => r = .returned (.agg #[.int .i64 m, .int .i64 a, .int .i64 g, .bool p, .bool c, .bool d, .int .i64 m, .int .i64 a, .int .i64 g, .bool p, .bool c, .bool d, .int .i64 0, .int .i64 0, .int .i64 (-1), .int .i64 0, .int .i64 0, .slice none 0 0, .slice none 0 0, .bool false, .int .i64 0, .int .i64 0, .bool false, .bool false, .bool false, .int .i64 0, .int .i64 0, .bool false, .bool false, .bool false]) ∧ Below w.heap.size w w'
    go_enter Tryz.func67, Tryz.ntmps67
    go_wp2_with fail
    refine (unhide C _).mono ?_
    rintro r w1 ⟨rfl, hb1⟩
    obtain ⟨hA, hR, hb⟩ := unhide H0
    have hA1 := (hb1.block w.heap.size (by simp; omega)).trans hA
    have hR1 := (hb1.block (w.heap.size + 1) (by simp)).trans hR
    have hB1 := hb.trans (hb1.mono hb.size)
    have H1 := hide (And.intro hA1 (And.intro hR1 hB1))
    clear hA hR hb hA1 hR1 hB1 hb1 H0 C
    go_upto_region 3 with fail
    apply wp_region_lit
    refine wpList_load_row rfl 24 (.tmp 1) rfl w.heap.size rfl 24 #[.int .i64 m, .int .i64 a, .int .i64 g, .bool p, .bool c, .bool d] (0, 0) _ (unhide H1).1 Tryz.underlying24 rfl (by kernel_rfl) ?_
    refine wpList_load_row rfl 24 (.tmp 1) rfl w.heap.size rfl 24 #[.int .i64 m, .int .i64 a, .int .i64 g, .bool p, .bool c, .bool d] (0, 0) _ (unhide H1).1 Tryz.underlying24 rfl (by kernel_rfl) ?_
    refine wpList_buildTo rfl 29 _ rfl (some 9) rfl #[.int .i64 m, .int .i64 a, .int .i64 g, .bool p, .bool c, .bool d, .int .i64 m, .int .i64 a, .int .i64 g, .bool p, .bool c, .bool d, .int .i64 0, .int .i64 0, .int .i64 (-1), .int .i64 0, .int .i64 0, .slice none 0 0, .slice none 0 0, .bool false, .int .i64 0, .int .i64 0, .bool false, .bool false, .bool false, .int .i64 0, .int .i64 0, .bool false, .bool false, .bool false] (by as_aux_lemma => kernel_rfl) ?_
    refine wpList_store_rowTo rfl 29 (.tmp 2) (.tmp 9) rfl rfl (w.heap.size + 1) #[.int .i64 m, .int .i64 a, .int .i64 g, .bool p, .bool c, .bool d, .int .i64 m, .int .i64 a, .int .i64 g, .bool p, .bool c, .bool d, .int .i64 0, .int .i64 0, .int .i64 (-1), .int .i64 0, .int .i64 0, .slice none 0 0, .slice none 0 0, .bool false, .int .i64 0, .int .i64 0, .bool false, .bool false, .bool false, .int .i64 0, .int .i64 0, .bool false, .bool false, .bool false] rfl rfl 29 _ (unhide H1).2.1 infoE rfl (by kernel_rfl) ?_
    apply wpList_nil
    simp only [Act.put, List.setIfInBounds_toArray, List.set_cons_zero, List.set_cons_succ]
    go_wp2
    exact bodyPost_ret (v := .agg #[.int .i64 m, .int .i64 a, .int .i64 g, .bool p, .bool c, .bool d, .int .i64 m, .int .i64 a, .int .i64 g, .bool p, .bool c, .bool d, .int .i64 0, .int .i64 0, .int .i64 (-1), .int .i64 0, .int .i64 0, .slice none 0 0, .slice none 0 0, .bool false, .int .i64 0, .int .i64 0, .bool false, .bool false, .bool false, .int .i64 0, .int .i64 0, .bool false, .bool false, .bool false]) (by simp [results, Tryz.results67, asAddr, loadEn (setRow_heap w1 (w.heap.size + 1) _ #[.int .i64 m, .int .i64 a, .int .i64 g, .bool p, .bool c, .bool d, .int .i64 m, .int .i64 a, .int .i64 g, .bool p, .bool c, .bool d, .int .i64 0, .int .i64 0, .int .i64 (-1), .int .i64 0, .int .i64 0, .slice none 0 0, .slice none 0 0, .bool false, .int .i64 0, .int .i64 0, .bool false, .bool false, .bool false, .int .i64 0, .int .i64 0, .bool false, .bool false, .bool false] _ _ (unhide H1).2.1)]) rfl ⟨rfl, below_row (unhide H1).2.2 (by omega) _⟩
end Go.Proofs.YtghopihgnmnlcaaGreatDoor
