/- The model's Ask; what lay in memory stands, and the answer is a row of its own. -/
import Derived.Test.YtkadbghglmlpkaaAskI
namespace Go.Proofs.Ytkadbghglmlpkaa
open Go.RowKit
/-- A row under way: what is asked for of the first kinds. -/
def AskC (L : List Op.Opt) (base : Nat) (w0 : World) (v : Value) (wx : World) : Prop :=
  ∃ ad cp, v = .slice ad L.length cp ∧ wx.ownsRow base 54 2 (.slice ad L.length cp) L.length (ocells L) ∧ Below base w0 wx
theorem AskC.cfg {L : List Op.Opt} {B : Nat} {w0 : World} {v : Value} {wx : World} {cs : Array Value} {T : TypeId} (h : AskC L (B + 1) w0 v wx) (hc : w0.heap[B]? = some (.cells cs T)) : wx.heap[B]? = some (.cells cs T) := by
  obtain ⟨_, _, _, _, hb⟩ := h
  exact (hb.block B (Nat.lt_succ_self _)).trans hc
theorem askS0 (m a g : Nat) (p c d : Bool) : askL m a g p c d 1 = askL m a g p c d 0 ++ askIf ((m : Int) != 300) 1 (put2 m) := by simp [askL, askP]
theorem askS1 (m a g : Nat) (p c d : Bool) : askL m a g p c d 2 = askL m a g p c d 1 ++ askIf ((a : Int) != 4294967295) 2 (put4 a) := by simp [askL, askP]
theorem askS2 (m a g : Nat) (p c d : Bool) : askL m a g p c d 3 = askL m a g p c d 2 ++ askIf ((g : Int) != 0) 5 (put4 g) := by simp [askL, askP]
theorem askS3 (m a g : Nat) (p c d : Bool) : askL m a g p c d 4 = askL m a g p c d 3 ++ askIf (p) 7 (⟨#[]⟩) := by simp [askL, askP]
theorem askS4 (m a g : Nat) (p c d : Bool) : askL m a g p c d 5 = askL m a g p c d 4 ++ askIf (c) 8 (⟨#[]⟩) := by simp [askL, askP]
theorem askS5 (m a g : Nat) (p c d : Bool) : askL m a g p c d 6 = askL m a g p c d 5 ++ askIf (d) 9 (put1 4) := by simp [askL, askP]
set_option maxHeartbeats 8000000 in
theorem specL05 (m a g : Nat) (p c d : Bool) (w : World) :
    Calls Try.prog 19 #[cfgV m a g p c d] w fun e w' => ∃ v, e = .returned v ∧ AskC (askL m a g p c d 6) w.heap.size w v w' := by
  have HC0 : Hid ((w.alloc (.cells #[.int .i64 m, .int .i64 a, .int .i64 g, .bool p, .bool c, .bool d] 26)).heap[w.heap.size]? = some (.cells #[.int .i64 m, .int .i64 a, .int .i64 g, .bool p, .bool c, .bool d] 26)) := hide (heap_alloc_last w _)
  have hB0 : Below w.heap.size w (w.alloc (.cells #[.int .i64 m, .int .i64 a, .int .i64 g, .bool p, .bool c, .bool d] 26)) := (Below.refl _ _).alloc (Nat.le_refl _) _
  have HB0 := hide hB0
  have hs0 : (w.alloc (.cells #[.int .i64 m, .int .i64 a, .int .i64 g, .bool p, .bool c, .bool d] 26)).heap.size = w.heap.size + 1 := by simp
  have HS0 := hide hs0
  clear hB0 hs0
  go_enter Try.func19, Try.ntmps19
  go_upto_region 2 with fail
  have hA0 : AskC (askL m a g p c d 0) (w.heap.size + 1) (w.alloc (.cells #[.int .i64 m, .int .i64 a, .int .i64 g, .bool p, .bool c, .bool d] 26)) (.slice (some ⟨w.heap.size + 1, 0, none⟩) 0 0) ((w.alloc (.cells #[.int .i64 m, .int .i64 a, .int .i64 g, .bool p, .bool c, .bool d] 26)).alloc (.cells #[] 54)) := by
    refine ⟨_, _, rfl, ?_, (Below.refl _ _).alloc (by rw [unhide HS0]; exact Nat.le_refl _) _⟩
    have := World.ownsRow_lit (w.alloc (.cells #[.int .i64 m, .int .i64 a, .int .i64 g, .bool p, .bool c, .bool d] 26)) (base := w.heap.size + 1) (e := 54) (size := 2) #[] 0 (by rw [unhide HS0]; exact Nat.le_refl _) (Nat.zero_le _) rfl
    rw [unhide HS0] at this
    exact this
  refine gen_world (fun q => AskC (askL m a g p c d 0) (w.heap.size + 1) (w.alloc (.cells #[.int .i64 m, .int .i64 a, .int .i64 g, .bool p, .bool c, .bool d] 26)) (.slice (some ⟨w.heap.size + 1, 0, none⟩) 0 0) q) hA0 ?_
  clear hA0
  rintro q0 hA
  generalize (w.alloc (.cells #[.int .i64 m, .int .i64 a, .int .i64 g, .bool p, .bool c, .bool d] 26)) = W0 at *
  obtain ⟨ad0, cp0, hv0, ho, hb⟩ := hA
  have HO := hide ho
  have HB := hide hb
  rw [hv0]
  clear ho hb hv0
  have hbs := (unhide HB).size
  rw [unhide HS0] at hbs
  have hc := ((unhide HB).block w.heap.size (Nat.lt_succ_self _)).trans (unhide HC0)
  obtain ⟨c0, c1, c2, c3, c4, c5⟩ := row6 hc
  have hln := askL_len m a g p c d 0
  clear hc
  go_upto_if 7 with fail
  have HSL := hide (askS0 m a g p c d)
  generalize ((m : Int) != 300) = b at *
  go_cut [3] (fun v wx => AskC (askL m a g p c d 1) (w.heap.size + 1) W0 v wx)
  case first =>
    generalize askL m a g p c d 0 = L at *
    generalize askL m a g p c d 1 = L1 at *
    have HLT := hide (congrArg List.length (unhide HSL))
    cases b
    · rw [askIf_no, List.append_nil] at HSL
      clear HLT
      go_wp2_with fail
      go_meet
      rw [unhide HSL]
      exact ⟨_, _, rfl, unhide HO, unhide HB⟩
    · go_wp2_with fail
      refine (sput2 m _).mono ?_
      rintro e w4 ⟨rfl, hb4⟩
      have HO4 := hide (own_same (unhide HO) fun q _ hq => hb4.block q hq)
      have HB4 := hide ((unhide HB).trans (hb4.mono hbs))
      have hbs4 := Nat.le_trans hbs hb4.size
      clear hb4 HO HB c0 c1 c2 c3 c4 c5
      go_wp2_with (first | (at_builtin; refine append_opt rfl _ _ rfl (w.heap.size + 1) (.slice ad0 L.length cp0) L L.length rfl rfl (unhide HO4) 1 (put2 m) rfl (by omega) hbs4 ?_; rintro v6 w6 ho6 hg6; obtain ⟨a6, c6, rfl⟩ := own_form ho6))
      have hb6 : Below (w.heap.size + 1) W0 w6 := ((unhide HB4).alloc hbs4 _).grown hg6 (by simp; omega) (fun q hq => (World.ownsRow.lt (unhide HO4) q hq).1)
      go_meet
      have hl1 : L.length + 1 = L1.length := by rw [unhide HLT, askIf_yes, List.length_append]; rfl
      refine ⟨a6, c6, by rw [← hl1], ?_, hb6⟩
      rw [← hl1, unhide HSL, askIf_yes]
      exact ho6
  case rest =>
    obtain ⟨ad1, cp1, hu, ho, hb⟩ := hcut
    subst hu
    clear HO HB hbs c0 c1 c2 c3 c4 c5 hln HSL
    have HO := hide ho
    have HB := hide hb
    clear ho hb
    have hbs := (unhide HB).size
    rw [unhide HS0] at hbs
    have hc := ((unhide HB).block w.heap.size (Nat.lt_succ_self _)).trans (unhide HC0)
    obtain ⟨c0, c1, c2, c3, c4, c5⟩ := row6 hc
    have hln := askL_len m a g p c d 1
    clear hc
    go_upto_if 17 with fail
    have HSL := hide (askS1 m a g p c d)
    generalize ((a : Int) != 4294967295) = b at *
    go_cut [3] (fun v wx => AskC (askL m a g p c d 2) (w.heap.size + 1) W0 v wx)
    case first =>
      generalize askL m a g p c d 1 = L at *
      generalize askL m a g p c d 2 = L1 at *
      have HLT := hide (congrArg List.length (unhide HSL))
      cases b
      · rw [askIf_no, List.append_nil] at HSL
        clear HLT
        go_wp2_with fail
        go_meet
        rw [unhide HSL]
        exact ⟨_, _, rfl, unhide HO, unhide HB⟩
      · go_wp2_with fail
        refine (sput4 a _).mono ?_
        rintro e w4 ⟨rfl, hb4⟩
        have HO4 := hide (own_same (unhide HO) fun q _ hq => hb4.block q hq)
        have HB4 := hide ((unhide HB).trans (hb4.mono hbs))
        have hbs4 := Nat.le_trans hbs hb4.size
        clear hb4 HO HB c0 c1 c2 c3 c4 c5
        go_wp2_with (first | (at_builtin; refine append_opt rfl _ _ rfl (w.heap.size + 1) (.slice ad1 L.length cp1) L L.length rfl rfl (unhide HO4) 2 (put4 a) rfl (by omega) hbs4 ?_; rintro v6 w6 ho6 hg6; obtain ⟨a6, c6, rfl⟩ := own_form ho6))
        have hb6 : Below (w.heap.size + 1) W0 w6 := ((unhide HB4).alloc hbs4 _).grown hg6 (by simp; omega) (fun q hq => (World.ownsRow.lt (unhide HO4) q hq).1)
        go_meet
        have hl1 : L.length + 1 = L1.length := by rw [unhide HLT, askIf_yes, List.length_append]; rfl
        refine ⟨a6, c6, by rw [← hl1], ?_, hb6⟩
        rw [← hl1, unhide HSL, askIf_yes]
        exact ho6
    case rest =>
      obtain ⟨ad2, cp2, hu, ho, hb⟩ := hcut
      subst hu
      clear HO HB hbs c0 c1 c2 c3 c4 c5 hln HSL
      have HO := hide ho
      have HB := hide hb
      clear ho hb
      have hbs := (unhide HB).size
      rw [unhide HS0] at hbs
      have hc := ((unhide HB).block w.heap.size (Nat.lt_succ_self _)).trans (unhide HC0)
      obtain ⟨c0, c1, c2, c3, c4, c5⟩ := row6 hc
      have hln := askL_len m a g p c d 2
      clear hc
      go_upto_if 27 with fail
      have HSL := hide (askS2 m a g p c d)
      generalize ((g : Int) != 0) = b at *
      go_cut [3] (fun v wx => AskC (askL m a g p c d 3) (w.heap.size + 1) W0 v wx)
      case first =>
        generalize askL m a g p c d 2 = L at *
        generalize askL m a g p c d 3 = L1 at *
        have HLT := hide (congrArg List.length (unhide HSL))
        cases b
        · rw [askIf_no, List.append_nil] at HSL
          clear HLT
          go_wp2_with fail
          go_meet
          rw [unhide HSL]
          exact ⟨_, _, rfl, unhide HO, unhide HB⟩
        · go_wp2_with fail
          refine (sput4 g _).mono ?_
          rintro e w4 ⟨rfl, hb4⟩
          have HO4 := hide (own_same (unhide HO) fun q _ hq => hb4.block q hq)
          have HB4 := hide ((unhide HB).trans (hb4.mono hbs))
          have hbs4 := Nat.le_trans hbs hb4.size
          clear hb4 HO HB c0 c1 c2 c3 c4 c5
          go_wp2_with (first | (at_builtin; refine append_opt rfl _ _ rfl (w.heap.size + 1) (.slice ad2 L.length cp2) L L.length rfl rfl (unhide HO4) 5 (put4 g) rfl (by omega) hbs4 ?_; rintro v6 w6 ho6 hg6; obtain ⟨a6, c6, rfl⟩ := own_form ho6))
          have hb6 : Below (w.heap.size + 1) W0 w6 := ((unhide HB4).alloc hbs4 _).grown hg6 (by simp; omega) (fun q hq => (World.ownsRow.lt (unhide HO4) q hq).1)
          go_meet
          have hl1 : L.length + 1 = L1.length := by rw [unhide HLT, askIf_yes, List.length_append]; rfl
          refine ⟨a6, c6, by rw [← hl1], ?_, hb6⟩
          rw [← hl1, unhide HSL, askIf_yes]
          exact ho6
      case rest =>
        obtain ⟨ad3, cp3, hu, ho, hb⟩ := hcut
        subst hu
        clear HO HB hbs c0 c1 c2 c3 c4 c5 hln HSL
        have HO := hide ho
        have HB := hide hb
        clear ho hb
        have hbs := (unhide HB).size
        rw [unhide HS0] at hbs
        have hc := ((unhide HB).block w.heap.size (Nat.lt_succ_self _)).trans (unhide HC0)
        obtain ⟨c0, c1, c2, c3, c4, c5⟩ := row6 hc
        have hln := askL_len m a g p c d 3
        clear hc
        go_upto_if 36 with fail
        have HSL := hide (askS3 m a g p c d)
        go_cut [3] (fun v wx => AskC (askL m a g p c d 4) (w.heap.size + 1) W0 v wx)
        case first =>
          generalize askL m a g p c d 3 = L at *
          generalize askL m a g p c d 4 = L1 at *
          have HLT := hide (congrArg List.length (unhide HSL))
          cases p
          · rw [askIf_no, List.append_nil] at HSL
            clear HLT
            go_wp2_with fail
            go_meet
            rw [unhide HSL]
            exact ⟨_, _, rfl, unhide HO, unhide HB⟩
          · clear c0 c1 c2 c3 c4 c5
            go_wp2_with (first | (at_builtin; refine append_opt rfl _ _ rfl (w.heap.size + 1) (.slice ad3 L.length cp3) L L.length rfl rfl (unhide HO) 7 (⟨#[]⟩) rfl (by omega) hbs ?_; rintro v6 w6 ho6 hg6; obtain ⟨a6, c6, rfl⟩ := own_form ho6))
            have hb6 : Below (w.heap.size + 1) W0 w6 := ((unhide HB).alloc hbs _).grown hg6 (by simp; omega) (fun q hq => (World.ownsRow.lt (unhide HO) q hq).1)
            go_meet
            have hl1 : L.length + 1 = L1.length := by rw [unhide HLT, askIf_yes, List.length_append]; rfl
            refine ⟨a6, c6, by rw [← hl1], ?_, hb6⟩
            rw [← hl1, unhide HSL, askIf_yes]
            exact ho6
        case rest =>
          obtain ⟨ad4, cp4, hu, ho, hb⟩ := hcut
          subst hu
          clear HO HB hbs c0 c1 c2 c3 c4 c5 hln HSL
          have HO := hide ho
          have HB := hide hb
          clear ho hb
          have hbs := (unhide HB).size
          rw [unhide HS0] at hbs
          have hc := ((unhide HB).block w.heap.size (Nat.lt_succ_self _)).trans (unhide HC0)
          obtain ⟨c0, c1, c2, c3, c4, c5⟩ := row6 hc
          have hln := askL_len m a g p c d 4
          clear hc
          go_upto_if 42 with fail
          have HSL := hide (askS4 m a g p c d)
          go_cut [3] (fun v wx => AskC (askL m a g p c d 5) (w.heap.size + 1) W0 v wx)
          case first =>
            generalize askL m a g p c d 4 = L at *
            generalize askL m a g p c d 5 = L1 at *
            have HLT := hide (congrArg List.length (unhide HSL))
            cases c
            · rw [askIf_no, List.append_nil] at HSL
              clear HLT
              go_wp2_with fail
              go_meet
              rw [unhide HSL]
              exact ⟨_, _, rfl, unhide HO, unhide HB⟩
            · clear c0 c1 c2 c3 c4 c5
              go_wp2_with (first | (at_builtin; refine append_opt rfl _ _ rfl (w.heap.size + 1) (.slice ad4 L.length cp4) L L.length rfl rfl (unhide HO) 8 (⟨#[]⟩) rfl (by omega) hbs ?_; rintro v6 w6 ho6 hg6; obtain ⟨a6, c6, rfl⟩ := own_form ho6))
              have hb6 : Below (w.heap.size + 1) W0 w6 := ((unhide HB).alloc hbs _).grown hg6 (by simp; omega) (fun q hq => (World.ownsRow.lt (unhide HO) q hq).1)
              go_meet
              have hl1 : L.length + 1 = L1.length := by rw [unhide HLT, askIf_yes, List.length_append]; rfl
              refine ⟨a6, c6, by rw [← hl1], ?_, hb6⟩
              rw [← hl1, unhide HSL, askIf_yes]
              exact ho6
          case rest =>
            obtain ⟨ad5, cp5, hu, ho, hb⟩ := hcut
            subst hu
            clear HO HB hbs c0 c1 c2 c3 c4 c5 hln HSL
            have HO := hide ho
            have HB := hide hb
            clear ho hb
            have hbs := (unhide HB).size
            rw [unhide HS0] at hbs
            have hc := ((unhide HB).block w.heap.size (Nat.lt_succ_self _)).trans (unhide HC0)
            obtain ⟨c0, c1, c2, c3, c4, c5⟩ := row6 hc
            have hln := askL_len m a g p c d 5
            clear hc
            go_upto_if 48 with fail
            have HSL := hide (askS5 m a g p c d)
            go_cut [3] (fun v wx => AskC (askL m a g p c d 6) (w.heap.size + 1) W0 v wx)
            case first =>
              generalize askL m a g p c d 5 = L at *
              generalize askL m a g p c d 6 = L1 at *
              have HLT := hide (congrArg List.length (unhide HSL))
              cases d
              · rw [askIf_no, List.append_nil] at HSL
                clear HLT
                go_wp2_with fail
                go_meet
                rw [unhide HSL]
                exact ⟨_, _, rfl, unhide HO, unhide HB⟩
              · clear c0 c1 c2 c3 c4 c5
                go_wp2_with (first | (at_builtin; refine append_opt rfl _ _ rfl (w.heap.size + 1) (.slice ad5 L.length cp5) L L.length rfl rfl (unhide HO) 9 (put1 4) rfl (by omega) hbs ?_; rintro v6 w6 ho6 hg6; obtain ⟨a6, c6, rfl⟩ := own_form ho6))
                have hb6 : Below (w.heap.size + 1) W0 w6 := ((unhide HB).alloc hbs _).grown hg6 (by simp; omega) (fun q hq => (World.ownsRow.lt (unhide HO) q hq).1)
                go_meet
                have hl1 : L.length + 1 = L1.length := by rw [unhide HLT, askIf_yes, List.length_append]; rfl
                refine ⟨a6, c6, by rw [← hl1], ?_, hb6⟩
                rw [← hl1, unhide HSL, askIf_yes]
                exact ho6
            case rest =>
              obtain ⟨ad6, cp6, hu, ho, hb⟩ := hcut
              subst hu
              clear HO HB hbs c0 c1 c2 c3 c4 c5 hln HSL
              have HO := hide ho
              have HB := hide hb
              clear ho hb
              have hB := (unhide HB0).trans ((unhide HB).mono (Nat.le_succ _))
              have ho := own_lower (unhide HO) (Nat.le_succ _)
              clear HO HB HB0 HS0 HC0
              go_wp2_with fail
              go_ret
              exact ⟨_, rfl, _, _, rfl, ho, hB⟩
set_option maxHeartbeats 2000000 in
theorem specAskNo (m a g : Int) (p c d : Bool) (w : World) (h : cfgOk m a g = false) : Calls Try.prog 5 #[cfgV m a g p c d] w fun e w' => ∃ v, e = .returned v ∧ AskC [] w.heap.size w v w' := by
  have C := hide fun v => specCfg m a g p c d v
  rw [h] at C
  go_enter Try.func5, Try.ntmps5
  go_wp2_with fail
  refine (unhide C _).mono ?_
  rintro e w1 ⟨rfl, hb1⟩
  have hb : Below w.heap.size w w1 := ((Below.refl _ _).alloc (Nat.le_refl _) _).trans (hb1.mono (by simp))
  go_wp2
  go_ret
  exact ⟨_, rfl, _, _, rfl, World.ownsRow_lit w1 #[] 0 hb.size (Nat.zero_le _) rfl, hb.alloc hb.size _⟩
set_option maxHeartbeats 2000000 in
theorem specAskYes (m a g : Nat) (p c d : Bool) (w : World) (h : cfgOk m a g = true) : Calls Try.prog 5 #[cfgV m a g p c d] w fun e w' => ∃ v, e = .returned v ∧ AskC (askL m a g p c d 6) w.heap.size w v w' := by
  have C := hide fun v => specCfg m a g p c d v
  have C2 := hide fun v => specL05 m a g p c d v
  rw [h] at C
  go_enter Try.func5, Try.ntmps5
  go_wp2_with fail
  refine (unhide C _).mono ?_
  rintro e w1 ⟨rfl, hb1⟩
  have hr := (hb1.block w.heap.size (by simp)).trans (heap_alloc_last w (.cells #[.int .i64 m, .int .i64 a, .int .i64 g, .bool p, .bool c, .bool d] 26))
  have hb : Below w.heap.size w w1 := ((Below.refl _ _).alloc (Nat.le_refl _) _).trans (hb1.mono (by simp))
  obtain ⟨c0, c1, c2, c3, c4, c5⟩ := row6 hr
  have HB := hide hb
  clear hb1 hb hr C
  go_wp2_with fail
  refine (unhide C2 _).mono ?_
  rintro e w2 ⟨v, rfl, ad, cp, rfl, ho, hb2⟩
  have hB := (unhide HB).trans (hb2.mono (unhide HB).size)
  have ho2 := own_lower ho (unhide HB).size
  clear c0 c1 c2 c3 c4 c5 C2 HB
  go_wp2
  go_ret
  exact ⟨_, rfl, ad, cp, rfl, ho2, hB⟩
end Go.Proofs.Ytkadbghglmlpkaa
