/- The model's l05Ask; what lay in memory stands, and the answer is a row of its own. Small things of the model's end at work: the first bytes of a text, the lesser of two numbers; memory stands as it was. The model's EndNew; what lay in memory stands. What the actions do to an end, and what stays right; plain mathematics. -/
import Derived.Test.YtahpjlbaagkdoaaGreatDoorS13
import Derived.Test.YtahpjlbaagkdoaaGreatDoorShW
import Derived.Test.YtahpjlbaagkdoaaGreatDoorS15
import Derived.Great.Walk
import Derived.Test.YtahpjlbaagkdoaaGreatDoorS11
import Derived.Test.YtahpjlbaagkdoaaGreatDoorS09
import Derived.Test.YtahpjlbaagkdoaaGreatDoorS01
namespace Go.Proofs.YtahpjlbaagkdoaaGreatDoor
open Go.RowKit
def AskC (L : List Op.Opt) (base : Nat) (w0 : World) (v : Value) (wx : World) : Prop :=
 ∃ ad cp, v = .slice ad L.length cp ∧ wx.ownsRow base 116 2 (.slice ad L.length cp) L.length (ocells L) ∧ Below base w0 wx
theorem askS0 (m a g : Nat) (p c d : Bool) : askL m a g p c d 1 = askL m a g p c d 0 ++ askIf ((m : Int) != 300) 1 (put2 m) := by simp [askL, askP]
theorem askS1 (m a g : Nat) (p c d : Bool) : askL m a g p c d 2 = askL m a g p c d 1 ++ askIf ((a : Int) != 4294967295) 2 (put4 a) := by simp [askL, askP]
theorem askS2 (m a g : Nat) (p c d : Bool) : askL m a g p c d 3 = askL m a g p c d 2 ++ askIf ((g : Int) != 0) 5 (put4 g) := by simp [askL, askP]
theorem askS3 (m a g : Nat) (p c d : Bool) : askL m a g p c d 4 = askL m a g p c d 3 ++ askIf (p) 7 (⟨#[]⟩) := by simp [askL, askP]
theorem askS4 (m a g : Nat) (p c d : Bool) : askL m a g p c d 5 = askL m a g p c d 4 ++ askIf (c) 8 (⟨#[]⟩) := by simp [askL, askP]
theorem askS5 (m a g : Nat) (p c d : Bool) : askL m a g p c d 6 = askL m a g p c d 5 ++ askIf (d) 9 (put1 4) := by simp [askL, askP]
set_option maxHeartbeats 8000000 in
theorem specL05 (m a g : Nat) (p c d : Bool) (w : World) :
  Calls Tryz.prog 120 #[cfgV m a g p c d] w fun e w' => ∃ v, e = .returned v ∧ AskC (askL m a g p c d 6) w.heap.size w v w' := by
 have HC0 : Hid ((w.alloc (.cells #[.int .i64 m, .int .i64 a, .int .i64 g, .bool p, .bool c, .bool d] 24)).heap[w.heap.size]? = some (.cells #[.int .i64 m, .int .i64 a, .int .i64 g, .bool p, .bool c, .bool d] 24)) := hide (heap_alloc_last w _)
 have hB0 : Below w.heap.size w (w.alloc (.cells #[.int .i64 m, .int .i64 a, .int .i64 g, .bool p, .bool c, .bool d] 24)) := (Below.refl _ _).alloc (Nat.le_refl _) _
 have HB0 := hide hB0
 have hs0 : (w.alloc (.cells #[.int .i64 m, .int .i64 a, .int .i64 g, .bool p, .bool c, .bool d] 24)).heap.size = w.heap.size + 1 := by simp
 have HS0 := hide hs0
 clear hB0 hs0
 go_enter Tryz.func120, Tryz.ntmps120
 go_upto_region 2 with fail
 have hA0 : AskC (askL m a g p c d 0) (w.heap.size + 1) (w.alloc (.cells #[.int .i64 m, .int .i64 a, .int .i64 g, .bool p, .bool c, .bool d] 24)) (.slice (some ⟨w.heap.size + 1, 0, none⟩) 0 0) ((w.alloc (.cells #[.int .i64 m, .int .i64 a, .int .i64 g, .bool p, .bool c, .bool d] 24)).alloc (.cells #[] 116)) := by
  refine ⟨_, _, rfl, ?_, (Below.refl _ _).alloc (by rw [unhide HS0]; exact Nat.le_refl _) _⟩
  have := World.ownsRow_lit (w.alloc (.cells #[.int .i64 m, .int .i64 a, .int .i64 g, .bool p, .bool c, .bool d] 24)) (base := w.heap.size + 1) (e := 116) (size := 2) #[] 0 (by rw [unhide HS0]; exact Nat.le_refl _) (Nat.zero_le _) rfl
  rw [unhide HS0] at this
  exact this
 refine gen_world (fun q => AskC (askL m a g p c d 0) (w.heap.size + 1) (w.alloc (.cells #[.int .i64 m, .int .i64 a, .int .i64 g, .bool p, .bool c, .bool d] 24)) (.slice (some ⟨w.heap.size + 1, 0, none⟩) 0 0) q) hA0 ?_
 clear hA0
 rintro q0 hA
 generalize (w.alloc (.cells #[.int .i64 m, .int .i64 a, .int .i64 g, .bool p, .bool c, .bool d] 24)) = W0 at *
 obtain ⟨ad0, cp0, hv0, ho, hb⟩ := hA
 have HO := hide ho
 have HB := hide hb
 rw [hv0]
 clear ho hb hv0
 have hbs := (unhide HB).size
 rw [unhide HS0] at hbs
 have hc := ((unhide HB).block w.heap.size (Nat.lt_succ_self _)).trans (unhide HC0)
 obtain ⟨c0, c1, c2, c3, c4, c5⟩ := row6 hc
 have hln := askL_len m a g p c d 0
 clear hc
 go_upto_if 7 with fail
 have HSL := hide (askS0 m a g p c d)
 generalize ((m : Int) != 300) = b at *
 go_cut [3] (fun v wx => AskC (askL m a g p c d 1) (w.heap.size + 1) W0 v wx)
 case first =>
  generalize askL m a g p c d 0 = L at *
  generalize askL m a g p c d 1 = L1 at *
  have HLT := hide (congrArg List.length (unhide HSL))
  cases b
  ·rw [askIf_no, List.append_nil] at HSL
   clear HLT
   go_wp2_with fail
   go_meet
   rw [unhide HSL]
   exact ⟨_, _, rfl, unhide HO, unhide HB⟩
  ·go_wp2_with fail
   refine (sput2 m _).mono ?_
   rintro e w4 ⟨rfl, hb4⟩
   have HO4 := hide (own_same (unhide HO) fun q _ hq => hb4.block q hq)
   have HB4 := hide ((unhide HB).trans (hb4.mono hbs))
   have hbs4 := Nat.le_trans hbs hb4.size
   clear hb4 HO HB c0 c1 c2 c3 c4 c5
   go_wp2_with (first | (at_builtin; refine append_opt rfl _ _ rfl (w.heap.size + 1) (.slice ad0 L.length cp0) L L.length rfl rfl (unhide HO4) 1 (put2 m) rfl (by omega) hbs4 ?_; rintro v6 w6 ho6 hg6; obtain ⟨a6, c6, rfl⟩ := own_form ho6))
   have hb6 : Below (w.heap.size + 1) W0 w6 := ((unhide HB4).alloc hbs4 _).grown hg6 (by simp; omega) (fun q hq => (World.ownsRow.lt (unhide HO4) q hq).1)
   go_meet
   have hl1 : L.length + 1 = L1.length := by rw [unhide HLT, askIf_yes, List.length_append]; rfl
   refine ⟨a6, c6, by rw [← hl1], ?_, hb6⟩
   rw [← hl1, unhide HSL, askIf_yes]
   exact ho6
 case rest =>
  obtain ⟨ad1, cp1, hu, ho, hb⟩ := hcut
  subst hu
  clear HO HB hbs c0 c1 c2 c3 c4 c5 hln HSL
  have HO := hide ho
  have HB := hide hb
  clear ho hb
  have hbs := (unhide HB).size
  rw [unhide HS0] at hbs
  have hc := ((unhide HB).block w.heap.size (Nat.lt_succ_self _)).trans (unhide HC0)
  obtain ⟨c0, c1, c2, c3, c4, c5⟩ := row6 hc
  have hln := askL_len m a g p c d 1
  clear hc
  go_upto_if 17 with fail
  have HSL := hide (askS1 m a g p c d)
  generalize ((a : Int) != 4294967295) = b at *
  go_cut [3] (fun v wx => AskC (askL m a g p c d 2) (w.heap.size + 1) W0 v wx)
  case first =>
   generalize askL m a g p c d 1 = L at *
   generalize askL m a g p c d 2 = L1 at *
   have HLT := hide (congrArg List.length (unhide HSL))
   cases b
   ·rw [askIf_no, List.append_nil] at HSL
    clear HLT
    go_wp2_with fail
    go_meet
    rw [unhide HSL]
    exact ⟨_, _, rfl, unhide HO, unhide HB⟩
   ·go_wp2_with fail
    refine (sput4 a _).mono ?_
    rintro e w4 ⟨rfl, hb4⟩
    have HO4 := hide (own_same (unhide HO) fun q _ hq => hb4.block q hq)
    have HB4 := hide ((unhide HB).trans (hb4.mono hbs))
    have hbs4 := Nat.le_trans hbs hb4.size
    clear hb4 HO HB c0 c1 c2 c3 c4 c5
    go_wp2_with (first | (at_builtin; refine append_opt rfl _ _ rfl (w.heap.size + 1) (.slice ad1 L.length cp1) L L.length rfl rfl (unhide HO4) 2 (put4 a) rfl (by omega) hbs4 ?_; rintro v6 w6 ho6 hg6; obtain ⟨a6, c6, rfl⟩ := own_form ho6))
    have hb6 : Below (w.heap.size + 1) W0 w6 := ((unhide HB4).alloc hbs4 _).grown hg6 (by simp; omega) (fun q hq => (World.ownsRow.lt (unhide HO4) q hq).1)
    go_meet
    have hl1 : L.length + 1 = L1.length := by rw [unhide HLT, askIf_yes, List.length_append]; rfl
    refine ⟨a6, c6, by rw [← hl1], ?_, hb6⟩
    rw [← hl1, unhide HSL, askIf_yes]
    exact ho6
  case rest =>
   obtain ⟨ad2, cp2, hu, ho, hb⟩ := hcut
   subst hu
   clear HO HB hbs c0 c1 c2 c3 c4 c5 hln HSL
   have HO := hide ho
   have HB := hide hb
   clear ho hb
   have hbs := (unhide HB).size
   rw [unhide HS0] at hbs
   have hc := ((unhide HB).block w.heap.size (Nat.lt_succ_self _)).trans (unhide HC0)
   obtain ⟨c0, c1, c2, c3, c4, c5⟩ := row6 hc
   have hln := askL_len m a g p c d 2
   clear hc
   go_upto_if 27 with fail
   have HSL := hide (askS2 m a g p c d)
   generalize ((g : Int) != 0) = b at *
   go_cut [3] (fun v wx => AskC (askL m a g p c d 3) (w.heap.size + 1) W0 v wx)
   case first =>
    generalize askL m a g p c d 2 = L at *
    generalize askL m a g p c d 3 = L1 at *
    have HLT := hide (congrArg List.length (unhide HSL))
    cases b
    ·rw [askIf_no, List.append_nil] at HSL
     clear HLT
     go_wp2_with fail
     go_meet
     rw [unhide HSL]
     exact ⟨_, _, rfl, unhide HO, unhide HB⟩
    ·go_wp2_with fail
     refine (sput4 g _).mono ?_
     rintro e w4 ⟨rfl, hb4⟩
     have HO4 := hide (own_same (unhide HO) fun q _ hq => hb4.block q hq)
     have HB4 := hide ((unhide HB).trans (hb4.mono hbs))
     have hbs4 := Nat.le_trans hbs hb4.size
     clear hb4 HO HB c0 c1 c2 c3 c4 c5
     go_wp2_with (first | (at_builtin; refine append_opt rfl _ _ rfl (w.heap.size + 1) (.slice ad2 L.length cp2) L L.length rfl rfl (unhide HO4) 5 (put4 g) rfl (by omega) hbs4 ?_; rintro v6 w6 ho6 hg6; obtain ⟨a6, c6, rfl⟩ := own_form ho6))
     have hb6 : Below (w.heap.size + 1) W0 w6 := ((unhide HB4).alloc hbs4 _).grown hg6 (by simp; omega) (fun q hq => (World.ownsRow.lt (unhide HO4) q hq).1)
     go_meet
     have hl1 : L.length + 1 = L1.length := by rw [unhide HLT, askIf_yes, List.length_append]; rfl
     refine ⟨a6, c6, by rw [← hl1], ?_, hb6⟩
     rw [← hl1, unhide HSL, askIf_yes]
     exact ho6
   case rest =>
    obtain ⟨ad3, cp3, hu, ho, hb⟩ := hcut
    subst hu
    clear HO HB hbs c0 c1 c2 c3 c4 c5 hln HSL
    have HO := hide ho
    have HB := hide hb
    clear ho hb
    have hbs := (unhide HB).size
    rw [unhide HS0] at hbs
    have hc := ((unhide HB).block w.heap.size (Nat.lt_succ_self _)).trans (unhide HC0)
    obtain ⟨c0, c1, c2, c3, c4, c5⟩ := row6 hc
    have hln := askL_len m a g p c d 3
    clear hc
    go_upto_if 36 with fail
    have HSL := hide (askS3 m a g p c d)
    go_cut [3] (fun v wx => AskC (askL m a g p c d 4) (w.heap.size + 1) W0 v wx)
    case first =>
     generalize askL m a g p c d 3 = L at *
     generalize askL m a g p c d 4 = L1 at *
     have HLT := hide (congrArg List.length (unhide HSL))
     cases p
     ·rw [askIf_no, List.append_nil] at HSL
      clear HLT
      go_wp2_with fail
      go_meet
      rw [unhide HSL]
      exact ⟨_, _, rfl, unhide HO, unhide HB⟩
     ·clear c0 c1 c2 c3 c4 c5
      go_wp2_with (first | (at_builtin; refine append_opt rfl _ _ rfl (w.heap.size + 1) (.slice ad3 L.length cp3) L L.length rfl rfl (unhide HO) 7 (⟨#[]⟩) rfl (by omega) hbs ?_; rintro v6 w6 ho6 hg6; obtain ⟨a6, c6, rfl⟩ := own_form ho6))
      have hb6 : Below (w.heap.size + 1) W0 w6 := ((unhide HB).alloc hbs _).grown hg6 (by simp; omega) (fun q hq => (World.ownsRow.lt (unhide HO) q hq).1)
      go_meet
      have hl1 : L.length + 1 = L1.length := by rw [unhide HLT, askIf_yes, List.length_append]; rfl
      refine ⟨a6, c6, by rw [← hl1], ?_, hb6⟩
      rw [← hl1, unhide HSL, askIf_yes]
      exact ho6
    case rest =>
     obtain ⟨ad4, cp4, hu, ho, hb⟩ := hcut
     subst hu
     clear HO HB hbs c0 c1 c2 c3 c4 c5 hln HSL
     have HO := hide ho
     have HB := hide hb
     clear ho hb
     have hbs := (unhide HB).size
     rw [unhide HS0] at hbs
     have hc := ((unhide HB).block w.heap.size (Nat.lt_succ_self _)).trans (unhide HC0)
     obtain ⟨c0, c1, c2, c3, c4, c5⟩ := row6 hc
     have hln := askL_len m a g p c d 4
     clear hc
     go_upto_if 42 with fail
     have HSL := hide (askS4 m a g p c d)
     go_cut [3] (fun v wx => AskC (askL m a g p c d 5) (w.heap.size + 1) W0 v wx)
     case first =>
      generalize askL m a g p c d 4 = L at *
      generalize askL m a g p c d 5 = L1 at *
      have HLT := hide (congrArg List.length (unhide HSL))
      cases c
      ·rw [askIf_no, List.append_nil] at HSL
       clear HLT
       go_wp2_with fail
       go_meet
       rw [unhide HSL]
       exact ⟨_, _, rfl, unhide HO, unhide HB⟩
      ·clear c0 c1 c2 c3 c4 c5
       go_wp2_with (first | (at_builtin; refine append_opt rfl _ _ rfl (w.heap.size + 1) (.slice ad4 L.length cp4) L L.length rfl rfl (unhide HO) 8 (⟨#[]⟩) rfl (by omega) hbs ?_; rintro v6 w6 ho6 hg6; obtain ⟨a6, c6, rfl⟩ := own_form ho6))
       have hb6 : Below (w.heap.size + 1) W0 w6 := ((unhide HB).alloc hbs _).grown hg6 (by simp; omega) (fun q hq => (World.ownsRow.lt (unhide HO) q hq).1)
       go_meet
       have hl1 : L.length + 1 = L1.length := by rw [unhide HLT, askIf_yes, List.length_append]; rfl
       refine ⟨a6, c6, by rw [← hl1], ?_, hb6⟩
       rw [← hl1, unhide HSL, askIf_yes]
       exact ho6
     case rest =>
      obtain ⟨ad5, cp5, hu, ho, hb⟩ := hcut
      subst hu
      clear HO HB hbs c0 c1 c2 c3 c4 c5 hln HSL
      have HO := hide ho
      have HB := hide hb
      clear ho hb
      have hbs := (unhide HB).size
      rw [unhide HS0] at hbs
      have hc := ((unhide HB).block w.heap.size (Nat.lt_succ_self _)).trans (unhide HC0)
      obtain ⟨c0, c1, c2, c3, c4, c5⟩ := row6 hc
      have hln := askL_len m a g p c d 5
      clear hc
      go_upto_if 48 with fail
      have HSL := hide (askS5 m a g p c d)
      go_cut [3] (fun v wx => AskC (askL m a g p c d 6) (w.heap.size + 1) W0 v wx)
      case first =>
       generalize askL m a g p c d 5 = L at *
       generalize askL m a g p c d 6 = L1 at *
       have HLT := hide (congrArg List.length (unhide HSL))
       cases d
       ·rw [askIf_no, List.append_nil] at HSL
        clear HLT
        go_wp2_with fail
        go_meet
        rw [unhide HSL]
        exact ⟨_, _, rfl, unhide HO, unhide HB⟩
       ·clear c0 c1 c2 c3 c4 c5
        go_wp2_with (first | (at_builtin; refine append_opt rfl _ _ rfl (w.heap.size + 1) (.slice ad5 L.length cp5) L L.length rfl rfl (unhide HO) 9 (put1 4) rfl (by omega) hbs ?_; rintro v6 w6 ho6 hg6; obtain ⟨a6, c6, rfl⟩ := own_form ho6))
        have hb6 : Below (w.heap.size + 1) W0 w6 := ((unhide HB).alloc hbs _).grown hg6 (by simp; omega) (fun q hq => (World.ownsRow.lt (unhide HO) q hq).1)
        go_meet
        have hl1 : L.length + 1 = L1.length := by rw [unhide HLT, askIf_yes, List.length_append]; rfl
        refine ⟨a6, c6, by rw [← hl1], ?_, hb6⟩
        rw [← hl1, unhide HSL, askIf_yes]
        exact ho6
      case rest =>
       obtain ⟨ad6, cp6, hu, ho, hb⟩ := hcut
       subst hu
       clear HO HB hbs c0 c1 c2 c3 c4 c5 hln HSL
       have HO := hide ho
       have HB := hide hb
       clear ho hb
       have hB := (unhide HB0).trans ((unhide HB).mono (Nat.le_succ _))
       have ho := own_lower (unhide HO) (Nat.le_succ _)
       clear HO HB HB0 HS0 HC0
       go_wp2_with fail
       go_ret
       exact ⟨_, rfl, _, _, rfl, ho, hB⟩
def first250 (t : ByteArray) : ByteArray := if 250 < t.size then t.extract 0 250 else t
set_option maxHeartbeats 400000 in
theorem specFirst (t : ByteArray) (w : World) (ht : t.size ≤ 100000) : Calls Tryz.prog 125 #[.string t, .int .i64 250] w fun e w' => e = .returned (.string (first250 t)) ∧ w' = w := by
 unfold first250
 by_cases h : 250 < t.size
 ·have d : (250 : Int) < (t.size : Int) := by omega
  have d2 : (250 : Int) ≤ (t.size : Int) := by omega
  rw [if_pos h]
  go_enter Tryz.func125, Tryz.ntmps125
  go_wp2
  go_ret
  exact ⟨rfl, rfl⟩
 ·have d : ¬ ((250 : Int) < (t.size : Int)) := by omega
  rw [if_neg h]
  go_enter Tryz.func125, Tryz.ntmps125
  go_wp2
  go_ret
  exact ⟨rfl, rfl⟩
set_option maxHeartbeats 400000 in
theorem specMin3 (y : Int) (w : World) : Calls Tryz.prog 124 #[.int .i64 3, .int .i64 y] w fun e w' => e = .returned (.int .i64 (min 3 y)) ∧ w' = w := by
 by_cases h : 3 ≤ y
 ·rw [Int.min_eq_left h]
  by_cases h0 : y = 3
  ·subst h0
   go_enter Tryz.func124, Tryz.ntmps124
   go_wp2
   go_ret
   exact ⟨rfl, rfl⟩
  ·have h1 : 3 < y := by omega
   have h2 : ¬ (y < 3) := by omega
   go_enter Tryz.func124, Tryz.ntmps124
   go_wp2
   go_ret
   exact ⟨rfl, rfl⟩
 ·rw [Int.min_eq_right (by omega)]
  have h1 : y < 3 := by omega
  have h2 : ¬ (3 < y) := by omega
  go_enter Tryz.func124, Tryz.ntmps124
  go_wp2
  go_ret
  exact ⟨rfl, rfl⟩
def enZero : En := ⟨0, 0, 0, false, false, false, 0, 0, 0, false, false, false, 0, 0, 0, 0, 0, false, 0, 0, false, false, false, 0, 0, false, false, false⟩
def nextE (e : En) : En := { e with id := (e.id + 1) % 256 }
def tryE (now : Int) (e : En) : En := { e with tr := max 0 (e.tr - 1), du := now + 3 }
def downE (e : En) : En := { e with up := false, i1 := 0, i2 := 0, i3 := false, i4 := false, i5 := false, o1 := 0, o2 := 0, o3 := false, o4 := false, o5 := false }
def upE (L1 L2 : Ln) (e : En) : En := { e with up := true, i1 := L1.m, i2 := L1.a, i3 := L1.p, i4 := L1.c, i5 := L1.d, o1 := L2.m, o2 := L2.a, o3 := L2.p, o4 := L2.c, o5 := L2.d }
def askOf (e : En) : List Op.Opt := askL e.m2.toNat e.a2.toNat e.g2.toNat e.p2 e.c2 e.d2 6
def putS (s : St) (cd id : Int) (dt : ByteArray) : St := { s with sn := s.sn ++ [⟨cd, id, dt⟩] }
abbrev nIrc : ByteArray := ⟨#[105, 114, 99]⟩
abbrev nZrc : ByteArray := ⟨#[122, 114, 99]⟩
abbrev nScr : ByteArray := ⟨#[115, 99, 114]⟩
abbrev nStr : ByteArray := ⟨#[115, 116, 114]⟩
abbrev nTls : ByteArray := ⟨#[116, 108, 115]⟩
abbrev nTlf : ByteArray := ⟨#[116, 108, 102]⟩
abbrev nTld : ByteArray := ⟨#[116, 108, 100]⟩
abbrev nTlu : ByteArray := ⟨#[116, 108, 117]⟩
def doIrc (s : St) : St := { s with e := { s.e with tr := 5 } }
def doZrc (s : St) : St := { s with e := { s.e with tr := 0 } }
def doScr (c : Cx) (s : St) : St := { s with e := tryE c.now (nextE s.e), F1 := askOf s.e, sn := s.sn ++ [⟨1, (s.e.id + 1) % 256, txt (Op.bytes (askOf s.e))⟩] }
def doStr (c : Cx) (s : St) : St := { s with e := tryE c.now (nextE s.e), sn := s.sn ++ [⟨5, (s.e.id + 1) % 256, ⟨#[]⟩⟩] }
def say (t : ByteArray) (s : St) : St := { s with tl := s.tl ++ [t] }
def doTld (s : St) : St := say nTld { s with e := downE s.e }
def doTlu (s : St) : St := say nTlu { s with e := upE (lineOf s.F1) (lineOf s.F2) s.e }
abbrev nSca : ByteArray := ⟨#[115, 99, 97]⟩
abbrev nScn : ByteArray := ⟨#[115, 99, 110]⟩
abbrev nSta : ByteArray := ⟨#[115, 116, 97]⟩
abbrev nScj : ByteArray := ⟨#[115, 99, 106]⟩
abbrev nSer : ByteArray := ⟨#[115, 101, 114]⟩
def doSca (c : Cx) (s : St) : St := { s with e := { s.e with fl := 0 }, F2 := c.hd, sn := s.sn ++ [⟨2, c.ci, txt (Op.bytes c.ao)⟩] }
def doScn (c : Cx) (s : St) : St := { s with e := { s.e with fl := if c.ac = 3 then min 3 (s.e.fl + 1) else s.e.fl }, sn := s.sn ++ [⟨c.ac, c.ci, txt (Op.bytes c.ao)⟩] }
def doSta (c : Cx) (s : St) : St := { s with sn := s.sn ++ [⟨6, c.ci, ⟨#[]⟩⟩] }
def doScj (t : ByteArray) (s : St) : St := { s with e := nextE s.e, sn := s.sn ++ [⟨7, (s.e.id + 1) % 256, t⟩] }
def doSer (c : Cx) (s : St) : St := if c.cc = 9 ∧ 4 ≤ c.cd.size then { s with sn := s.sn ++ [⟨10, c.ci, put4 s.e.g2.toNat ++ c.cd.extract 4 c.cd.size⟩] } else s
def cameT (c : Cx) : ByteArray := first250 (ptV ⟨c.cc, c.ci, c.cd⟩)
def actF (c : Cx) (t : ByteArray) (s : St) : St :=
 if t = nIrc then doIrc s else if t = nZrc then doZrc s else if t = nScr then doScr c s else if t = nStr then doStr c s else if t = nSca then doSca c s else if t = nScn then doScn c s
 else if t = nSta then doSta c s else if t = nScj then doScj (cameT c) s else if t = nSer then doSer c s else if t = nTlu then doTlu s else if t = nTld then doTld s else say t s
def setT (t : ByteArray) : Bool := decide (t.toList = [105, 114, 99]) || decide (t.toList = [122, 114, 99])
def endE (c : Cx) (A : List ByteArray) (st : Int) (e : En) : En :=
 { e with st := st, du := if runs st = true then (if (decide (e.du < 0) || A.any setT) = true then c.now + 3 else e.du) else -1 }
structure EO where
 e : En
 F1 : List Op.Opt
 F2 : List Op.Opt
 sn : List Op.Pk
 tl : List ByteArray
 cd : Int
def eoErr (cd : Int) : EO := ⟨enZero, [], [], [], [], cd⟩
def evF (c : Cx) (s : St) (t : ByteArray) : EO :=
 if (fsmF s.e.st t).2.2 = 0 then
  ⟨endE c (fsmF s.e.st t).2.1 (fsmF s.e.st t).1 ((fsmF s.e.st t).2.1.foldl (fun s a => actF c a s) s).e, ((fsmF s.e.st t).2.1.foldl (fun s a => actF c a s) s).F1, ((fsmF s.e.st t).2.1.foldl (fun s a => actF c a s) s).F2, ((fsmF s.e.st t).2.1.foldl (fun s a => actF c a s) s).sn, ((fsmF s.e.st t).2.1.foldl (fun s a => actF c a s) s).tl, 0⟩
 else eoErr (fsmF s.e.st t).2.2
def EvA (w0 : World) (o : EO) (r : Ending) (q : World) : Prop :=
 ∃ v1 v2 vs vt, r = .returned (.agg (eoC o.e v1 v2 vs vt o.cd)) ∧ q.ownsRow w0.heap.size 116 2 v1 o.F1.length (ocells o.F1) ∧ q.ownsRow w0.heap.size 116 2 v2 o.F2.length (ocells o.F2) ∧ q.ownsRow w0.heap.size 35 3 vs o.sn.length (pkcells o.sn) ∧ q.ownsRow w0.heap.size 9 1 vt o.tl.length (scells o.tl) ∧ Ap v1 v2 ∧ Below w0.heap.size w0 q
structure Fit (n : Nat) (c : Cx) (s : St) : Prop where
 cf : cfgOk s.e.m1 s.e.a1 s.e.g1 = true
 ask : cfgOk s.e.m2 s.e.a2 s.e.g2 = true
 id : 0 ≤ s.e.id ∧ s.e.id ≤ 255
 tr : 0 ≤ s.e.tr ∧ s.e.tr ≤ 5
 fl : 0 ≤ s.e.fl ∧ s.e.fl ≤ 3
 now : 0 ≤ c.now ∧ c.now ≤ 1000000000
 f1 : opOk s.F1 = true
 f2 : opOk s.F2 = true
 sn : s.sn.length ≤ n
 tl : s.tl.length ≤ n
 hd : opOk c.hd = true
 ao : opOk c.ao = true
 cd : c.cd.size ≤ 250
 du : -1 ≤ s.e.du
theorem opOk_right {F : List Op.Opt} (h : opOk F = true) : Op.right F = true := by unfold opOk at h; rw [Bool.and_eq_true] at h; exact h.1
theorem nextE_id (e : En) : 0 ≤ (nextE e).id ∧ (nextE e).id ≤ 255 := by unfold nextE; dsimp only; omega
theorem askL_mem {m a g : Nat} {p c d : Bool} {o : Op.Opt} (h : o ∈ askL m a g p c d 6) : Op.ok o = true ∧ o.data.size ≤ 4 := by
 unfold askL at h
 obtain ⟨x, hx, ho⟩ := List.mem_flatten.1 h
 have hx' := List.mem_of_mem_take hx
 have key : ∀ (b : Bool) (k : Int) (t : ByteArray), (1 ≤ k ∧ k ≤ 255 ∧ t.size ≤ 4) → o ∈ askIf b k t → Op.ok o = true ∧ o.data.size ≤ 4 := by
  intro b k t hk hm
  cases b
  ·simp [askIf] at hm
  ·simp [askIf] at hm
   subst hm
   exact ⟨decide_eq_true ⟨hk.1, hk.2.1, by show t.size ≤ 20; omega⟩, hk.2.2⟩
 simp only [askP, List.mem_cons, List.not_mem_nil, or_false] at hx'
 rcases hx' with rfl | rfl | rfl | rfl | rfl | rfl
 ·exact key _ _ _ ⟨by decide, by decide, by show 2 ≤ 4; decide⟩ ho
 ·exact key _ _ _ ⟨by decide, by decide, by show 4 ≤ 4; decide⟩ ho
 ·exact key _ _ _ ⟨by decide, by decide, by show 4 ≤ 4; decide⟩ ho
 ·exact key _ _ _ ⟨by decide, by decide, by show 0 ≤ 4; decide⟩ ho
 ·exact key _ _ _ ⟨by decide, by decide, by show 0 ≤ 4; decide⟩ ho
 ·exact key _ _ _ ⟨by decide, by decide, by show 1 ≤ 4; decide⟩ ho
theorem bytes_le6 (F : List Op.Opt) (h : ∀ o ∈ F, o.data.size ≤ 4) : (Op.bytes F).length ≤ 6 * F.length := by
 induction F with
 | nil => simp [Op.bytes]
 | cons o F ih =>
  have h1 := ih fun x hx => h x (by simp [hx])
  have h2 := h o (by simp)
  have e : Op.bytes (o :: F) = Op.one o ++ Op.bytes F := rfl
  have e1 : (Op.one o).length = 2 + o.data.size := by unfold Op.one; rw [List.length_append]; show 2 + o.data.data.toList.length = _; rfl
  rw [e, List.length_append, e1, List.length_cons]
  omega
theorem askOf_ok (e : En) : opOk (askOf e) = true := by
 have h1 : (askOf e).length ≤ 6 := askL_len _ _ _ _ _ _ _
 have h2 := bytes_le6 (askOf e) fun o ho => (askL_mem ho).2
 unfold opOk Op.right
 rw [Bool.and_eq_true, Bool.and_eq_true]
 exact ⟨⟨decide_eq_true (by omega), List.all_eq_true.2 fun o ho => (askL_mem ho).1⟩, decide_eq_true (by omega)⟩
theorem cfgNat {m a g : Int} (h : cfgOk m a g = true) : ((m.toNat : Nat) : Int) = m ∧ ((a.toNat : Nat) : Int) = a ∧ ((g.toNat : Nat) : Int) = g := by
 simp only [cfgOk, within, Bool.and_eq_true, decide_eq_true_eq] at h
 omega
theorem askOf_len (e : En) : (askOf e).length ≤ 6 := askL_len _ _ _ _ _ _ _
theorem Fit.irc {n : Nat} {c : Cx} {s : St} (h : Fit n c s) : Fit (n + 1) c (doIrc s) := ⟨h.cf, h.ask, h.id, ⟨show (0 : Int) ≤ 5 by decide, show (5 : Int) ≤ 5 by decide⟩, h.fl, h.now, h.f1, h.f2, Nat.le_succ_of_le h.sn, Nat.le_succ_of_le h.tl, h.hd, h.ao, h.cd, h.du⟩
theorem Fit.zrc {n : Nat} {c : Cx} {s : St} (h : Fit n c s) : Fit (n + 1) c (doZrc s) := ⟨h.cf, h.ask, h.id, ⟨show (0 : Int) ≤ 0 by decide, show (0 : Int) ≤ 5 by decide⟩, h.fl, h.now, h.f1, h.f2, Nat.le_succ_of_le h.sn, Nat.le_succ_of_le h.tl, h.hd, h.ao, h.cd, h.du⟩
theorem tryE_tr {now : Int} {e : En} (h : 0 ≤ e.tr ∧ e.tr ≤ 5) : 0 ≤ (tryE now e).tr ∧ (tryE now e).tr ≤ 5 := by unfold tryE; dsimp only; omega
theorem Fit.scr {n : Nat} {c : Cx} {s : St} (h : Fit n c s) : Fit (n + 1) c (doScr c s) :=
 ⟨h.cf, h.ask, nextE_id _, tryE_tr h.tr, h.fl, h.now, askOf_ok _, h.f2, by have := h.sn; simp [doScr]; omega, Nat.le_succ_of_le h.tl, h.hd, h.ao, h.cd, by have := h.now; show -1 ≤ c.now + 3; omega⟩
theorem Fit.str {n : Nat} {c : Cx} {s : St} (h : Fit n c s) : Fit (n + 1) c (doStr c s) :=
 ⟨h.cf, h.ask, nextE_id _, tryE_tr h.tr, h.fl, h.now, h.f1, h.f2, by have := h.sn; simp [doStr]; omega, Nat.le_succ_of_le h.tl, h.hd, h.ao, h.cd, by have := h.now; show -1 ≤ c.now + 3; omega⟩
theorem Fit.say {n : Nat} {c : Cx} {s : St} (h : Fit n c s) (t : ByteArray) : Fit (n + 1) c (say t s) :=
 ⟨h.cf, h.ask, h.id, h.tr, h.fl, h.now, h.f1, h.f2, Nat.le_succ_of_le h.sn, by have := h.tl; simp [Go.Proofs.YtahpjlbaagkdoaaGreatDoor.say]; omega, h.hd, h.ao, h.cd, h.du⟩
theorem Fit.tld {n : Nat} {c : Cx} {s : St} (h : Fit n c s) : Fit (n + 1) c (doTld s) :=
 Fit.say (s := { s with e := downE s.e }) ⟨h.cf, h.ask, h.id, h.tr, h.fl, h.now, h.f1, h.f2, h.sn, h.tl, h.hd, h.ao, h.cd, h.du⟩ _
theorem Fit.tlu {n : Nat} {c : Cx} {s : St} (h : Fit n c s) : Fit (n + 1) c (doTlu s) :=
 Fit.say (s := { s with e := upE (lineOf s.F1) (lineOf s.F2) s.e }) ⟨h.cf, h.ask, h.id, h.tr, h.fl, h.now, h.f1, h.f2, h.sn, h.tl, h.hd, h.ao, h.cd, h.du⟩ _
theorem Fit.put {n : Nat} {c : Cx} {s : St} (h : Fit n c s) (p : Op.Pk) : Fit (n + 1) c { s with sn := s.sn ++ [p] } :=
 ⟨h.cf, h.ask, h.id, h.tr, h.fl, h.now, h.f1, h.f2, by have := h.sn; simp; omega, Nat.le_succ_of_le h.tl, h.hd, h.ao, h.cd, h.du⟩
theorem Fit.up {n : Nat} {c : Cx} {s : St} (h : Fit n c s) : Fit (n + 1) c s :=
 ⟨h.cf, h.ask, h.id, h.tr, h.fl, h.now, h.f1, h.f2, Nat.le_succ_of_le h.sn, Nat.le_succ_of_le h.tl, h.hd, h.ao, h.cd, h.du⟩
theorem Fit.act {n : Nat} {c : Cx} {s : St} (h : Fit n c s) (t : ByteArray) : Fit (n + 1) c (actF c t s) := by
 unfold actF
 split
 ·exact h.irc
 split
 ·exact h.zrc
 split
 ·exact h.scr
 split
 ·exact h.str
 split
 ·exact Fit.put (s := { s with e := { s.e with fl := 0 }, F2 := c.hd }) ⟨h.cf, h.ask, h.id, h.tr, ⟨show (0 : Int) ≤ 0 by decide, show (0 : Int) ≤ 3 by decide⟩, h.now, h.f1, h.hd, h.sn, h.tl, h.hd, h.ao, h.cd, h.du⟩ _
 split
 ·refine Fit.put (s := { s with e := { s.e with fl := if c.ac = 3 then min 3 (s.e.fl + 1) else s.e.fl } }) ⟨h.cf, h.ask, h.id, h.tr, ?_, h.now, h.f1, h.f2, h.sn, h.tl, h.hd, h.ao, h.cd, h.du⟩ _
  have := h.fl
  dsimp only
  split <;> omega
 split
 ·exact h.put _
 split
 ·exact Fit.put (s := { s with e := nextE s.e }) ⟨h.cf, h.ask, nextE_id _, h.tr, h.fl, h.now, h.f1, h.f2, h.sn, h.tl, h.hd, h.ao, h.cd, h.du⟩ _
 split
 ·unfold doSer
  split
  ·exact h.put _
  ·exact h.up
 split
 ·exact h.tlu
 split
 ·exact h.tld
 ·exact h.say _
theorem Fit.fold {c : Cx} {s : St} (h : Fit 0 c s) (A : List ByteArray) (i : Nat) : Fit i c ((A.take i).foldl (fun s a => actF c a s) s) := by
 induction i with
 | zero => exact h
 | succ i ih =>
  by_cases hi : i < A.length
  ·rw [List.take_succ_eq_append_getElem hi, List.foldl_append]
   exact ih.act _
  ·have e : A.take (i + 1) = A.take i := by rw [List.take_of_length_le (by omega), List.take_of_length_le (by omega)]
   rw [e]
   exact ih.up
end Go.Proofs.YtahpjlbaagkdoaaGreatDoor
