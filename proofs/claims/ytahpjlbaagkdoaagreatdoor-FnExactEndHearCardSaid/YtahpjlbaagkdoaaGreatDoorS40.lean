/- The program's end at work takes the packet that came: which event it is, or the code that refuses it; what lay in memory stands. The program's first step: an end at work with rows of its own; what lay in memory stands. -/
import Derived.Test.YtahpjlbaagkdoaaGreatDoorS35
import Derived.Test.YtahpjlbaagkdoaaGreatDoorS38
import Derived.Test.YtahpjlbaagkdoaaGreatDoorS39
import Derived.Test.YtahpjlbaagkdoaaGreatDoorS28
import Derived.Test.YtahpjlbaagkdoaaGreatDoorShW
namespace Go.Proofs.YtahpjlbaagkdoaaGreatDoor
open Go.RowKit
theorem woK_ok {x : Cf} (k : Int) (h : okC x = true) : okC (woK k x) = true := by
 unfold okC cfgOk at h ⊢
 simp only [within, Bool.and_eq_true, decide_eq_true_eq] at h ⊢
 unfold woK
 split
 ·dsimp only; omega
 split
 ·dsimp only; omega
 split
 ·dsimp only; omega
 split
 ·exact h
 split
 ·exact h
 split
 ·exact h
 ·exact h
theorem woF_ok {x : Cf} (h : okC x = true) (F : List Op.Opt) : okC (woF x F) = true := by
 unfold woF
 induction F generalizing x with
 | nil => exact h
 | cons o F ih => exact ih (woK_ok _ h)
def TakeA (w0 w1 : World) (B : Nat) (now : Int) (p : Op.Pk) (e : En) (F1 F2 : List Op.Opt) (v1 v2 : Value) (r : Ending) (q' : World) : Prop :=
 ∃ (c' : Cx) (e' : En) (k : Nat) (cd : Int), r = .returned (.tuple #[.int .i64 (k : Int), .int .i64 cd]) ∧ Lay 83 w0 w1 B c' ⟨e', F1, F2, [], []⟩ v1 v2 nilS nilS q' ∧
  (cd = 0 → hearP now p e F1 F2 = evF c' ⟨e', F1, F2, [], []⟩ (evT k) ∧ k < 16 ∧ Fit 0 c' ⟨e', F1, F2, [], []⟩ ∧ (k = 6 → c'.ac = 2) ∧ (k = 7 → c'.ac ≠ 2) ∧ e'.st = e.st) ∧ (cd ≠ 0 → hearP now p e F1 F2 = eoErr cd)
set_option linter.unusedSimpArgs false in
set_option maxHeartbeats 16000000 in
set_option maxRecDepth 100000 in
theorem iTake {w0 w1 : World} {B : Nat} {now : Int} {p : Op.Pk} {e : En} {F1 F2 : List Op.Opt} {v1 v2 : Value} {q : World} (h : Lay 83 w0 w1 B (cxP now p [] (0, []) nilS nilS) ⟨e, F1, F2, [], []⟩ v1 v2 nilS nilS q) (hf : Fit 0 (cx0 now) ⟨e, F1, F2, [], []⟩) (hp : Op.pok p = true) (hE : Et q) :
  Calls Tryz.prog 45 #[.pointer (some ⟨B, 0, none⟩)] q fun r q' => TakeA w0 w1 B now p e F1 F2 v1 v2 r q' := by
 have hs : p.data.size ≤ 250 := by
  have := hp
  unfold Op.pok at this
  exact (of_decide_eq_true this).2.2.2.2
 have hf2 : Fit 0 (cxP now p [] (0, []) nilS nilS) ⟨e, F1, F2, [], []⟩ := hf.came p hp rfl rfl _ _
 have c31 : q.cell? ⟨B, 31, none⟩ = some (.int .i64 p.code) := h.cell (i := 31) rfl
 have HF := hide (And.intro hf (And.intro hf2 hp))
 have HL := hide h
 clear hf hf2 hp
 by_cases h1 : p.code = 1
 ·rw [h1] at c31
  by_cases h0 : (oread p.data).2 = 0
  ·have C : Hid (Calls Tryz.prog 91 #[.pointer (some ⟨B, 0, none⟩)] q fun r q' => ∃ vh va, Lay 83 w0 w1 B (cxP now p (oread p.data).1 (ansF e (oread p.data).1) vh va) ⟨e, F1, F2, [], []⟩ v1 v2 nilS nilS q' ∧ r = .returned (.tuple #[.int .i64 (if (ansF e (oread p.data).1).1 = 2 then 6 else 7), .int .i64 0])) := hide (iReqYes h hs hE h0)
   clear h hE
   have hfr := fun vh va => (unhide HF).1.came p (unhide HF).2.2 (oread_ok hs) (ansF_ok e (oread_ok hs)) vh va
   have HH : Hid (hearP now p e F1 F2 = evF (cxP now p (oread p.data).1 (ansF e (oread p.data).1) nilS nilS) ⟨e, F1, F2, [], []⟩ (evT (if (ansF e (oread p.data).1).1 = 2 then 6 else 7))) := hide (by unfold hearP; rw [if_pos h1, if_pos h0])
   have HF2 := hide hfr
   clear hfr h0 h1 hs
   by_cases ha : (ansF e (oread p.data).1).1 = 2
   ·rw [if_pos ha] at C HH
    have HA := hide ha
    clear ha
    go_enter Tryz.func45, Tryz.ntmps45
    go_wp2_with fail
    refine (unhide C).mono ?_
    rintro r z1 ⟨vh, va, hl, rfl⟩
    have H1 := hide hl
    clear hl C
    go_wp2
    refine bodyPost_ret (v := .tuple #[.int .i64 6, .int .i64 0]) (by simp [results, Tryz.results45, go_sem]) rfl ?_
    exact ⟨_, _, 6, 0, rfl, unhide H1, fun _ => ⟨unhide HH, by decide, unhide HF2 vh va, fun _ => unhide HA, fun h => absurd h (by decide), rfl⟩, fun h => absurd rfl h⟩
   ·rw [if_neg ha] at C HH
    have HA := hide ha
    clear ha
    go_enter Tryz.func45, Tryz.ntmps45
    go_wp2_with fail
    refine (unhide C).mono ?_
    rintro r z1 ⟨vh, va, hl, rfl⟩
    have H1 := hide hl
    clear hl C
    go_wp2
    refine bodyPost_ret (v := .tuple #[.int .i64 7, .int .i64 0]) (by simp [results, Tryz.results45, go_sem]) rfl ?_
    exact ⟨_, _, 7, 0, rfl, unhide H1, fun _ => ⟨unhide HH, by decide, unhide HF2 vh va, fun h => absurd h (by decide), fun _ => unhide HA, rfl⟩, fun h => absurd rfl h⟩
  ·have C : Hid (Calls Tryz.prog 91 #[.pointer (some ⟨B, 0, none⟩)] q fun r q' => Lay 83 w0 w1 B (cxP now p [] (0, []) nilS nilS) ⟨e, F1, F2, [], []⟩ v1 v2 nilS nilS q' ∧ r = .returned (.tuple #[.int .i64 0, .int .i64 (oread p.data).2])) := hide (iReqNo h hs hE h0)
   have HH : Hid (hearP now p e F1 F2 = eoErr (oread p.data).2) := hide (by unfold hearP; rw [if_pos h1, if_neg h0])
   have HZ := hide h0
   clear h hE h0 h1 hs
   go_enter Tryz.func45, Tryz.ntmps45
   go_wp2_with fail
   refine (unhide C).mono ?_
   rintro r z1 ⟨hl, rfl⟩
   have H1 := hide hl
   clear hl C
   go_wp2
   refine bodyPost_ret (v := .tuple #[.int .i64 0, .int .i64 (oread p.data).2]) (by simp [results, Tryz.results45, go_sem]) rfl ?_
   exact ⟨_, _, 0, _, rfl, unhide H1, fun h => absurd h (unhide HZ), fun _ => unhide HH⟩
 by_cases h2 : p.code = 2
 ·rw [h2] at c31
  have C := hide (iTakeAck h (unhide HF).2.1)
  clear h hE hs
  by_cases ha : p.id = e.id ∧ p.data = txt (Op.bytes F1)
  ·have HH : Hid (hearP now p e F1 F2 = evF (cxP now p [] (0, []) nilS nilS) ⟨e, F1, F2, [], []⟩ (evT 8)) := hide (by unfold hearP; rw [if_neg h1, if_pos h2, if_pos ha])
   have ha2 : (cxP now p [] (0, []) nilS nilS).ci = e.id ∧ (cxP now p [] (0, []) nilS nilS).cd = txt (Op.bytes F1) := ha
   rw [if_pos ha2, if_pos ha2] at C
   clear ha ha2 h1 h2
   go_enter Tryz.func45, Tryz.ntmps45
   go_wp2_with fail
   refine (unhide C).mono ?_
   rintro r z1 ⟨hl, rfl⟩
   have H1 := hide hl
   clear hl C
   go_wp2
   refine bodyPost_ret (v := .tuple #[.int .i64 8, .int .i64 0]) (by simp [results, Tryz.results45, go_sem]) rfl ?_
   exact ⟨_, _, 8, 0, rfl, unhide H1, fun _ => ⟨unhide HH, by decide, (unhide HF).2.1, fun h => absurd h (by decide), fun h => absurd h (by decide), rfl⟩, fun h => absurd rfl h⟩
  ·have HH : Hid (hearP now p e F1 F2 = eoErr 8) := hide (by unfold hearP; rw [if_neg h1, if_pos h2, if_neg ha])
   have ha2 : ¬ ((cxP now p [] (0, []) nilS nilS).ci = e.id ∧ (cxP now p [] (0, []) nilS nilS).cd = txt (Op.bytes F1)) := ha
   rw [if_neg ha2, if_neg ha2] at C
   clear ha ha2 h1 h2
   go_enter Tryz.func45, Tryz.ntmps45
   go_wp2_with fail
   refine (unhide C).mono ?_
   rintro r z1 ⟨hl, rfl⟩
   have H1 := hide hl
   clear hl C
   go_wp2
   refine bodyPost_ret (v := .tuple #[.int .i64 0, .int .i64 8]) (by simp [results, Tryz.results45, go_sem]) rfl ?_
   exact ⟨_, _, 0, 8, rfl, unhide H1, fun h => absurd h (by decide), fun _ => unhide HH⟩
 by_cases h3 : p.code = 3
 ·rw [h3] at c31
  by_cases hi : p.id = e.id
  ·by_cases h0 : (oread p.data).2 = 0
   ·have C := hide (iRefYes h hs hE hi (unhide HF).1.ask h0)
    have HH : Hid (hearP now p e F1 F2 = evF (cxP now p [] (0, []) nilS nilS) ⟨setA e (lessF (cfA e) (oread p.data).1), F1, F2, [], []⟩ (evT 9)) := hide (by unfold hearP; rw [if_neg h1, if_neg h2, if_pos (Or.inl h3), if_pos hi, if_pos h0, if_pos h3])
    have e9 : (cxP now p [] (0, []) nilS nilS).cc = p.code := rfl
    rw [e9, if_pos h3] at C
    have HO : Hid (Fit 0 (cxP now p [] (0, []) nilS nilS) ⟨setA e (lessF (cfA e) (oread p.data).1), F1, F2, [], []⟩) := hide ((unhide HF).2.1.asks (lessF_ok (cfA_ok (unhide HF).1.ask) _))
    clear h hE hs h0 hi h1 h2 h3 e9
    go_enter Tryz.func45, Tryz.ntmps45
    go_wp2_with fail
    refine (unhide C).mono ?_
    rintro r z1 ⟨hl, rfl⟩
    have H1 := hide hl
    clear hl C
    go_wp2
    refine bodyPost_ret (v := .tuple #[.int .i64 9, .int .i64 0]) (by simp [results, Tryz.results45, go_sem]) rfl ?_
    exact ⟨_, _, 9, 0, rfl, unhide H1, fun _ => ⟨unhide HH, by decide, unhide HO, fun h => absurd h (by decide), fun h => absurd h (by decide), rfl⟩, fun h => absurd rfl h⟩
   ·have C : Hid (Calls Tryz.prog 93 #[.pointer (some ⟨B, 0, none⟩)] q fun r q' => Lay 83 w0 w1 B (cxP now p [] (0, []) nilS nilS) ⟨e, F1, F2, [], []⟩ v1 v2 nilS nilS q' ∧ r = .returned (.tuple #[.int .i64 0, .int .i64 (oread p.data).2])) := hide (iRefNo h hs hE hi h0)
    have HH : Hid (hearP now p e F1 F2 = eoErr (oread p.data).2) := hide (by unfold hearP; rw [if_neg h1, if_neg h2, if_pos (Or.inl h3), if_pos hi, if_neg h0])
    have HZ := hide h0
    clear h hE hs h0 hi h1 h2 h3
    go_enter Tryz.func45, Tryz.ntmps45
    go_wp2_with fail
    refine (unhide C).mono ?_
    rintro r z1 ⟨hl, rfl⟩
    have H1 := hide hl
    clear hl C
    go_wp2
    refine bodyPost_ret (v := .tuple #[.int .i64 0, .int .i64 (oread p.data).2]) (by simp [results, Tryz.results45, go_sem]) rfl ?_
    exact ⟨_, _, 0, _, rfl, unhide H1, fun h => absurd h (unhide HZ), fun _ => unhide HH⟩
  ·have C := hide (iRefId h hi)
   have HH : Hid (hearP now p e F1 F2 = eoErr 8) := hide (by unfold hearP; rw [if_neg h1, if_neg h2, if_pos (Or.inl h3), if_neg hi])
   clear h hE hs hi h1 h2 h3
   go_enter Tryz.func45, Tryz.ntmps45
   go_wp2_with fail
   refine (unhide C).mono ?_
   rintro r z1 ⟨hl, rfl⟩
   have H1 := hide hl
   clear hl C
   go_wp2
   refine bodyPost_ret (v := .tuple #[.int .i64 0, .int .i64 8]) (by simp [results, Tryz.results45, go_sem]) rfl ?_
   exact ⟨_, _, 0, 8, rfl, unhide H1, fun h => absurd h (by decide), fun _ => unhide HH⟩
 by_cases h4 : p.code = 4
 ·rw [h4] at c31
  by_cases hi : p.id = e.id
  ·by_cases h0 : (oread p.data).2 = 0
   ·have C := hide (iRefYes h hs hE hi (unhide HF).1.ask h0)
    have HH : Hid (hearP now p e F1 F2 = evF (cxP now p [] (0, []) nilS nilS) ⟨setA e (woF (cfA e) (oread p.data).1), F1, F2, [], []⟩ (evT 9)) := hide (by unfold hearP; rw [if_neg h1, if_neg h2, if_pos (Or.inr h4), if_pos hi, if_pos h0, if_neg h3])
    have e9 : (cxP now p [] (0, []) nilS nilS).cc = p.code := rfl
    rw [e9, if_neg h3] at C
    have HO : Hid (Fit 0 (cxP now p [] (0, []) nilS nilS) ⟨setA e (woF (cfA e) (oread p.data).1), F1, F2, [], []⟩) := hide ((unhide HF).2.1.asks (woF_ok (cfA_ok (unhide HF).1.ask) _))
    clear h hE hs h0 hi h1 h2 h3 h4 e9
    go_enter Tryz.func45, Tryz.ntmps45
    go_wp2_with fail
    refine (unhide C).mono ?_
    rintro r z1 ⟨hl, rfl⟩
    have H1 := hide hl
    clear hl C
    go_wp2
    refine bodyPost_ret (v := .tuple #[.int .i64 9, .int .i64 0]) (by simp [results, Tryz.results45, go_sem]) rfl ?_
    exact ⟨_, _, 9, 0, rfl, unhide H1, fun _ => ⟨unhide HH, by decide, unhide HO, fun h => absurd h (by decide), fun h => absurd h (by decide), rfl⟩, fun h => absurd rfl h⟩
   ·have C : Hid (Calls Tryz.prog 93 #[.pointer (some ⟨B, 0, none⟩)] q fun r q' => Lay 83 w0 w1 B (cxP now p [] (0, []) nilS nilS) ⟨e, F1, F2, [], []⟩ v1 v2 nilS nilS q' ∧ r = .returned (.tuple #[.int .i64 0, .int .i64 (oread p.data).2])) := hide (iRefNo h hs hE hi h0)
    have HH : Hid (hearP now p e F1 F2 = eoErr (oread p.data).2) := hide (by unfold hearP; rw [if_neg h1, if_neg h2, if_pos (Or.inr h4), if_pos hi, if_neg h0])
    have HZ := hide h0
    clear h hE hs h0 hi h1 h2 h3 h4
    go_enter Tryz.func45, Tryz.ntmps45
    go_wp2_with fail
    refine (unhide C).mono ?_
    rintro r z1 ⟨hl, rfl⟩
    have H1 := hide hl
    clear hl C
    go_wp2
    refine bodyPost_ret (v := .tuple #[.int .i64 0, .int .i64 (oread p.data).2]) (by simp [results, Tryz.results45, go_sem]) rfl ?_
    exact ⟨_, _, 0, _, rfl, unhide H1, fun h => absurd h (unhide HZ), fun _ => unhide HH⟩
  ·have C := hide (iRefId h hi)
   have HH : Hid (hearP now p e F1 F2 = eoErr 8) := hide (by unfold hearP; rw [if_neg h1, if_neg h2, if_pos (Or.inr h4), if_neg hi])
   clear h hE hs hi h1 h2 h3 h4
   go_enter Tryz.func45, Tryz.ntmps45
   go_wp2_with fail
   refine (unhide C).mono ?_
   rintro r z1 ⟨hl, rfl⟩
   have H1 := hide hl
   clear hl C
   go_wp2
   refine bodyPost_ret (v := .tuple #[.int .i64 0, .int .i64 8]) (by simp [results, Tryz.results45, go_sem]) rfl ?_
   exact ⟨_, _, 0, 8, rfl, unhide H1, fun h => absurd h (by decide), fun _ => unhide HH⟩
 have h34 : ¬ (p.code = 3 ∨ p.code = 4) := fun h => h.elim h3 h4
 by_cases h5 : p.code = 5
 ·rw [h5] at c31
  have HH : Hid (hearP now p e F1 F2 = evF (cxP now p [] (0, []) nilS nilS) ⟨e, F1, F2, [], []⟩ (evT 10)) := hide (by unfold hearP; rw [if_neg h1, if_neg h2, if_neg h34, if_neg (fun h => absurd (h5.symm.trans h.1) (by decide)), if_pos h5])
  clear h hE hs
  go_enter Tryz.func45, Tryz.ntmps45
  go_wp2
  refine bodyPost_ret (v := .tuple #[.int .i64 10, .int .i64 0]) (by simp [results, Tryz.results45, go_sem]) rfl ?_
  exact ⟨_, _, 10, 0, rfl, unhide HL, fun _ => ⟨unhide HH, by decide, (unhide HF).2.1, fun h => absurd h (by decide), fun h => absurd h (by decide), rfl⟩, fun h => absurd rfl h⟩
 by_cases h6 : p.code = 6
 ·rw [h6] at c31
  have HH : Hid (hearP now p e F1 F2 = evF (cxP now p [] (0, []) nilS nilS) ⟨e, F1, F2, [], []⟩ (evT 11)) := hide (by unfold hearP; rw [if_neg h1, if_neg h2, if_neg h34, if_neg (fun h => absurd (h6.symm.trans h.1) (by decide)), if_neg h5, if_pos h6])
  clear h hE hs
  go_enter Tryz.func45, Tryz.ntmps45
  go_wp2
  refine bodyPost_ret (v := .tuple #[.int .i64 11, .int .i64 0]) (by simp [results, Tryz.results45, go_sem]) rfl ?_
  exact ⟨_, _, 11, 0, rfl, unhide HL, fun _ => ⟨unhide HH, by decide, (unhide HF).2.1, fun h => absurd h (by decide), fun h => absurd h (by decide), rfl⟩, fun h => absurd rfl h⟩
 by_cases h7 : p.code = 7
 ·rw [h7] at c31
  have C := hide (iCode h hs)
  have e9 : (cxP now p [] (0, []) nilS nilS).cd = p.data := rfl
  rw [e9] at C
  clear h hE hs e9
  by_cases hz : p.data.size = 0
  ·have HH : Hid (hearP now p e F1 F2 = eoErr 4) := hide (by unfold hearP; rw [if_neg h1, if_neg h2, if_neg h34, if_pos ⟨h7, hz⟩])
   rw [if_pos hz, if_pos hz] at C
   clear hz h1 h2 h3 h4 h34 h5 h6 h7
   go_enter Tryz.func45, Tryz.ntmps45
   go_wp2_with fail
   refine (unhide C).mono ?_
   rintro r z1 ⟨hw, rfl⟩
   replace hw := hw.symm
   subst hw
   clear C
   go_wp2
   refine bodyPost_ret (v := .tuple #[.int .i64 0, .int .i64 4]) (by simp [results, Tryz.results45, go_sem]) rfl ?_
   exact ⟨_, _, 0, 4, rfl, unhide HL, fun h => absurd h (by decide), fun _ => unhide HH⟩
  ·rw [if_neg hz, if_neg hz] at C
   by_cases hh : hardB p.data = true
   ·have HH : Hid (hearP now p e F1 F2 = evF (cxP now p [] (0, []) nilS nilS) ⟨e, F1, F2, [], []⟩ (evT 14)) := hide (by unfold hearP; rw [if_neg h1, if_neg h2, if_neg h34, if_neg (fun h => hz h.2), if_neg h5, if_neg h6, if_pos h7, if_pos hh])
    rw [if_pos hh] at C
    clear hz hh h1 h2 h3 h4 h34 h5 h6 h7
    go_enter Tryz.func45, Tryz.ntmps45
    go_wp2_with fail
    refine (unhide C).mono ?_
    rintro r z1 ⟨hw, rfl⟩
    replace hw := hw.symm
    subst hw
    clear C
    go_wp2
    refine bodyPost_ret (v := .tuple #[.int .i64 14, .int .i64 0]) (by simp [results, Tryz.results45, go_sem]) rfl ?_
    exact ⟨_, _, 14, 0, rfl, unhide HL, fun _ => ⟨unhide HH, by decide, (unhide HF).2.1, fun h => absurd h (by decide), fun h => absurd h (by decide), rfl⟩, fun h => absurd rfl h⟩
   ·have HH : Hid (hearP now p e F1 F2 = evF (cxP now p [] (0, []) nilS nilS) ⟨e, F1, F2, [], []⟩ (evT 13)) := hide (by unfold hearP; rw [if_neg h1, if_neg h2, if_neg h34, if_neg (fun h => hz h.2), if_neg h5, if_neg h6, if_pos h7, if_neg hh])
    rw [if_neg hh] at C
    clear hz hh h1 h2 h3 h4 h34 h5 h6 h7
    go_enter Tryz.func45, Tryz.ntmps45
    go_wp2_with fail
    refine (unhide C).mono ?_
    rintro r z1 ⟨hw, rfl⟩
    replace hw := hw.symm
    subst hw
    clear C
    go_wp2
    refine bodyPost_ret (v := .tuple #[.int .i64 13, .int .i64 0]) (by simp [results, Tryz.results45, go_sem]) rfl ?_
    exact ⟨_, _, 13, 0, rfl, unhide HL, fun _ => ⟨unhide HH, by decide, (unhide HF).2.1, fun h => absurd h (by decide), fun h => absurd h (by decide), rfl⟩, fun h => absurd rfl h⟩
 by_cases h9 : p.code = 9
 ·rw [h9] at c31
  have HH : Hid (hearP now p e F1 F2 = evF (cxP now p [] (0, []) nilS nilS) ⟨e, F1, F2, [], []⟩ (evT 15)) := hide (by unfold hearP; rw [if_neg h1, if_neg h2, if_neg h34, if_neg (fun h => absurd (h9.symm.trans h.1) (by decide)), if_neg h5, if_neg h6, if_neg h7, if_pos (Or.inl h9)])
  clear h hE hs
  go_enter Tryz.func45, Tryz.ntmps45
  go_wp2
  refine bodyPost_ret (v := .tuple #[.int .i64 15, .int .i64 0]) (by simp [results, Tryz.results45, go_sem]) rfl ?_
  exact ⟨_, _, 15, 0, rfl, unhide HL, fun _ => ⟨unhide HH, by decide, (unhide HF).2.1, fun h => absurd h (by decide), fun h => absurd h (by decide), rfl⟩, fun h => absurd rfl h⟩
 by_cases h10 : p.code = 10
 ·rw [h10] at c31
  have HH : Hid (hearP now p e F1 F2 = evF (cxP now p [] (0, []) nilS nilS) ⟨e, F1, F2, [], []⟩ (evT 15)) := hide (by unfold hearP; rw [if_neg h1, if_neg h2, if_neg h34, if_neg (fun h => absurd (h10.symm.trans h.1) (by decide)), if_neg h5, if_neg h6, if_neg h7, if_pos (Or.inr (Or.inl h10))])
  clear h hE hs
  go_enter Tryz.func45, Tryz.ntmps45
  go_wp2
  refine bodyPost_ret (v := .tuple #[.int .i64 15, .int .i64 0]) (by simp [results, Tryz.results45, go_sem]) rfl ?_
  exact ⟨_, _, 15, 0, rfl, unhide HL, fun _ => ⟨unhide HH, by decide, (unhide HF).2.1, fun h => absurd h (by decide), fun h => absurd h (by decide), rfl⟩, fun h => absurd rfl h⟩
 by_cases h11 : p.code = 11
 ·rw [h11] at c31
  have HH : Hid (hearP now p e F1 F2 = evF (cxP now p [] (0, []) nilS nilS) ⟨e, F1, F2, [], []⟩ (evT 15)) := hide (by unfold hearP; rw [if_neg h1, if_neg h2, if_neg h34, if_neg (fun h => absurd (h11.symm.trans h.1) (by decide)), if_neg h5, if_neg h6, if_neg h7, if_pos (Or.inr (Or.inr h11))])
  clear h hE hs
  go_enter Tryz.func45, Tryz.ntmps45
  go_wp2
  refine bodyPost_ret (v := .tuple #[.int .i64 15, .int .i64 0]) (by simp [results, Tryz.results45, go_sem]) rfl ?_
  exact ⟨_, _, 15, 0, rfl, unhide HL, fun _ => ⟨unhide HH, by decide, (unhide HF).2.1, fun h => absurd h (by decide), fun h => absurd h (by decide), rfl⟩, fun h => absurd rfl h⟩
 have HH : Hid (hearP now p e F1 F2 = evF (cxP now p [] (0, []) nilS nilS) ⟨e, F1, F2, [], []⟩ (evT 12)) := hide (by unfold hearP; rw [if_neg h1, if_neg h2, if_neg h34, if_neg (fun h => h7 h.1), if_neg h5, if_neg h6, if_neg h7, if_neg (fun h => h.elim h9 (fun h => h.elim h10 h11))])
 have b1 : (p.code == 1) = false := beq_eq_false_iff_ne.2 h1
 have b2 : (p.code == 2) = false := beq_eq_false_iff_ne.2 h2
 have b3 : (p.code == 3) = false := beq_eq_false_iff_ne.2 h3
 have b4 : (p.code == 4) = false := beq_eq_false_iff_ne.2 h4
 have b5 : (p.code == 5) = false := beq_eq_false_iff_ne.2 h5
 have b6 : (p.code == 6) = false := beq_eq_false_iff_ne.2 h6
 have b7 : (p.code == 7) = false := beq_eq_false_iff_ne.2 h7
 have b9 : (p.code == 9) = false := beq_eq_false_iff_ne.2 h9
 have b10 : (p.code == 10) = false := beq_eq_false_iff_ne.2 h10
 have b11 : (p.code == 11) = false := beq_eq_false_iff_ne.2 h11
 clear h hE hs h1 h2 h3 h4 h34 h5 h6 h7 h9 h10 h11
 go_enter Tryz.func45, Tryz.ntmps45
 go_wp2
 refine bodyPost_ret (v := .tuple #[.int .i64 12, .int .i64 0]) (by simp [results, Tryz.results45, go_sem]) rfl ?_
 exact ⟨_, _, 12, 0, rfl, unhide HL, fun _ => ⟨unhide HH, by decide, (unhide HF).2.1, fun h => absurd h (by decide), fun h => absurd h (by decide), rfl⟩, fun h => absurd rfl h⟩
theorem own_fresh {w w' : World} {b : Nat} {e e' : TypeId} {k k' : Nat} {v v' : Value} {n n' : Nat} {xs ys : List Value} (h : w.ownsRow b e k v n xs) (h' : w'.ownsRow w.heap.size e' k' v' n' ys) : Ap v v' := fun g hg e => by
 have h1 := (h.lt g hg).2
 have h2 := (h'.lt g e).1
 omega
set_option maxHeartbeats 8000000 in
set_option maxRecDepth 100000 in
theorem iWork (e : En) (x1 x2 : Option Addr) (y1 y2 : Nat) (F1 F2 : List Op.Opt) (now : Int) (w : World) (rg1 : Op.right F1 = true) (r2 : Op.right F2 = true) (h1 : HoldsO w (.slice x1 F1.length y1) F1) (h2 : HoldsO w (.slice x2 F2.length y2) F2) :
  Calls Tryz.prog 39 #[.agg (enC e (.slice x1 F1.length y1) (.slice x2 F2.length y2)), .int .i64 now] w fun r w' => ∃ B v1 v2, r = .returned (.pointer (some ⟨B, 0, none⟩)) ∧ Lay 83 w w' B (cx0 now) ⟨e, F1, F2, [], []⟩ v1 v2 (.slice none 0 0) (.slice none 0 0) w' := by
 have C1 := hide fun W (hb : Below w.heap.size w W) => iSame _ F1 W rg1 (h1.below hb rfl)
 have C2 := hide fun W (hb : Below w.heap.size w W) => iSame _ F2 W r2 (h2.below hb rfl)
 clear h1 h2
 obtain ⟨A, eA⟩ : ∃ A, w.heap.size = A := ⟨_, rfl⟩
 have hA := heap_alloc_new w (.cells (enC e (.slice x1 F1.length y1) (.slice x2 F2.length y2)) 29)
 have hbA : Below w.heap.size w (w.alloc (.cells (enC e (.slice x1 F1.length y1) (.slice x2 F2.length y2)) 29)) := (Below.refl _ _).alloc (Nat.le_refl _) _
 rw [eA] at hA
 have H0 := hide (And.intro hA hbA)
 clear hA hbA
 obtain ⟨n1, e1⟩ : ∃ n, F1.length = n := ⟨_, rfl⟩
 obtain ⟨n2, e2⟩ : ∃ n, F2.length = n := ⟨_, rfl⟩
 rw [e1] at C1 H0 ⊢
 rw [e2] at C2 H0 ⊢
 go_enter Tryz.func39, Tryz.ntmps39
 go_upto_region 1 with fail
 refine gen_world (fun z => z.heap[A]? = some (.cells (enC e (.slice x1 n1 y1) (.slice x2 n2 y2)) 29) ∧ Below w.heap.size w z) ?_ ?_
 ·exact unhide H0
 clear H0
 rintro z ⟨za, zl⟩
 have hAw : w.heap.size ≤ z.heap.size := zl.size
 have hAl : A < z.heap.size := (Array.getElem?_eq_some_iff.1 za).1
 have c17 : z.cell? ⟨A, 17, none⟩ = some (.slice x1 n1 y1) := by rw [cell_of_row _ _ _ _ _ _ za]; rfl
 have c18 : z.cell? ⟨A, 18, none⟩ = some (.slice x2 n2 y2) := by rw [cell_of_row _ _ _ _ _ _ za]; rfl
 have HZ := hide (And.intro za (zl.trans ((Below.refl z.heap.size z).drew.mono zl.size)))
 clear za zl
 go_cut [5] (fun _ wx => ∃ a1 p1 a2 p2, wx.heap[A]? = some (.cells (enC e (.slice a1 n1 p1) (.slice a2 n2 p2)) 29) ∧ wx.ownsRow w.heap.size 116 2 (.slice a1 n1 p1) n1 (ocells F1) ∧ wx.ownsRow w.heap.size 116 2 (.slice a2 n2 p2) n2 (ocells F2) ∧ Ap (.slice a1 n1 p1) (.slice a2 n2 p2) ∧ Below w.heap.size w wx)
 case first =>
  refine wp_region_held_drew (S := fun _ => True) (by kernel_rfl) trivial (fun hHeld => ?_)
  refine tk 0 (v := ?vt0) rfl ?hyt0 ?_
  case hyt0 => intro w hSw; (try dsimp only at hSw); go_simp; try with_reducible rfl
  try simp only [Act.put, sA, sZ, sS, gA, gZ]
  refine tk 3 (v := ?vt3) rfl ?hyt3 ?_
  case hyt3 => intro w hSw; (try dsimp only at hSw); go_simp; try with_reducible rfl
  try simp only [Act.put, sA, sZ, sS, gA, gZ, gS]
  refine wpAnyH_ready (rs := [1, 4]) (by kernel_rfl) (by simp) ?_
  refine AllReadyH.cons rfl (fun K hK => ?_) (AllReadyH.cons rfl (fun K hK => ?_) (AllReadyH.nil))
  ·have cx := c17
   go_simp
   refine hK.out _ _ trivial (fun _ => ?_)
   clear hK K
   try simp only [Act.put, sA, sZ, sS, gA, gZ, gS]
   clear cx
   refine wpAnyH_ready (rs := [2, 4]) (by kernel_rfl) (by simp) ?_
   refine AllReadyH.cons rfl (fun K hK => ?_) (AllReadyH.cons rfl (fun K hK => ?_) (AllReadyH.nil))
   ·go_simp
    refine (unhide C1 _ (unhide HZ).2).mono ?_
    rintro r w5 ⟨a1, p1, rfl, ho1, hb5⟩
    have q5 := (hb5.block A hAl).trans (unhide HZ).1
    have d18 : w5.cell? ⟨A, 18, none⟩ = some (.slice x2 n2 y2) := by rw [cell_of_row _ _ _ _ _ _ q5]; rfl
    have H5 := hide (And.intro q5 (And.intro ho1 ((unhide HZ).2.trans (hb5.mono (unhide HZ).2.size))))
    have hs5 : w.heap.size ≤ z.heap.size := hAw
    clear q5 ho1 hb5
    go_wp2_with fail
    refine hK.out _ _ trivial (fun _ => ?_)
    clear hK K
    try simp only [Act.put, sA, sZ, sS, gA, gZ, gS]
    refine r1 4 rfl (fun K hK => ?_)
    have cx := d18
    go_simp
    refine hK.out _ _ trivial (fun _ => ?_)
    clear hK K
    try simp only [Act.put, sA, sZ, sS, gA, gZ, gS]
    clear cx
    refine tk 6 (v := ?vta6) rfl ?hyta6 ?_
    case hyta6 => intro w hSw; (try dsimp only at hSw); go_simp; try with_reducible rfl
    try simp only [Act.put, sA, sZ, sS, gA, gZ, gS]
    refine r1 5 rfl (fun K hK => ?_)
    go_simp
    refine (unhide C2 _ (unhide H5).2.2).mono ?_
    rintro r w6 ⟨a2, p2, rfl, ho2, hb6⟩
    have q6 := (hb6.block A (Array.getElem?_eq_some_iff.1 (unhide H5).1).1).trans (unhide H5).1
    have g17 : w6.cell? ⟨A, 17, none⟩ = some (.slice x1 n1 y1) := by rw [cell_of_row _ _ _ _ _ _ q6]; rfl
    have f17 : w6.frozen? ⟨A, 17, none⟩ = false := frz q6 17
    have r7 := heap_setCell_same w6 A 17 _ _ (.slice a1 n1 p1) q6
    have g18 : (w6.setCell ⟨A, 17, none⟩ (.slice a1 n1 p1)).cell? ⟨A, 18, none⟩ = some (.slice x2 n2 y2) := by rw [cell_of_row _ _ _ _ _ _ r7]; rfl
    have f18 : (w6.setCell ⟨A, 17, none⟩ (.slice a1 n1 p1)).frozen? ⟨A, 18, none⟩ = false := frz r7 18
    have r8 := heap_setCell_same (w6.setCell ⟨A, 17, none⟩ (.slice a1 n1 p1)) A 18 _ _ (.slice a2 n2 p2) r7
    have k1 := own_below (unhide H5).2.1 hb6
    have hap := own_fresh (unhide H5).2.1 ho2
    have hlo := (unhide H5).2.2.trans (hb6.mono (unhide H5).2.2.size)
    have n1A : ∀ g, (Value.slice a1 n1 p1).ownBlock = some g → g ≠ A := fun g hg e => by have h1 : z.heap.size ≤ g := (k1.lt g hg).1; omega
    have n2A : ∀ g, (Value.slice a2 n2 p2).ownBlock = some g → g ≠ A := fun g hg e => by have h1 := (ho2.lt g hg).1; have h2 := (Array.getElem?_eq_some_iff.1 (unhide H5).1).1; omega
    have hk : ∀ g, g ≠ A → ((w6.setCell ⟨A, 17, none⟩ (.slice a1 n1 p1)).setCell ⟨A, 18, none⟩ (.slice a2 n2 p2)).heap[g]? = w6.heap[g]? := fun g hg => (heap_setCell_other _ _ _ _ hg).trans (heap_setCell_other _ _ _ _ hg)
    have H6 := hide (And.intro (show ((w6.setCell ⟨A, 17, none⟩ (.slice a1 n1 p1)).setCell ⟨A, 18, none⟩ (.slice a2 n2 p2)).heap[A]? = some (.cells (enC e (.slice a1 n1 p1) (.slice a2 n2 p2)) 29) from r8) (And.intro (own_mono (own_other k1 fun g hg => hk g (n1A g hg)) hAw) (And.intro (own_mono (own_other ho2 fun g hg => hk g (n2A g hg)) (unhide H5).2.2.size) (And.intro hap ((hlo.setCell (p := ⟨A, 17, none⟩) (Nat.le_of_eq eA) (.slice a1 n1 p1)).setCell (p := ⟨A, 18, none⟩) (Nat.le_of_eq eA) (.slice a2 n2 p2))))))
    clear q6 r7 r8 ho2 hb6 k1 hap hlo n1A n2A hk
    go_wp2_with fail
    refine hK.out _ _ trivial (fun _ => ?_)
    clear hK K
    try simp only [Act.put, sA, sZ, sS, gA, gZ, gS]
    refine r1 7 rfl (fun K hK => ?_)
    go_simp
    refine hK.out _ _ trivial (fun _ => ?_)
    clear hK K
    try simp only [Act.put, sA, sZ, sS, gA, gZ, gS]
    refine tk 8 (v := ?vta8) rfl ?hyta8 ?_
    case hyta8 => intro w hSw; (try dsimp only at hSw); go_simp; try with_reducible rfl
    try simp only [Act.put, sA, sZ, sS, gA, gZ, gS]
    refine r1 9 rfl (fun K hK => ?_)
    go_simp
    refine hK.out _ _ trivial (fun _ => ?_)
    clear hK K
    try simp only [Act.put, List.getElem_toArray, List.getElem_cons_zero, List.getElem_cons_succ]
    refine wpAnyH_done (by kernel_rfl) ?_ _
    go_wp2_with fail
    go_meet
    exact ⟨a1, p1, a2, p2, unhide H6⟩
   ·have cx := c18
    go_simp
    refine hK.out _ _ trivial (fun _ => ?_)
    clear hK K
    try simp only [Act.put, sA, sZ, sS, gA, gZ, gS]
    clear cx
    refine r1 2 rfl (fun K hK => ?_)
    go_simp
    refine (unhide C1 _ (unhide HZ).2).mono ?_
    rintro r w5 ⟨a1, p1, rfl, ho1, hb5⟩
    have q5 := (hb5.block A hAl).trans (unhide HZ).1
    have d18 : w5.cell? ⟨A, 18, none⟩ = some (.slice x2 n2 y2) := by rw [cell_of_row _ _ _ _ _ _ q5]; rfl
    have H5 := hide (And.intro q5 (And.intro ho1 ((unhide HZ).2.trans (hb5.mono (unhide HZ).2.size))))
    have hs5 : w.heap.size ≤ z.heap.size := hAw
    clear q5 ho1 hb5
    go_wp2_with fail
    refine hK.out _ _ trivial (fun _ => ?_)
    clear hK K
    try simp only [Act.put, sA, sZ, sS, gA, gZ, gS]
    refine tk 6 (v := ?vtb6) rfl ?hytb6 ?_
    case hytb6 => intro w hSw; (try dsimp only at hSw); go_simp; try with_reducible rfl
    try simp only [Act.put, sA, sZ, sS, gA, gZ, gS]
    refine r1 5 rfl (fun K hK => ?_)
    go_simp
    refine (unhide C2 _ (unhide H5).2.2).mono ?_
    rintro r w6 ⟨a2, p2, rfl, ho2, hb6⟩
    have q6 := (hb6.block A (Array.getElem?_eq_some_iff.1 (unhide H5).1).1).trans (unhide H5).1
    have g17 : w6.cell? ⟨A, 17, none⟩ = some (.slice x1 n1 y1) := by rw [cell_of_row _ _ _ _ _ _ q6]; rfl
    have f17 : w6.frozen? ⟨A, 17, none⟩ = false := frz q6 17
    have r7 := heap_setCell_same w6 A 17 _ _ (.slice a1 n1 p1) q6
    have g18 : (w6.setCell ⟨A, 17, none⟩ (.slice a1 n1 p1)).cell? ⟨A, 18, none⟩ = some (.slice x2 n2 y2) := by rw [cell_of_row _ _ _ _ _ _ r7]; rfl
    have f18 : (w6.setCell ⟨A, 17, none⟩ (.slice a1 n1 p1)).frozen? ⟨A, 18, none⟩ = false := frz r7 18
    have r8 := heap_setCell_same (w6.setCell ⟨A, 17, none⟩ (.slice a1 n1 p1)) A 18 _ _ (.slice a2 n2 p2) r7
    have k1 := own_below (unhide H5).2.1 hb6
    have hap := own_fresh (unhide H5).2.1 ho2
    have hlo := (unhide H5).2.2.trans (hb6.mono (unhide H5).2.2.size)
    have n1A : ∀ g, (Value.slice a1 n1 p1).ownBlock = some g → g ≠ A := fun g hg e => by have h1 : z.heap.size ≤ g := (k1.lt g hg).1; omega
    have n2A : ∀ g, (Value.slice a2 n2 p2).ownBlock = some g → g ≠ A := fun g hg e => by have h1 := (ho2.lt g hg).1; have h2 := (Array.getElem?_eq_some_iff.1 (unhide H5).1).1; omega
    have hk : ∀ g, g ≠ A → ((w6.setCell ⟨A, 17, none⟩ (.slice a1 n1 p1)).setCell ⟨A, 18, none⟩ (.slice a2 n2 p2)).heap[g]? = w6.heap[g]? := fun g hg => (heap_setCell_other _ _ _ _ hg).trans (heap_setCell_other _ _ _ _ hg)
    have H6 := hide (And.intro (show ((w6.setCell ⟨A, 17, none⟩ (.slice a1 n1 p1)).setCell ⟨A, 18, none⟩ (.slice a2 n2 p2)).heap[A]? = some (.cells (enC e (.slice a1 n1 p1) (.slice a2 n2 p2)) 29) from r8) (And.intro (own_mono (own_other k1 fun g hg => hk g (n1A g hg)) hAw) (And.intro (own_mono (own_other ho2 fun g hg => hk g (n2A g hg)) (unhide H5).2.2.size) (And.intro hap ((hlo.setCell (p := ⟨A, 17, none⟩) (Nat.le_of_eq eA) (.slice a1 n1 p1)).setCell (p := ⟨A, 18, none⟩) (Nat.le_of_eq eA) (.slice a2 n2 p2))))))
    clear q6 r7 r8 ho2 hb6 k1 hap hlo n1A n2A hk
    go_wp2_with fail
    refine hK.out _ _ trivial (fun _ => ?_)
    clear hK K
    try simp only [Act.put, sA, sZ, sS, gA, gZ, gS]
    refine r1 7 rfl (fun K hK => ?_)
    go_simp
    refine hK.out _ _ trivial (fun _ => ?_)
    clear hK K
    try simp only [Act.put, sA, sZ, sS, gA, gZ, gS]
    refine tk 8 (v := ?vtb8) rfl ?hytb8 ?_
    case hytb8 => intro w hSw; (try dsimp only at hSw); go_simp; try with_reducible rfl
    try simp only [Act.put, sA, sZ, sS, gA, gZ, gS]
    refine r1 9 rfl (fun K hK => ?_)
    go_simp
    refine hK.out _ _ trivial (fun _ => ?_)
    clear hK K
    try simp only [Act.put, List.getElem_toArray, List.getElem_cons_zero, List.getElem_cons_succ]
    refine wpAnyH_done (by kernel_rfl) ?_ _
    go_wp2_with fail
    go_meet
    exact ⟨a1, p1, a2, p2, unhide H6⟩
  ·have cx := c18
   go_simp
   refine hK.out _ _ trivial (fun _ => ?_)
   clear hK K
   try simp only [Act.put, sA, sZ, sS, gA, gZ, gS]
   clear cx
   refine r1 1 rfl (fun K hK => ?_)
   have cx := c17
   go_simp
   refine hK.out _ _ trivial (fun _ => ?_)
   clear hK K
   try simp only [Act.put, sA, sZ, sS, gA, gZ, gS]
   clear cx
   refine r1 2 rfl (fun K hK => ?_)
   go_simp
   refine (unhide C1 _ (unhide HZ).2).mono ?_
   rintro r w5 ⟨a1, p1, rfl, ho1, hb5⟩
   have q5 := (hb5.block A hAl).trans (unhide HZ).1
   have d18 : w5.cell? ⟨A, 18, none⟩ = some (.slice x2 n2 y2) := by rw [cell_of_row _ _ _ _ _ _ q5]; rfl
   have H5 := hide (And.intro q5 (And.intro ho1 ((unhide HZ).2.trans (hb5.mono (unhide HZ).2.size))))
   have hs5 : w.heap.size ≤ z.heap.size := hAw
   clear q5 ho1 hb5
   go_wp2_with fail
   refine hK.out _ _ trivial (fun _ => ?_)
   clear hK K
   try simp only [Act.put, sA, sZ, sS, gA, gZ, gS]
   refine tk 6 (v := ?vtc6) rfl ?hytc6 ?_
   case hytc6 => intro w hSw; (try dsimp only at hSw); go_simp; try with_reducible rfl
   try simp only [Act.put, sA, sZ, sS, gA, gZ, gS]
   refine r1 5 rfl (fun K hK => ?_)
   go_simp
   refine (unhide C2 _ (unhide H5).2.2).mono ?_
   rintro r w6 ⟨a2, p2, rfl, ho2, hb6⟩
   have q6 := (hb6.block A (Array.getElem?_eq_some_iff.1 (unhide H5).1).1).trans (unhide H5).1
   have g17 : w6.cell? ⟨A, 17, none⟩ = some (.slice x1 n1 y1) := by rw [cell_of_row _ _ _ _ _ _ q6]; rfl
   have f17 : w6.frozen? ⟨A, 17, none⟩ = false := frz q6 17
   have r7 := heap_setCell_same w6 A 17 _ _ (.slice a1 n1 p1) q6
   have g18 : (w6.setCell ⟨A, 17, none⟩ (.slice a1 n1 p1)).cell? ⟨A, 18, none⟩ = some (.slice x2 n2 y2) := by rw [cell_of_row _ _ _ _ _ _ r7]; rfl
   have f18 : (w6.setCell ⟨A, 17, none⟩ (.slice a1 n1 p1)).frozen? ⟨A, 18, none⟩ = false := frz r7 18
   have r8 := heap_setCell_same (w6.setCell ⟨A, 17, none⟩ (.slice a1 n1 p1)) A 18 _ _ (.slice a2 n2 p2) r7
   have k1 := own_below (unhide H5).2.1 hb6
   have hap := own_fresh (unhide H5).2.1 ho2
   have hlo := (unhide H5).2.2.trans (hb6.mono (unhide H5).2.2.size)
   have n1A : ∀ g, (Value.slice a1 n1 p1).ownBlock = some g → g ≠ A := fun g hg e => by have h1 : z.heap.size ≤ g := (k1.lt g hg).1; omega
   have n2A : ∀ g, (Value.slice a2 n2 p2).ownBlock = some g → g ≠ A := fun g hg e => by have h1 := (ho2.lt g hg).1; have h2 := (Array.getElem?_eq_some_iff.1 (unhide H5).1).1; omega
   have hk : ∀ g, g ≠ A → ((w6.setCell ⟨A, 17, none⟩ (.slice a1 n1 p1)).setCell ⟨A, 18, none⟩ (.slice a2 n2 p2)).heap[g]? = w6.heap[g]? := fun g hg => (heap_setCell_other _ _ _ _ hg).trans (heap_setCell_other _ _ _ _ hg)
   have H6 := hide (And.intro (show ((w6.setCell ⟨A, 17, none⟩ (.slice a1 n1 p1)).setCell ⟨A, 18, none⟩ (.slice a2 n2 p2)).heap[A]? = some (.cells (enC e (.slice a1 n1 p1) (.slice a2 n2 p2)) 29) from r8) (And.intro (own_mono (own_other k1 fun g hg => hk g (n1A g hg)) hAw) (And.intro (own_mono (own_other ho2 fun g hg => hk g (n2A g hg)) (unhide H5).2.2.size) (And.intro hap ((hlo.setCell (p := ⟨A, 17, none⟩) (Nat.le_of_eq eA) (.slice a1 n1 p1)).setCell (p := ⟨A, 18, none⟩) (Nat.le_of_eq eA) (.slice a2 n2 p2))))))
   clear q6 r7 r8 ho2 hb6 k1 hap hlo n1A n2A hk
   go_wp2_with fail
   refine hK.out _ _ trivial (fun _ => ?_)
   clear hK K
   try simp only [Act.put, sA, sZ, sS, gA, gZ, gS]
   refine r1 7 rfl (fun K hK => ?_)
   go_simp
   refine hK.out _ _ trivial (fun _ => ?_)
   clear hK K
   try simp only [Act.put, sA, sZ, sS, gA, gZ, gS]
   refine tk 8 (v := ?vtc8) rfl ?hytc8 ?_
   case hytc8 => intro w hSw; (try dsimp only at hSw); go_simp; try with_reducible rfl
   try simp only [Act.put, sA, sZ, sS, gA, gZ, gS]
   refine r1 9 rfl (fun K hK => ?_)
   go_simp
   refine hK.out _ _ trivial (fun _ => ?_)
   clear hK K
   try simp only [Act.put, List.getElem_toArray, List.getElem_cons_zero, List.getElem_cons_succ]
   refine wpAnyH_done (by kernel_rfl) ?_ _
   go_wp2_with fail
   go_meet
   exact ⟨a1, p1, a2, p2, unhide H6⟩
 case rest =>
  obtain ⟨a1, p1, a2, p2, hq⟩ := hcut
  have HQ := hide hq
  clear hq
  go_upto_region 2 with fail
  refine gen_world (fun q => q.heap[A]? = some (.cells (enC e (.slice a1 n1 p1) (.slice a2 n2 p2)) 29) ∧ q.ownsRow w.heap.size 116 2 (.slice a1 n1 p1) n1 (ocells F1) ∧ q.ownsRow w.heap.size 116 2 (.slice a2 n2 p2) n2 (ocells F2) ∧ Ap (.slice a1 n1 p1) (.slice a2 n2 p2) ∧ Below w.heap.size w q) ?_ ?_
  ·exact unhide HQ
  clear HQ HZ c17 c18
  rintro q hq
  have HQ := hide hq
  clear hq
  go_wp2_with (first
   | (refine wpList_load_row rfl 29 (.tmp 2) rfl A rfl 29 (enC e (.slice a1 n1 p1) (.slice a2 n2 p2)) (0, 0) _ (unhide HQ).1 Tryz.underlying29 rfl infoE ?_)
   | (refine wpList_buildTo rfl 83 _ rfl (some 15) rfl (wk0 e (.slice a1 n1 p1) (.slice a2 n2 p2) now).toArray (by as_aux_lemma => kernel_rfl) ?_)
   | (refine Great.wpList_allocTo rfl (some 16) rfl (.pointer (some ⟨q.heap.size, 0, none⟩)) (.cells (wk0 e (.slice a1 n1 p1) (.slice a2 n2 p2) now).toArray 83) (by as_aux_lemma => kernel_rfl) ?_))
  go_ret
  obtain ⟨_, o1, o2, ap, lo⟩ := unhide HQ
  exact ⟨_, _, _, rfl, Lay.start ttI e1 e2 now o1 o2 ap lo⟩
end Go.Proofs.YtahpjlbaagkdoaaGreatDoor
