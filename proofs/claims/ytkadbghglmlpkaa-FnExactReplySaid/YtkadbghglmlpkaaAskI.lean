/- The program's Ask; what lay in memory stands, and the answer is a row of its own. -/
import Derived.Test.YtkadbghglmlpkaaAsks
import Derived.Test.YtkadbghglmlpkaaCfg
import Derived.Test.YtkadbghglmlpkaaRow6
import Derived.Test.YtkadbghglmlpkaaOptApp
import Derived.Deep.DeepCutAuto
namespace Go.Proofs.Ytkadbghglmlpkaa
open Go.RowKit
theorem own_lower {w : World} {base base' : Nat} {e : TypeId} {size : Nat} {v : Value} {n : Nat} {xs : List Value} (h : w.ownsRow base e size v n xs) (hb : base' ≤ base) : w.ownsRow base' e size v n xs :=
  ⟨h.1, h.2.imp id fun ⟨g, cap, cur, h1, h2, h3⟩ => ⟨g, cap, cur, h1, Nat.le_trans hb h2, h3⟩⟩
set_option maxHeartbeats 2000000 in
theorem implAskNo (m a g : Int) (p c d : Bool) (w : World) (h : cfgOk m a g = false) : Calls Try.prog 7 #[cfgV m a g p c d] w fun e w' => e = .returned (.slice none 0 0) ∧ Below w.heap.size w w' := by
  have C := hide fun v => implCfg m a g p c d v
  rw [h] at C
  go_enter Try.func7, Try.ntmps7
  go_wp2_with fail
  refine (unhide C _).mono ?_
  rintro e w1 ⟨rfl, hb1⟩
  go_wp2
  go_ret
  exact ⟨rfl, ((Below.refl _ _).alloc (Nat.le_refl _) _).trans (hb1.mono (by simp))⟩
set_option maxHeartbeats 4000000 in
theorem implAskYes (m a g : Nat) (p c d : Bool) (w : World) (h : cfgOk m a g = true) :
    Calls Try.prog 7 #[cfgV m a g p c d] w fun e w' => ∃ ad cp, e = .returned (.slice ad (askL m a g p c d 6).length cp) ∧ w'.ownsRow w.heap.size 54 2 (.slice ad (askL m a g p c d 6).length cp) (askL m a g p c d 6).length (ocells (askL m a g p c d 6)) ∧ Below w.heap.size w w' := by
  have C := hide fun v => implCfg m a g p c d v
  rw [h] at C
  clear h
  go_enter Try.func7, Try.ntmps7
  go_wp2_with fail
  refine (unhide C _).mono ?_
  rintro e w1 ⟨rfl, hb1⟩
  have hr1 := (hb1.block w.heap.size (by simp)).trans (heap_alloc_last w (.cells #[.int .i64 m, .int .i64 a, .int .i64 g, .bool p, .bool c, .bool d] 26))
  have hB1 := ((Below.refl w.heap.size w).alloc (Nat.le_refl _) (.cells #[.int .i64 m, .int .i64 a, .int .i64 g, .bool p, .bool c, .bool d] 26)).trans (hb1.mono (by simp))
  clear hb1 C
  go_wp2_with fail
  refine (optionRules _).mono ?_
  rintro e w2 ⟨rfl, hm2, hb2⟩
  have hr2 := (hb2.block w.heap.size (Array.getElem?_eq_some_iff.1 hr1).1).trans hr1
  have hB2 := hB1.trans (hb2.mono hB1.size)
  have hc1 : w.heap.size < w2.heap.size := (Array.getElem?_eq_some_iff.1 hr2).1
  have hc2 : w1.heap.size < w2.heap.size := (Array.getElem?_eq_some_iff.1 hm2).1
  generalize w1.heap.size = M at *
  have HR2 := hide hr2
  have HM2 := hide hm2
  have HB2 := hide hB2
  clear hr1 hr2 hm2 hB1 hB2 hb2
  go_wp2_with fail
  go_loopw [4, 15] (fun x y wr => ∃ (i : Nat) (ad : Option Addr) (cp : Nat), i ≤ 6 ∧ y = .int .i64 i ∧ x = .slice ad (askL m a g p c d i).length cp ∧ wr.ownsRow w2.heap.size 54 2 (.slice ad (askL m a g p c d i).length cp) (askL m a g p c d i).length (ocells (askL m a g p c d i)) ∧ Below w2.heap.size w2 wr) (fun _ y _ => 6 - (intOf y).toNat)
  case atStart => exact ⟨0, none, 0, by omega, rfl, rfl, ⟨rfl, Or.inl ⟨rfl, rfl⟩⟩, Below.refl _ _⟩
  case round =>
    obtain ⟨i, ad, cp, hi, rfl, rfl, ho, hb⟩ := hrel
    by_cases hlt : i < 6
    · have d1 : (i : Int) < 6 := by omega
      obtain ⟨k, s, f, f2, f3, f4, f5, n, j, b, t, hR⟩ := ask_row m a g p c d i hlt
      have hix := hR.ix
      have hcf := hR.cf
      have hlk := look_at wr M rules 6 j k _ ((hb.block M hc2).trans (unhide HM2)) hR.fd
      have hcr := (hb.block w.heap.size hc1).trans (unhide HR2)
      obtain ⟨c0, c1, c2, c3, c4, c5⟩ := row6 hcr
      have hbs := hb.size
      have HR := hide hR
      have HO := hide ho
      have HB := hide hb
      have hln := askL_len m a g p c d i
      clear hR ho hb c0 c1 c2 c3 c4 c5
      go_upto_region 9 with fail
      refine gen_world (fun q => q.heap[wr.heap.size]? = some (.cells #[.int .i64 s, fnV f, fnV f2, fnV f3, fnV f4, fnV f5] 50) ∧ q.heap[w.heap.size]? = some (.cells #[.int .i64 m, .int .i64 a, .int .i64 g, .bool p, .bool c, .bool d] 26) ∧ Below wr.heap.size wr q)
        ⟨heap_alloc_new wr _, (Below.heap_alloc _ _ _ (by omega)).trans hcr, (Below.refl _ _).alloc (Nat.le_refl _) _⟩ ?_
      rintro q ⟨hrq, hcq, hbq⟩
      obtain ⟨c0, c1, c2, c3, c4, c5⟩ := row6 hcq
      obtain ⟨r0, r1, r2, r3, r4, r5⟩ := row6 hrq
      have HQ := hide (And.intro hrq hbq)
      clear hcr hcq hrq hbq
      go_wp2_with fail
      refine ((unhide HR).ask _).mono ?_
      rintro e w3 ⟨rfl, hb3⟩
      have hR3 := (hb3.block wr.heap.size (Array.getElem?_eq_some_iff.1 (unhide HQ).1).1).trans (unhide HQ).1
      have hbw : Below wr.heap.size wr w3 := (unhide HQ).2.trans (hb3.mono (unhide HQ).2.size)
      have HO3 := hide (own_same (unhide HO) fun q _ hq => hbw.block q hq)
      have HB3 := hide ((unhide HB).trans (hbw.mono hbs))
      clear hb3 HO HB r0 r1 r2 r3 r4 r5 HQ
      obtain ⟨r0, r1, r2, r3, r4, r5⟩ := row6 hR3
      have hbs3 := Nat.le_trans hbs hbw.size
      clear hR3 hbw r1 r2 r3 r4 r5 c0 c1 c2 c3 c4 c5 hix hlk hcf
      have hls := (unhide HR).lst
      have HLS := hide hls
      clear hls
      cases b
      · go_wp2_with fail
        go_roundw
        case rel => 
          refine ⟨i + 1, ad, cp, by omega, by go_num, ?_, ?_, unhide HB3⟩
          · rw [unhide HLS, askIf_no, List.append_nil]
          · rw [unhide HLS, askIf_no, List.append_nil]
            exact unhide HO3
        case measure => simp [intOf]; omega
      · go_wp2_with fail
        refine ((unhide HR).num _).mono ?_
        rintro e w4 ⟨rfl, hb4⟩
        have HO4 := hide (own_same (unhide HO3) fun q _ hq => hb4.block q hq)
        have HB4 := hide ((unhide HB3).trans (hb4.mono hbs3))
        have hbs4 := Nat.le_trans hbs3 hb4.size
        clear hb4 HO3 HB3 r0
        go_wp2_with (first | (at_builtin; refine append_opt rfl _ _ rfl w2.heap.size (.slice ad (askL m a g p c d i).length cp) (askL m a g p c d i) (askL m a g p c d i).length rfl rfl (unhide HO4) k t rfl (by omega) hbs4 ?_; rintro v6 w6 ho6 hg6; obtain ⟨a6, c6, rfl⟩ := own_form ho6))
        have hb6 : Below w2.heap.size w2 w6 := ((unhide HB4).alloc hbs4 _).grown hg6 (by simp; omega) (fun q hq => (World.ownsRow.lt (unhide HO4) q hq).1)
        go_roundw
        case rel =>
          have hl1 : (askL m a g p c d i).length + 1 = (askL m a g p c d (i + 1)).length := by rw [unhide HLS, askIf_yes, List.length_append]; rfl
          refine ⟨i + 1, a6, c6, by omega, by go_num, ?_, ?_, hb6⟩
          · rw [← hl1]
          · rw [← hl1, unhide HLS, askIf_yes]
            exact ho6
        case measure => simp [intOf]; omega
    · have e : i = 6 := by omega
      subst e
      have d1 : ¬ (((6 : Nat) : Int) < 6) := by omega
      have hB2 := unhide HB2
      have ho6 := own_lower ho hB2.size
      have hb6 := hB2.trans (hb.mono hB2.size)
      clear HR2 HM2 HB2
      go_wp2
      go_ret
      exact ⟨ad, cp, rfl, ho6, hb6⟩
end Go.Proofs.Ytkadbghglmlpkaa
