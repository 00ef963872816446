/- Options read off bytes, the program's: all of them, where they are right; what lay in memory stands. -/
import Derived.Test.YtgelbobocjgdaaaDoorBadOpt
import Derived.Test.YtgelbobocjgdaaaDoorOptRow
import Derived.Deep.RegionHeld3
import Derived.Deep.AppendLies
namespace Go.Proofs.YtgelbobocjgdaaaDoor
open Go.RowKit
/-- How long a slice is. -/
def slen : Value → Nat
  | .slice _ n _ => n
  | _ => 0
theorem bad2 {n : UInt8} {r : List UInt8} (h : n.toNat < 2 ∨ 22 < n.toNat ∨ r.length + 2 < n.toNat) : bad 2 20 n.toNat r = true := decide_eq_true (by omega)
theorem good2 {n : UInt8} {r : List UInt8} (h : ¬ (n.toNat < 2 ∨ 22 < n.toNat ∨ r.length + 2 < n.toNat)) : bad 2 20 n.toNat r = false := decide_eq_false (by omega)
theorem acc_none (out : List Op.Opt) {k n : UInt8} {r : List UInt8} (h : n.toNat < 2 ∨ 22 < n.toNat ∨ r.length + 2 < n.toNat) : Op.acc out (k :: n :: r) = none := by
  rcases h with h | h | h
  · exact Op.acc_bad out (Or.inl h)
  · exact Op.acc_long out h
  · exact Op.acc_bad out (Or.inr h)
set_option maxHeartbeats 1000000 in
theorem optionLayout (w : World) : Calls Tryd.prog 88 #[] w fun e w' => e = .returned (.agg #[.slice (some ⟨w.heap.size + 1, 0, none⟩) 3 3, .int .i64 2, .int .i64 20, .int .i64 3]) ∧
    w'.heap[w.heap.size + 1]? = some (.cells #[.int .i64 0, .int .i64 1, .int .i64 3] 140) ∧ Below w.heap.size w w' := by
  go_enter Tryd.func88, Tryd.ntmps88
  go_wp2
  refine bodyPost_ret (v := .agg #[.slice (some ⟨w.heap.size + 1, 0, none⟩) 3 3, .int .i64 2, .int .i64 20, .int .i64 3]) (by simp [results, Tryd.results88, go_sem]) rfl ⟨rfl, ?_, ((Below.refl _ _).alloc (Nat.le_refl _) _).alloc (by simp) _⟩
  have h := heap_alloc_new (w.alloc (.cells #[.slice (some ⟨w.heap.size + 1, 0, none⟩) 3 3, .int .i64 2, .int .i64 20, .int .i64 3] 125)) (.cells #[.int .i64 0, .int .i64 1, .int .i64 3] 140)
  rw [show (w.alloc (.cells #[.slice (some ⟨w.heap.size + 1, 0, none⟩) 3 3, .int .i64 2, .int .i64 20, .int .i64 3] 125)).heap.size = w.heap.size + 1 by simp] at h
  exact h
theorem row_one1 {w : World} {base : Nat} {sa : Option Addr} {n sc : Nat} {xs : List Value} (h : w.ownsRow base 2 1 (.slice sa n sc) n xs) (hn : 0 < n) : ∃ g, sa = some ⟨g, 0, none⟩ ∧ base ≤ g ∧ g < w.heap.size ∧ ∀ i x, xs[i]? = some x → w.cell? ⟨g, i, none⟩ = some x := by
  rcases h.2 with ⟨_, h0⟩ | ⟨g, cap, cur, h1, h2, h3, h4, h5, h6, h7⟩
  · omega
  · simp only [Value.slice.injEq, true_and] at h1
    obtain ⟨rfl, rfl⟩ := h1
    refine ⟨g, rfl, h2, (Array.getElem?_eq_some_iff.1 h3).1, fun i x hx => ?_⟩
    rw [cell_of_row _ _ _ _ _ _ h3, ← hx, ← h7, List.getElem?_take, if_pos, Array.getElem?_toList]
    have := (List.getElem?_eq_some_iff.1 hx).1
    have hl := h.1
    omega
/-- What a reading of options answers. -/
def OptsOut (w w' : World) (res : Option (List Op.Opt)) (e : Ending) : Prop :=
  (res = none ∧ e = .returned (.tuple #[.slice none 0 0, wrong 3]) ∧ Below w.heap.size w w') ∨
    (∃ L ad cp, res = some L ∧ e = .returned (.tuple #[.slice ad L.length cp, .nilIface]) ∧ w'.ownsRow w.heap.size 95 2 (.slice ad L.length cp) L.length (ocells L) ∧ Below w.heap.size w w')
set_option maxHeartbeats 8000000 in
theorem optionsOf (w : World) (B : Nat) (v : Value) (l : List UInt8) (hl8 : l.length ≤ 8000) (hB : B < w.heap.size) (hv : Rest w B v l) :
    Calls Tryd.prog 68 #[v] w fun e w' => OptsOut w w' (Op.acc [] l) e := by
  obtain ⟨i0, hi0, hz0, hz1, hz2⟩ := oinfo
  obtain ⟨RES, hRES⟩ : ∃ R, Op.acc [] l = R := ⟨_, rfl⟩
  rw [hRES]
  have HV := hide hv
  obtain ⟨off0, cap0, hvf, _⟩ := hv
  subst hvf
  go_enter Tryd.func68, Tryd.ntmps68
  go_wp2_with fail
  go_loopw [0, 4] (fun x y wr => ∃ (l' : List UInt8) (out : List Op.Opt), (∃ o c, x = .slice (some ⟨B, o, none⟩) l'.length c) ∧ Rest wr B x l' ∧ l'.length ≤ 8000 ∧ (∃ a c, y = .slice a out.length c) ∧ wr.ownsRow w.heap.size 95 2 y out.length (ocells out) ∧ Op.right out = true ∧ Op.acc out l' = RES ∧ Below w.heap.size w wr) (fun x _ _ => slen x)
  case atStart => exact ⟨l, [], ⟨_, _, rfl⟩, unhide HV, hl8, ⟨_, _, rfl⟩, ⟨rfl, Or.inl ⟨rfl, rfl⟩⟩, rfl, hRES, Below.refl _ _⟩
  case round =>
    obtain ⟨l', out, ⟨off, cap, rfl⟩, hv, hl8', ⟨ya, yc, rfl⟩, hown, hrt, hacc, hb⟩ := hrel
    have hbs := hb.size
    have hout := Op.right_len hrt
    have HOW := hide hown
    have HVV := hide hv
    clear HV hown hv
    rcases l' with _ | ⟨k, l'⟩
    · rw [Op.acc_nil, if_pos hrt] at hacc
      go_wp2
      go_ret2
      exact Or.inr ⟨out, _, _, hacc.symm, rfl, unhide HOW, hb⟩
    · have d1 : (0 : Int) < (l'.length : Int) + 1 := by omega
      have HRT := hide hrt
      have HAC := hide hacc
      clear hrt hacc
      go_wp2_with fail
      refine (optionLayout wr).mono ?_
      rintro e w1 ⟨rfl, hP, hb1⟩
      have hv1 := (unhide HVV).same (hb1.block B (by omega))
      have hb01 : Below w.heap.size w w1 := hb.trans (hb1.mono hbs)
      have hs1 := hb1.size
      rcases l' with _ | ⟨n, r⟩
      · have hres : RES = none := by rw [← unhide HAC, Op.acc_one]
        go_wp2_with fail
        refine (opt_bad1 w1 _ B _ k hP (by omega) hv1).mono ?_
        rintro e w2 ⟨rfl, hb2⟩
        have hb02 := hb01.trans (hb2.mono hb01.size)
        unfold zero8 wrong
        clear HAC HOW HVV hv1 hP HRT
        go_wp2
        go_ret2
        exact Or.inl ⟨hres, rfl, hb02.alloc hb02.size _⟩
      · by_cases hbd : n.toNat < 2 ∨ 22 < n.toNat ∨ r.length + 2 < n.toNat
        · have hres : RES = none := by rw [← unhide HAC, acc_none out hbd]
          go_wp2_with fail
          refine (opt_bad2 w1 _ B _ k n r hP (by omega) hv1 (bad2 hbd)).mono ?_
          rintro e w2 ⟨rfl, hb2⟩
          have hb02 := hb01.trans (hb2.mono hb01.size)
          unfold zero8 wrong
          clear HAC HOW HVV hv1 hP HRT hbd
          go_wp2
          go_ret2
          exact Or.inl ⟨hres, rfl, hb02.alloc hb02.size _⟩
        · have hac := unhide HAC
          rw [Op.acc_step out (by omega)] at hac
          have hlen2 : (r.drop (n.toNat - 2)).length ≤ r.length := by rw [List.length_drop]; omega
          have HAC2 := hide hac
          have hr8 : r.length + 2 ≤ 8000 := by simpa using hl8'
          clear HAC hac
          go_wp2_with fail
          refine (opt_good w1 _ B _ k n r hP (by omega) hv1 (good2 hbd)).mono ?_
          rintro e w2 ⟨off2, cap2, sa, sc, x, rfl, hR2, ho2, hb2⟩
          generalize txt (r.take (n.toNat - 2)) = T at *
          generalize r.drop (n.toNat - 2) = L2 at *
          have hs2 := hb2.size
          obtain ⟨g, rfl, hg1, hg2, hgc⟩ := row_one1 ho2 (by decide)
          have g0 := hgc 0 _ rfl
          have hb02 : Below wr.heap.size wr w2 := hb1.trans (hb2.mono hs1)
          have hownB : ∀ q, (Value.slice ya out.length yc).ownBlock = some q → w.heap.size ≤ q ∧ q < wr.heap.size := fun q hq => World.ownsRow.lt (unhide HOW) q hq
          have HO2 : Hid (w2.ownsRow w.heap.size 95 2 (.slice ya out.length yc) out.length (ocells out)) := hide (own_same (unhide HOW) fun q _ hq => hb02.block q hq)
          have HG := hide g0
          have HR2 := hide hR2
          have hbw2 : Below w.heap.size w w2 := hb.trans (hb02.mono hbs)
          clear HOW HVV hv1 hP hgc ho2 hbd g0 hR2 hb1 hb2
          have n1 : (Value.slice ya out.length yc).ownBlock ≠ some w2.heap.size := fun e => by have := hownB _ e; omega
          have n2 : (Value.slice ya out.length yc).ownBlock ≠ some g := fun e => by have := hownB _ e; omega
          have n3 : (Value.slice ya out.length yc).ownBlock ≠ some B := fun e => by have := hownB _ e; omega
          go_wp2_with fail
          refine gen_world (fun q => q.heap[w2.heap.size]? = some (.cells #[.slice (some ⟨wr.heap.size + 1, 0, none⟩) 3 3, .int .i64 2, .int .i64 20, .int .i64 3, .slice (some ⟨B, off2, none⟩) L2.length cap2, .slice (some ⟨g, 0, none⟩) 1 sc, .int .i64 x, .string T] 127) ∧ q.cell? ⟨g, 0, none⟩ = some (.int .i64 k.toNat) ∧ q.ownsRow w.heap.size 95 2 (.slice ya out.length yc) out.length (ocells out) ∧ Rest q B (.slice (some ⟨B, off2, none⟩) L2.length cap2) L2 ∧ Below w.heap.size w q ∧ q.heap.size = w2.heap.size + 1)
            ⟨heap_alloc_new w2 _, (((Below.refl w2.heap.size w2).alloc (Nat.le_refl _) _).cell (p := ⟨g, 0, none⟩) hg2).trans (unhide HG), (unhide HO2).alloc _, (unhide HR2).same (Below.heap_alloc _ _ _ (by omega)), hbw2.alloc hbw2.size _, by simp⟩ ?_
          rintro q ⟨hr, g0, hoq, hrq, hbq, hqs⟩
          obtain ⟨_, _, _, _, r4, r5, _, r7, _⟩ := rg8 hr
          have HR := hide hr
          have HOQ := hide hoq
          have HRQ := hide hrq
          have lg : g < q.heap.size := by omega
          have lr : w2.heap.size < q.heap.size := by omega
          have lB : B < q.heap.size := by omega
          have lw : w.heap.size ≤ q.heap.size := by omega
          clear hr hoq hrq HG HO2 HR2 hbw2 hb02 hownB hb01 hqs
          go_region_held3 (fun z => z.cell? ⟨w2.heap.size, 5, none⟩ = some (.slice (some ⟨g, 0, none⟩) 1 sc) ∧ z.cell? ⟨g, 0, none⟩ = some (.int .i64 k.toNat) ∧ z.cell? ⟨w2.heap.size, 7, none⟩ = some (.string T))
            (first
              | go_keep
              | (go_split_ands
                 refine ⟨?_, ?_, ?_⟩
                 · (rw [hgrow.cell_far _ (by simp; omega) (Ne.symm n1)]; assumption)
                 · (rw [hgrow.cell_far _ (by simp; omega) (Ne.symm n2)]; assumption)
                 · (rw [hgrow.cell_far _ (by simp; omega) (Ne.symm n1)]; assumption)))
            ((refine step_append_lies _ (by rfl) _ _ _ (by rfl) w.heap.size 95 i0 _ 2 24 Tryd.underlying48 hi0 hz0 hz1 hz2 rfl (by omega) (.slice ya out.length yc) out.length (ocells out) (by rfl) (((unhide HOQ).alloc _).drew)
                ⟨q.heap.size, 0, none⟩ 1 1 [.int .i64 k.toNat, .string T] (by rfl) (by rfl) (World.news_of_block (cs := #[.int .i64 k.toNat, .string T]) (t := 95) (fr := (0, 0)) (heap_alloc_new q _)) (by simp [Value.oneCell'])
                (by omega) (by unfold maxLen; omega) (by omega) (by simp; omega) (q.heap.size + 1) (by simp) ?_; intro gg cap3 w3 hown3 hgrow hat hlt))
          have hr3 := (hgrow.block w2.heap.size (by simp; omega) (Ne.symm n1)).trans ((Below.heap_alloc q _ _ lr).trans (unhide HR))
          have hB3 : w3.heap[B]? = q.heap[B]? := (hgrow.block B (by simp; omega) (Ne.symm n3)).trans (Below.heap_alloc q _ _ lB)
          have hv3 := (unhide HRQ).same hB3
          have hbw3 : Below w.heap.size w w3 := ((hbq.alloc lw _).drew).grown hgrow (by simp; omega) (fun p hp => (World.ownsRow.lt (unhide HOQ) p hp).1)
          have hoc : ocells out ++ [.int .i64 k.toNat, .string T] = ocells (out ++ [⟨(k.toNat : Int), T⟩]) := by rw [ocells_append]; rfl
          rw [hoc] at hown3
          have hol : out.length + 1 = (out ++ [(⟨(k.toNat : Int), T⟩ : Op.Opt)]).length := by simp
          have hown3' : w3.ownsRow w.heap.size 95 2 (.slice (some ⟨gg, 0, none⟩) (out ++ [(⟨(k.toNat : Int), T⟩ : Op.Opt)]).length cap3) (out ++ [(⟨(k.toNat : Int), T⟩ : Op.Opt)]).length (ocells (out ++ [⟨(k.toNat : Int), T⟩])) := by rw [← hol]; exact hown3
          have C := hide (implRightAll _ _ w3 (by rw [← hol]; unfold maxLen; omega) (HoldsO.own hown3'))
          have hl20 : out.length + 1 ≤ 21 := by omega
          generalize hNO : out ++ [(⟨(k.toNat : Int), T⟩ : Op.Opt)] = NO at *
          rw [← hol] at C
          have HO3 := hide hown3'
          have HV3 := hide hv3
          have HR3 := hide hr3
          have HOL := hide hol
          have hl3 : w2.heap.size < w3.heap.size := (Array.getElem?_eq_some_iff.1 hr3).1
          have hB3l : B < w3.heap.size := by omega
          clear hown3 hown3' hgrow hat hr3 hB3 hv3 hoc HRQ HOQ HR r4 r5 r7 g0 n1 n2 n3 HRT hol
          cases hrt2 : Op.right NO
          · have hres : RES = none := by rw [← unhide HAC2, Op.acc_wrong L2 hrt2]
            rw [hrt2] at C
            clear hrt2 HAC2
            go_wp2_with (first | (go_at_call 28; refine (unhide C).mono ?_; rintro e w4 ⟨rfl, hb4⟩))
            go_ret2
            exact Or.inl ⟨hres, rfl, hbw3.trans (hb4.mono hbw3.size)⟩
          · rw [hrt2] at C
            have HRT := hide hrt2
            clear hrt2
            go_wp2_with (first | (go_at_call 28; refine (unhide C).mono ?_; rintro e w4 ⟨rfl, hb4⟩; obtain ⟨_, _, _, _, r4, _, _, _, _⟩ := rg8 ((hb4.block w2.heap.size hl3).trans (unhide HR3))))
            go_roundw
            case rel =>
              refine ⟨L2, NO, ⟨_, _, rfl⟩, (unhide HV3).same (hb4.block B hB3l), by omega, ⟨some ⟨gg, 0, none⟩, cap3, by rw [unhide HOL]⟩, ?_, unhide HRT, unhide HAC2, hbw3.trans (hb4.mono hbw3.size)⟩
              rw [unhide HOL]
              exact own_same (unhide HO3) fun p _ hp => hb4.block p hp
            case measure =>
              simp [slen]
              omega
end Go.Proofs.YtgelbobocjgdaaaDoor
