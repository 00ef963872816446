/- Bytes that are no option, the program's: it tells so; what lay in memory stands. Options read off bytes, the program's: all of them, where they are right; what lay in memory stands. OptionsRead, the program's: of any text the options, and a code; the answer lies in new memory, and what lay there stands; under the library's variable errors.errorType as it is laid. -/
import Derived.Test.YtahpjlbaagkdoaaGreatDoorS33
import Derived.Test.YtahpjlbaagkdoaaGreatDoorS04
import Derived.Deep.RegionHeld3
import Derived.Deep.AppendLies
import Derived.Test.YtahpjlbaagkdoaaGreatDoorS03
import Derived.Test.YtahpjlbaagkdoaaGreatDoorShW
namespace Go.Proofs.YtahpjlbaagkdoaaGreatDoor
open Go.RowKit
set_option maxHeartbeats 2000000 in
theorem opt_bad1 (w : World) (Pb B : Nat) (v : Value) (k : UInt8) (hP : w.heap[Pb]? = some (.cells #[.int .i64 0, .int .i64 1, .int .i64 3] 242)) (hB : B < w.heap.size) (hv : Rest w B v [k]) :
  Calls Tryz.prog 154 #[.agg #[.slice (some ⟨Pb, 0, none⟩) 3 3, .int .i64 2, .int .i64 20, .int .i64 3], v] w fun e w' => e = .returned (.tuple #[.agg zero8, wrong 3]) ∧ Below w.heap.size w w' := by
 have hPw : Pb < w.heap.size := (Array.getElem?_eq_some_iff.1 hP).1
 obtain ⟨off, cap, hvf, hcap, hl⟩ := hv
 subst hvf
 have HL := hide hl
 have HP := hide hP
 have HC := hide hcap
 clear hl hP hcap
 go_enter Tryz.func154, Tryz.ntmps154
 go_wp2_with fail
 refine (partReaders _).mono ?_
 rintro e w1 ⟨rfl, hw1⟩
 obtain ⟨hs, q0, q1, q2, q3, hb1⟩ := start4 w (.cells #[.slice (some ⟨Pb, 0, none⟩) 3 3, .int .i64 2, .int .i64 20, .int .i64 3] 211) (.cells zero8 213)
  (.cells #[.slice (some ⟨Pb, 0, none⟩) 3 3, .int .i64 2, .int .i64 20, .int .i64 3, .slice (some ⟨B, off, none⟩) 1 cap, .slice none 0 0, .int .i64 0, .string ⟨#[]⟩] 213) (.map readers 4)
 unfold zero8 at hs q0 q1 q2 q3 hb1
 rw [← hw1] at hs q0 q1 q2 q3 hb1
 have hra : Ra w w1 (w.heap.size + 1 + 1 + 1) Pb (w.heap.size + 1) #[.int .i64 0, .int .i64 1, .int .i64 3] zero8 := ⟨q3, (hb1.block Pb hPw).trans (unhide HP), q1, hb1⟩
 have hrd : Rdg w1 (w.heap.size + 1 + 1) (w.heap.size + 1 + 1 + 1 + 1) B (.slice (some ⟨Pb, 0, none⟩) 3 3) 2 20 3 [k] [] 0 ⟨#[]⟩ :=
  ⟨_, _, q2, ⟨off, cap, rfl, unhide HC, (unhide HL).same (hb1.block B hB)⟩, ⟨rfl, Or.inl ⟨rfl, rfl⟩⟩⟩
 obtain ⟨c0, c1, c2, c3⟩ := row4v q0
 have HRA := hide hra
 have HRD := hide hrd
 have l0 := look_rd w1 (w.heap.size + 1 + 1 + 1) readers 4 0 0 (fnVr 204) hra.hm rfl
 have k0 := kind_cell hra.hp 0 _ rfl
 clear hra hrd hw1 q0 q1 q2 q3 HL HP HC
 go_wp2_with fail
 refine wp_loop_rounds 4 ?_
 rw [rounds_succ]
 go_wp2_with fail
 refine (single_any _ _ B _ 2 20 3 [k] [] 0 ⟨#[]⟩ w1 (by omega) (by omega) (by omega) (by omega) (by simp) (unhide HRD)).mono ?_
 rintro e w2 ⟨hof, ⟨hn, _⟩ | ⟨c, r', hc, rfl, hrd⟩⟩
 ·cases hn
 obtain ⟨rfl, rfl⟩ := List.cons.inj hc
 have hra := (unhide HRA).off hof (by omega) (by omega) (by omega) (by omega) (by omega) (by omega) (by omega) (by omega)
 have hs2 := hof.size
 have l1 := look_rd w2 (w.heap.size + 1 + 1 + 1) readers 4 1 1 (fnVr 205) hra.hm rfl
 have k1 := kind_cell hra.hp 1 _ rfl
 clear HRA HRD hc l0 k0 c0 c1 c2 c3 hb1
 have HRA := hide hra
 have HRD := hide hrd
 clear hra hrd hof
 go_wp2_with fail
 rw [rounds_succ]
 go_wp2_with fail
 have C := hide (cnt_short1 _ _ B _ 2 20 3 [] _ 0 ⟨#[]⟩ w2 (by simp) (unhide HRD))
 refine (unhide C).mono ?_
 rintro e w3 ⟨rfl, hnr⟩
 have hra := (unhide HRA).off (hnr.off (N := w.heap.size + 1 + 1 + 1 + 1) (by omega)) (by omega) (by omega) (by omega) (by omega) (by omega) (by omega) (by omega) (by omega)
 have hE := hra.he
 unfold zero8 at hE
 have hfin := hra.below
 obtain ⟨e0, e1, e2, e3, e4, e5, e6, e7, ef⟩ := rg8 hE
 have f0 := ef 0
 have f1 := ef 1
 have f2 := ef 2
 have f3 := ef 3
 have f4 := ef 4
 have f5 := ef 5
 have f6 := ef 6
 have f7 := ef 7
 have FIN := hide (set8_load hE)
 unfold set8 at FIN
 clear HRA HRD hnr hra ef hE l1 k1 C
 unfold wrong
 go_wp2
 refine bodyPost_ret (v := .tuple #[.agg zero8, wrong 3]) (by simp [results, Tryz.results154, asAddr, unhide FIN, zero8, wrong]) rfl ⟨rfl, ?_⟩
 exact set8_below (E := w.heap.size + 1) hfin (Nat.le_succ _) _ _ _ _ _ _ _ _
set_option maxHeartbeats 2000000 in
theorem opt_bad2 (w : World) (Pb B : Nat) (v : Value) (k n : UInt8) (r : List UInt8) (hP : w.heap[Pb]? = some (.cells #[.int .i64 0, .int .i64 1, .int .i64 3] 242)) (hB : B < w.heap.size) (hv : Rest w B v (k :: n :: r)) (hg : bad 2 20 n.toNat r = true) :
  Calls Tryz.prog 154 #[.agg #[.slice (some ⟨Pb, 0, none⟩) 3 3, .int .i64 2, .int .i64 20, .int .i64 3], v] w fun e w' => e = .returned (.tuple #[.agg zero8, wrong 3]) ∧ Below w.heap.size w w' := by
 have hPw : Pb < w.heap.size := (Array.getElem?_eq_some_iff.1 hP).1
 obtain ⟨off, cap, hvf, hcap, hl⟩ := hv
 subst hvf
 have HL := hide hl
 have HP := hide hP
 have HC := hide hcap
 clear hl hP hcap
 go_enter Tryz.func154, Tryz.ntmps154
 go_wp2_with fail
 refine (partReaders _).mono ?_
 rintro e w1 ⟨rfl, hw1⟩
 obtain ⟨hs, q0, q1, q2, q3, hb1⟩ := start4 w (.cells #[.slice (some ⟨Pb, 0, none⟩) 3 3, .int .i64 2, .int .i64 20, .int .i64 3] 211) (.cells zero8 213)
  (.cells #[.slice (some ⟨Pb, 0, none⟩) 3 3, .int .i64 2, .int .i64 20, .int .i64 3, .slice (some ⟨B, off, none⟩) (r.length + 1 + 1) cap, .slice none 0 0, .int .i64 0, .string ⟨#[]⟩] 213) (.map readers 4)
 unfold zero8 at hs q0 q1 q2 q3 hb1
 rw [← hw1] at hs q0 q1 q2 q3 hb1
 have hra : Ra w w1 (w.heap.size + 1 + 1 + 1) Pb (w.heap.size + 1) #[.int .i64 0, .int .i64 1, .int .i64 3] zero8 := ⟨q3, (hb1.block Pb hPw).trans (unhide HP), q1, hb1⟩
 have hrd : Rdg w1 (w.heap.size + 1 + 1) (w.heap.size + 1 + 1 + 1 + 1) B (.slice (some ⟨Pb, 0, none⟩) 3 3) 2 20 3 (k :: n :: r) [] 0 ⟨#[]⟩ :=
  ⟨_, _, q2, ⟨off, cap, rfl, unhide HC, (unhide HL).same (hb1.block B hB)⟩, ⟨rfl, Or.inl ⟨rfl, rfl⟩⟩⟩
 obtain ⟨c0, c1, c2, c3⟩ := row4v q0
 have HRA := hide hra
 have HRD := hide hrd
 have l0 := look_rd w1 (w.heap.size + 1 + 1 + 1) readers 4 0 0 (fnVr 204) hra.hm rfl
 have k0 := kind_cell hra.hp 0 _ rfl
 clear hra hrd hw1 q0 q1 q2 q3 HL HP HC
 go_wp2_with fail
 refine wp_loop_rounds 4 ?_
 rw [rounds_succ]
 go_wp2_with fail
 refine (single_any _ _ B _ 2 20 3 (k :: n :: r) [] 0 ⟨#[]⟩ w1 (by omega) (by omega) (by omega) (by omega) (by simp) (unhide HRD)).mono ?_
 rintro e w2 ⟨hof, ⟨hn, _⟩ | ⟨c, r', hc, rfl, hrd⟩⟩
 ·cases hn
 obtain ⟨rfl, rfl⟩ := List.cons.inj hc
 have hra := (unhide HRA).off hof (by omega) (by omega) (by omega) (by omega) (by omega) (by omega) (by omega) (by omega)
 have hs2 := hof.size
 have l1 := look_rd w2 (w.heap.size + 1 + 1 + 1) readers 4 1 1 (fnVr 205) hra.hm rfl
 have k1 := kind_cell hra.hp 1 _ rfl
 clear HRA HRD hc l0 k0 c0 c1 c2 c3 hb1
 have HRA := hide hra
 have HRD := hide hrd
 clear hra hrd hof
 go_wp2_with fail
 rw [rounds_succ]
 go_wp2_with fail
 have C := hide (cnt_any1 _ _ B _ 2 20 3 (n :: r) _ 0 ⟨#[]⟩ w2 (by omega) (by omega) (by omega) (by omega) (by omega) (by simp) (unhide HRD))
 rw [show numOf (List.take 1 (n :: r)) = n.toNat by simp [numOf], show List.drop 1 (n :: r) = r from rfl, hg, if_pos rfl] at C
 refine (unhide C).mono ?_
 rintro e w3 ⟨rfl, hnr, _⟩
 have hra := (unhide HRA).off (hnr.off (N := w.heap.size + 1 + 1 + 1 + 1) (by omega)) (by omega) (by omega) (by omega) (by omega) (by omega) (by omega) (by omega) (by omega)
 have hE := hra.he
 unfold zero8 at hE
 have hfin := hra.below
 obtain ⟨e0, e1, e2, e3, e4, e5, e6, e7, ef⟩ := rg8 hE
 have f0 := ef 0
 have f1 := ef 1
 have f2 := ef 2
 have f3 := ef 3
 have f4 := ef 4
 have f5 := ef 5
 have f6 := ef 6
 have f7 := ef 7
 have FIN := hide (set8_load hE)
 unfold set8 at FIN
 clear HRA HRD hnr hra ef hE l1 k1 C
 unfold wrong
 go_wp2
 refine bodyPost_ret (v := .tuple #[.agg zero8, wrong 3]) (by simp [results, Tryz.results154, asAddr, unhide FIN, zero8, wrong]) rfl ⟨rfl, ?_⟩
 exact set8_below (E := w.heap.size + 1) hfin (Nat.le_succ _) _ _ _ _ _ _ _ _
def slen : Value → Nat
  | .slice _ n _ => n
  | _ => 0
theorem bad2 {n : UInt8} {r : List UInt8} (h : n.toNat < 2 ∨ 22 < n.toNat ∨ r.length + 2 < n.toNat) : bad 2 20 n.toNat r = true := decide_eq_true (by omega)
theorem good2 {n : UInt8} {r : List UInt8} (h : ¬ (n.toNat < 2 ∨ 22 < n.toNat ∨ r.length + 2 < n.toNat)) : bad 2 20 n.toNat r = false := decide_eq_false (by omega)
theorem acc_none (out : List Op.Opt) {k n : UInt8} {r : List UInt8} (h : n.toNat < 2 ∨ 22 < n.toNat ∨ r.length + 2 < n.toNat) : Op.acc out (k :: n :: r) = none := by
  rcases h with h | h | h
  · exact Op.acc_bad out (Or.inl h)
  · exact Op.acc_long out h
  · exact Op.acc_bad out (Or.inr h)
set_option maxHeartbeats 1000000 in
theorem optionLayout (w : World) : Calls Tryz.prog 155 #[] w fun e w' => e = .returned (.agg #[.slice (some ⟨w.heap.size + 1, 0, none⟩) 3 3, .int .i64 2, .int .i64 20, .int .i64 3]) ∧
    w'.heap[w.heap.size + 1]? = some (.cells #[.int .i64 0, .int .i64 1, .int .i64 3] 242) ∧ Below w.heap.size w w' := by
  go_enter Tryz.func155, Tryz.ntmps155
  go_wp2
  refine bodyPost_ret (v := .agg #[.slice (some ⟨w.heap.size + 1, 0, none⟩) 3 3, .int .i64 2, .int .i64 20, .int .i64 3]) (by simp [results, Tryz.results155, go_sem]) rfl ⟨rfl, ?_, ((Below.refl _ _).alloc (Nat.le_refl _) _).alloc (by simp) _⟩
  have h := heap_alloc_new (w.alloc (.cells #[.slice (some ⟨w.heap.size + 1, 0, none⟩) 3 3, .int .i64 2, .int .i64 20, .int .i64 3] 211)) (.cells #[.int .i64 0, .int .i64 1, .int .i64 3] 242)
  rw [show (w.alloc (.cells #[.slice (some ⟨w.heap.size + 1, 0, none⟩) 3 3, .int .i64 2, .int .i64 20, .int .i64 3] 211)).heap.size = w.heap.size + 1 by simp] at h
  exact h
theorem row_one1 {w : World} {base : Nat} {sa : Option Addr} {n sc : Nat} {xs : List Value} (h : w.ownsRow base 2 1 (.slice sa n sc) n xs) (hn : 0 < n) : ∃ g, sa = some ⟨g, 0, none⟩ ∧ base ≤ g ∧ g < w.heap.size ∧ ∀ i x, xs[i]? = some x → w.cell? ⟨g, i, none⟩ = some x := by
  rcases h.2 with ⟨_, h0⟩ | ⟨g, cap, cur, h1, h2, h3, h4, h5, h6, h7⟩
  · omega
  · simp only [Value.slice.injEq, true_and] at h1
    obtain ⟨rfl, rfl⟩ := h1
    refine ⟨g, rfl, h2, (Array.getElem?_eq_some_iff.1 h3).1, fun i x hx => ?_⟩
    rw [cell_of_row _ _ _ _ _ _ h3, ← hx, ← h7, List.getElem?_take, if_pos, Array.getElem?_toList]
    have := (List.getElem?_eq_some_iff.1 hx).1
    have hl := h.1
    omega
def OptsOut (w w' : World) (res : Option (List Op.Opt)) (e : Ending) : Prop :=
  (res = none ∧ e = .returned (.tuple #[.slice none 0 0, wrong 3]) ∧ Below w.heap.size w w') ∨
    (∃ L ad cp, res = some L ∧ e = .returned (.tuple #[.slice ad L.length cp, .nilIface]) ∧ w'.ownsRow w.heap.size 116 2 (.slice ad L.length cp) L.length (ocells L) ∧ Below w.heap.size w w')
set_option maxHeartbeats 8000000 in
theorem optionsOf (w : World) (B : Nat) (v : Value) (l : List UInt8) (hl8 : l.length ≤ 8000) (hB : B < w.heap.size) (hv : Rest w B v l) :
    Calls Tryz.prog 140 #[v] w fun e w' => OptsOut w w' (Op.acc [] l) e := by
  obtain ⟨i0, hi0, hz0, hz1, hz2⟩ := oinfo
  obtain ⟨RES, hRES⟩ : ∃ R, Op.acc [] l = R := ⟨_, rfl⟩
  rw [hRES]
  have HV := hide hv
  obtain ⟨off0, cap0, hvf, _⟩ := hv
  subst hvf
  go_enter Tryz.func140, Tryz.ntmps140
  go_wp2_with fail
  go_loopw [0, 4] (fun x y wr => ∃ (l' : List UInt8) (out : List Op.Opt), (∃ o c, x = .slice (some ⟨B, o, none⟩) l'.length c) ∧ Rest wr B x l' ∧ l'.length ≤ 8000 ∧ (∃ a c, y = .slice a out.length c) ∧ wr.ownsRow w.heap.size 116 2 y out.length (ocells out) ∧ Op.right out = true ∧ Op.acc out l' = RES ∧ Below w.heap.size w wr) (fun x _ _ => slen x)
  case atStart => exact ⟨l, [], ⟨_, _, rfl⟩, unhide HV, hl8, ⟨_, _, rfl⟩, ⟨rfl, Or.inl ⟨rfl, rfl⟩⟩, rfl, hRES, Below.refl _ _⟩
  case round =>
    obtain ⟨l', out, ⟨off, cap, rfl⟩, hv, hl8', ⟨ya, yc, rfl⟩, hown, hrt, hacc, hb⟩ := hrel
    have hbs := hb.size
    have hout := Op.right_len hrt
    have HOW := hide hown
    have HVV := hide hv
    clear HV hown hv
    rcases l' with _ | ⟨k, l'⟩
    · rw [Op.acc_nil, if_pos hrt] at hacc
      go_wp2
      go_ret2
      exact Or.inr ⟨out, _, _, hacc.symm, rfl, unhide HOW, hb⟩
    · have d1 : (0 : Int) < (l'.length : Int) + 1 := by omega
      have HRT := hide hrt
      have HAC := hide hacc
      clear hrt hacc
      go_wp2_with fail
      refine (optionLayout wr).mono ?_
      rintro e w1 ⟨rfl, hP, hb1⟩
      have hv1 := (unhide HVV).same (hb1.block B (by omega))
      have hb01 : Below w.heap.size w w1 := hb.trans (hb1.mono hbs)
      have hs1 := hb1.size
      rcases l' with _ | ⟨n, r⟩
      · have hres : RES = none := by rw [← unhide HAC, Op.acc_one]
        go_wp2_with fail
        refine (opt_bad1 w1 _ B _ k hP (by omega) hv1).mono ?_
        rintro e w2 ⟨rfl, hb2⟩
        have hb02 := hb01.trans (hb2.mono hb01.size)
        unfold zero8 wrong
        clear HAC HOW HVV hv1 hP HRT
        go_wp2
        go_ret2
        exact Or.inl ⟨hres, rfl, hb02.alloc hb02.size _⟩
      · by_cases hbd : n.toNat < 2 ∨ 22 < n.toNat ∨ r.length + 2 < n.toNat
        · have hres : RES = none := by rw [← unhide HAC, acc_none out hbd]
          go_wp2_with fail
          refine (opt_bad2 w1 _ B _ k n r hP (by omega) hv1 (bad2 hbd)).mono ?_
          rintro e w2 ⟨rfl, hb2⟩
          have hb02 := hb01.trans (hb2.mono hb01.size)
          unfold zero8 wrong
          clear HAC HOW HVV hv1 hP HRT hbd
          go_wp2
          go_ret2
          exact Or.inl ⟨hres, rfl, hb02.alloc hb02.size _⟩
        · have hac := unhide HAC
          rw [Op.acc_step out (by omega)] at hac
          have hlen2 : (r.drop (n.toNat - 2)).length ≤ r.length := by rw [List.length_drop]; omega
          have HAC2 := hide hac
          have hr8 : r.length + 2 ≤ 8000 := by simpa using hl8'
          clear HAC hac
          go_wp2_with fail
          refine (opt_good w1 _ B _ k n r hP (by omega) hv1 (good2 hbd)).mono ?_
          rintro e w2 ⟨off2, cap2, sa, sc, x, rfl, hR2, ho2, hb2⟩
          generalize txt (r.take (n.toNat - 2)) = T at *
          generalize r.drop (n.toNat - 2) = L2 at *
          have hs2 := hb2.size
          obtain ⟨g, rfl, hg1, hg2, hgc⟩ := row_one1 ho2 (by decide)
          have g0 := hgc 0 _ rfl
          have hb02 : Below wr.heap.size wr w2 := hb1.trans (hb2.mono hs1)
          have hownB : ∀ q, (Value.slice ya out.length yc).ownBlock = some q → w.heap.size ≤ q ∧ q < wr.heap.size := fun q hq => World.ownsRow.lt (unhide HOW) q hq
          have HO2 : Hid (w2.ownsRow w.heap.size 116 2 (.slice ya out.length yc) out.length (ocells out)) := hide (own_same (unhide HOW) fun q _ hq => hb02.block q hq)
          have HG := hide g0
          have HR2 := hide hR2
          have hbw2 : Below w.heap.size w w2 := hb.trans (hb02.mono hbs)
          clear HOW HVV hv1 hP hgc ho2 hbd g0 hR2 hb1 hb2
          have n1 : (Value.slice ya out.length yc).ownBlock ≠ some w2.heap.size := fun e => by have := hownB _ e; omega
          have n2 : (Value.slice ya out.length yc).ownBlock ≠ some g := fun e => by have := hownB _ e; omega
          have n3 : (Value.slice ya out.length yc).ownBlock ≠ some B := fun e => by have := hownB _ e; omega
          go_wp2_with fail
          refine gen_world (fun q => q.heap[w2.heap.size]? = some (.cells #[.slice (some ⟨wr.heap.size + 1, 0, none⟩) 3 3, .int .i64 2, .int .i64 20, .int .i64 3, .slice (some ⟨B, off2, none⟩) L2.length cap2, .slice (some ⟨g, 0, none⟩) 1 sc, .int .i64 x, .string T] 213) ∧ q.cell? ⟨g, 0, none⟩ = some (.int .i64 k.toNat) ∧ q.ownsRow w.heap.size 116 2 (.slice ya out.length yc) out.length (ocells out) ∧ Rest q B (.slice (some ⟨B, off2, none⟩) L2.length cap2) L2 ∧ Below w.heap.size w q ∧ q.heap.size = w2.heap.size + 1)
            ⟨heap_alloc_new w2 _, (((Below.refl w2.heap.size w2).alloc (Nat.le_refl _) _).cell (p := ⟨g, 0, none⟩) hg2).trans (unhide HG), (unhide HO2).alloc _, (unhide HR2).same (Below.heap_alloc _ _ _ (by omega)), hbw2.alloc hbw2.size _, by simp⟩ ?_
          rintro q ⟨hr, g0, hoq, hrq, hbq, hqs⟩
          obtain ⟨_, _, _, _, r4, r5, _, r7, _⟩ := rg8 hr
          have HR := hide hr
          have HOQ := hide hoq
          have HRQ := hide hrq
          have lg : g < q.heap.size := by omega
          have lr : w2.heap.size < q.heap.size := by omega
          have lB : B < q.heap.size := by omega
          have lw : w.heap.size ≤ q.heap.size := by omega
          clear hr hoq hrq HG HO2 HR2 hbw2 hb02 hownB hb01 hqs
          go_region_held3 (fun z => z.cell? ⟨w2.heap.size, 5, none⟩ = some (.slice (some ⟨g, 0, none⟩) 1 sc) ∧ z.cell? ⟨g, 0, none⟩ = some (.int .i64 k.toNat) ∧ z.cell? ⟨w2.heap.size, 7, none⟩ = some (.string T))
            (first
              | go_keep
              | (go_split_ands
                 refine ⟨?_, ?_, ?_⟩
                 · (rw [hgrow.cell_far _ (by simp; omega) (Ne.symm n1)]; assumption)
                 · (rw [hgrow.cell_far _ (by simp; omega) (Ne.symm n2)]; assumption)
                 · (rw [hgrow.cell_far _ (by simp; omega) (Ne.symm n1)]; assumption)))
            ((refine step_append_lies _ (by rfl) _ _ _ (by rfl) w.heap.size 116 i0 _ 2 24 Tryz.underlying25 hi0 hz0 hz1 hz2 rfl (by omega) (.slice ya out.length yc) out.length (ocells out) (by rfl) (((unhide HOQ).alloc _).drew)
                ⟨q.heap.size, 0, none⟩ 1 1 [.int .i64 k.toNat, .string T] (by rfl) (by rfl) (World.news_of_block (cs := #[.int .i64 k.toNat, .string T]) (t := 116) (fr := (0, 0)) (heap_alloc_new q _)) (by simp [Value.oneCell'])
                (by omega) (by unfold maxLen; omega) (by omega) (by simp; omega) (q.heap.size + 1) (by simp) ?_; intro gg cap3 w3 hown3 hgrow hat hlt))
          have hr3 := (hgrow.block w2.heap.size (by simp; omega) (Ne.symm n1)).trans ((Below.heap_alloc q _ _ lr).trans (unhide HR))
          have hB3 : w3.heap[B]? = q.heap[B]? := (hgrow.block B (by simp; omega) (Ne.symm n3)).trans (Below.heap_alloc q _ _ lB)
          have hv3 := (unhide HRQ).same hB3
          have hbw3 : Below w.heap.size w w3 := ((hbq.alloc lw _).drew).grown hgrow (by simp; omega) (fun p hp => (World.ownsRow.lt (unhide HOQ) p hp).1)
          have hoc : ocells out ++ [.int .i64 k.toNat, .string T] = ocells (out ++ [⟨(k.toNat : Int), T⟩]) := by rw [ocells_append]; rfl
          rw [hoc] at hown3
          have hol : out.length + 1 = (out ++ [(⟨(k.toNat : Int), T⟩ : Op.Opt)]).length := by simp
          have hown3' : w3.ownsRow w.heap.size 116 2 (.slice (some ⟨gg, 0, none⟩) (out ++ [(⟨(k.toNat : Int), T⟩ : Op.Opt)]).length cap3) (out ++ [(⟨(k.toNat : Int), T⟩ : Op.Opt)]).length (ocells (out ++ [⟨(k.toNat : Int), T⟩])) := by rw [← hol]; exact hown3
          have C := hide (implRightAll _ _ w3 (by rw [← hol]; unfold maxLen; omega) (HoldsO.own hown3'))
          have hl20 : out.length + 1 ≤ 21 := by omega
          generalize hNO : out ++ [(⟨(k.toNat : Int), T⟩ : Op.Opt)] = NO at *
          rw [← hol] at C
          have HO3 := hide hown3'
          have HV3 := hide hv3
          have HR3 := hide hr3
          have HOL := hide hol
          have hl3 : w2.heap.size < w3.heap.size := (Array.getElem?_eq_some_iff.1 hr3).1
          have hB3l : B < w3.heap.size := by omega
          clear hown3 hown3' hgrow hat hr3 hB3 hv3 hoc HRQ HOQ HR r4 r5 r7 g0 n1 n2 n3 HRT hol
          cases hrt2 : Op.right NO
          · have hres : RES = none := by rw [← unhide HAC2, Op.acc_wrong L2 hrt2]
            rw [hrt2] at C
            clear hrt2 HAC2
            go_wp2_with (first | (go_at_call 112; refine (unhide C).mono ?_; rintro e w4 ⟨rfl, hb4⟩))
            go_ret2
            exact Or.inl ⟨hres, rfl, hbw3.trans (hb4.mono hbw3.size)⟩
          · rw [hrt2] at C
            have HRT := hide hrt2
            clear hrt2
            go_wp2_with (first | (go_at_call 112; refine (unhide C).mono ?_; rintro e w4 ⟨rfl, hb4⟩; obtain ⟨_, _, _, _, r4, _, _, _, _⟩ := rg8 ((hb4.block w2.heap.size hl3).trans (unhide HR3))))
            go_roundw
            case rel =>
              refine ⟨L2, NO, ⟨_, _, rfl⟩, (unhide HV3).same (hb4.block B hB3l), by omega, ⟨some ⟨gg, 0, none⟩, cap3, by rw [unhide HOL]⟩, ?_, unhide HRT, unhide HAC2, hbw3.trans (hb4.mono hbw3.size)⟩
              rw [unhide HOL]
              exact own_same (unhide HO3) fun p _ hp => hb4.block p hp
            case measure =>
              simp [slen]
              omega
def oread (t : ByteArray) : List Op.Opt × Int :=
 if 8000 < t.size then ([], 2) else
 match Op.acc [] t.data.toList with
 | none => ([], 3)
 | some L => (L, 0)
theorem oread_long {t : ByteArray} (h : 8000 < t.size) : oread t = ([], 2) := by unfold oread; rw [if_pos h]
theorem oread_none {t : ByteArray} (h : ¬ 8000 < t.size) (ha : Op.acc [] t.data.toList = none) : oread t = ([], 3) := by unfold oread; rw [if_neg h, ha]
theorem oread_some {t : ByteArray} {L : List Op.Opt} (h : ¬ 8000 < t.size) (ha : Op.acc [] t.data.toList = some L) : oread t = (L, 0) := by unfold oread; rw [if_neg h, ha]
theorem oread_right (t : ByteArray) : Op.right (oread t).1 = true := by
 by_cases h : 8000 < t.size
 ·rw [oread_long h]; rfl
 ·cases ha : Op.acc [] t.data.toList with
  | none => rw [oread_none h ha]; rfl
  | some L => rw [oread_some h ha]; exact Op.acc_right ha
def OrOut (w w' : World) (o : List Op.Opt × Int) (e : Ending) : Prop :=
 ∃ ad cp, e = .returned (.agg #[.slice ad o.1.length cp, .int .i64 o.2]) ∧ w'.ownsRow w.heap.size 116 2 (.slice ad o.1.length cp) o.1.length (ocells o.1) ∧ Below w.heap.size w w'
theorem own_nil0 (w : World) (n : Nat) : w.ownsRow n 116 2 (.slice none 0 0) 0 (ocells []) := ⟨rfl, Or.inl ⟨rfl, rfl⟩⟩
theorem infoOo : (Tryz.prog.info? 172).map (·.size) = some 2 := by kernel_rfl
theorem load2oo {W : World} {E : Nat} {x0 x1 : Value} (h : W.heap[E]? = some (.cells #[x0, x1] 172)) : (loadVar 172 ⟨E, 0, none⟩).run Tryz.prog W = .ok (.agg #[x0, x1]) W :=
 run_loadVar_row (P := Tryz.prog) _ _ 172 172 #[x0, x1] (0, 0) _ h Tryz.underlying172 rfl infoOo
theorem set2_oo {W : World} {E : Nat} {z0 z1 : Value} {T : TypeId} (h : W.heap[E]? = some (.cells #[z0, z1] T)) (x0 x1 : Value) :
  ((W.setCell ⟨E, 0, none⟩ x0).setCell ⟨E, 1, none⟩ x1).heap[E]? = some (.cells #[x0, x1] T) :=
 heap_setCell_same _ _ 1 _ _ x1 (heap_setCell_same _ _ 0 _ _ x0 h)
theorem row2oo {w : World} {B : Nat} {x0 x1 : Value} {T : TypeId} (h : w.heap[B]? = some (.cells #[x0, x1] T)) :
  w.cell? ⟨B, 0, none⟩ = some x0 ∧ w.cell? ⟨B, 1, none⟩ = some x1 ∧ w.frozen? ⟨B, 0, none⟩ = false ∧ w.frozen? ⟨B, 1, none⟩ = false :=
 ⟨by rw [cell_of_row _ _ _ _ _ _ h]; rfl, by rw [cell_of_row _ _ _ _ _ _ h]; rfl, frz h _, frz h _⟩
theorem own_two {W : World} {base base' E : Nat} {v : Value} {n : Nat} {xs : List Value} (h : W.ownsRow base 116 2 v n xs) (hE : E < base) (hb : base' ≤ base) (x0 x1 : Value) :
  ((W.setCell ⟨E, 0, none⟩ x0).setCell ⟨E, 1, none⟩ x1).ownsRow base' 116 2 v n xs := by
 have h2 : ((W.setCell ⟨E, 0, none⟩ x0).setCell ⟨E, 1, none⟩ x1).ownsRow base 116 2 v n xs := own_same h fun g hg _ => by
  have hne : g ≠ E := by omega
  rw [Below.heap_setCell _ ⟨E, 1, none⟩ _ g hne, Below.heap_setCell _ ⟨E, 0, none⟩ _ g hne]
 exact ⟨h2.1, h2.2.imp id fun ⟨g, cap, cur, h1, q, h3⟩ => ⟨g, cap, cur, h1, Nat.le_trans hb q, h3⟩⟩
set_option maxHeartbeats 4000000 in
theorem implOptsRead (t : ByteArray) (w : World) (ht : t.size ≤ maxLen) (hE : Et w) :
  Calls Tryz.prog 128 #[.string t] w fun e w' => OrOut w w' (oread t) e := by
 have hlt0 := hE.lt
 unfold maxLen at ht
 by_cases h8 : 8000 < t.size
 ·have d0 : (8000 : Int) < (t.size : Int) := by omega
  rw [oread_long h8]
  go_enter Tryz.func128, Tryz.ntmps128
  go_wp2
  refine bodyPost_ret (v := .agg #[.slice none 0 0, .int .i64 2]) (by simp [results, Tryz.results128, go_sem]) rfl ⟨none, 0, rfl, own_nil0 _ _, (Below.refl _ _).alloc (Nat.le_refl _) _⟩
 ·have d0 : ¬ ((8000 : Int) < (t.size : Int)) := by omega
  have hl8 : t.data.toList.length ≤ 8000 := by rw [len_dat]; omega
  obtain ⟨cap, W1, hcv, hcap, hl1, hb1, hlt1⟩ := bytes_of t (w.alloc (.cells #[.slice none 0 0, .int .i64 0] 172))
  have hW : (w.alloc (.cells #[.slice none 0 0, .int .i64 0] 172)).heap.size = w.heap.size + 1 := by simp
  rw [hW] at hcv hb1 hlt1 hl1
  have C1 := hide (optionsOf W1 (w.heap.size + 1) _ t.data.toList hl8 hlt1 ⟨0, cap, rfl, hcap, hl1⟩)
  rw [len_dat] at C1 hcv
  have hO1 : W1.heap[w.heap.size]? = some (.cells #[.slice none 0 0, .int .i64 0] 172) := (hb1.block w.heap.size (Nat.lt_succ_self _)).trans (heap_alloc_new w _)
  have hB1 : Below w.heap.size w W1 := ((Below.refl _ _).alloc (Nat.le_refl _) _).trans (hb1.mono (Nat.le_succ _))
  have HX := hide (And.intro hO1 hB1)
  have HN := hide (oread_none h8)
  have HS := hide fun L => oread_some (L := L) h8
  have hl1' : w.heap.size + 1 ≤ W1.heap.size := Nat.le_of_lt hlt1
  clear hl1 hb1 hO1 hB1 hcap hW hl8
  go_enter Tryz.func128, Tryz.ntmps128
  go_wp2_with fail
  refine (unhide C1).mono ?_
  rintro e W2 h
  rcases h with ⟨hres, rfl, hb2⟩ | ⟨L, ad, cp, hres, rfl, ho, hb2⟩
  ·have hO2 := (hb2.block w.heap.size (by omega)).trans (unhide HX).1
   have hB2 : Below w.heap.size w W2 := (unhide HX).2.trans (hb2.mono (unhide HX).2.size)
   have HR : Hid (oread t = ([], 3)) := hide (unhide HN hres)
   have hlt2 : w.heap.size < W2.heap.size := (Array.getElem?_eq_some_iff.1 hO2).1
   have C2 := hide (code_wrong 3 W2 (hE.below hB2 hlt0))
   have HO2 := hide (And.intro hO2 hB2)
   clear HX C1 hcv hb2 HN HS hres hO2 hB2 hE
   go_wp2_with fail
   refine (unhide C2).mono ?_
   rintro e w3 ⟨rfl, hb3⟩
   have hO3 := (hb3.block w.heap.size hlt2).trans (unhide HO2).1
   have hB3 := (unhide HO2).2.trans (hb3.mono (unhide HO2).2.size)
   obtain ⟨c0, c1, f0, f1⟩ := row2oo hO3
   have FIN := hide fun x0 x1 => load2oo (set2_oo hO3 x0 x1)
   clear C2 HO2 hO3 hb3
   go_wp2
   refine bodyPost_ret (v := .agg #[.slice none 0 0, .int .i64 3]) (by simp [results, Tryz.results128, asAddr, unhide FIN]) rfl ?_
   rw [unhide HR]
   exact ⟨none, 0, rfl, own_nil0 _ _, (hB3.setCell (p := ⟨w.heap.size, 0, none⟩) (Nat.le_refl _) _).setCell (p := ⟨w.heap.size, 1, none⟩) (Nat.le_refl _) _⟩
  ·have hO2 := (hb2.block w.heap.size (by omega)).trans (unhide HX).1
   have hB2 : Below w.heap.size w W2 := (unhide HX).2.trans (hb2.mono (unhide HX).2.size)
   have HR : Hid (oread t = (L, 0)) := hide (unhide HS L hres)
   have hlt2 : w.heap.size < W2.heap.size := (Array.getElem?_eq_some_iff.1 hO2).1
   have C2 := hide (code_nil W2)
   have HO2 := hide (And.intro hO2 hB2)
   have HOW := hide ho
   clear HX C1 hcv HN HS hres hO2 hB2 hE ho hb2
   go_wp2_with fail
   refine (unhide C2).mono ?_
   rintro e w3 ⟨rfl, hb3⟩
   have hO3 := (hb3.block w.heap.size hlt2).trans (unhide HO2).1
   have hB3 := (unhide HO2).2.trans (hb3.mono (unhide HO2).2.size)
   have HOW3 := hide (own_same (unhide HOW) fun p _ hp => hb3.block p hp)
   obtain ⟨c0, c1, f0, f1⟩ := row2oo hO3
   have FIN := hide fun x0 x1 => load2oo (set2_oo hO3 x0 x1)
   clear C2 HO2 hO3 hb3 HOW
   go_wp2
   refine bodyPost_ret (v := .agg #[.slice ad L.length cp, .int .i64 0]) (by simp [results, Tryz.results128, asAddr, unhide FIN]) rfl ?_
   rw [unhide HR]
   exact ⟨ad, cp, rfl, own_two (unhide HOW3) (by omega) (by omega) _ _, (hB3.setCell (p := ⟨w.heap.size, 0, none⟩) (Nat.le_refl _) _).setCell (p := ⟨w.heap.size, 1, none⟩) (Nat.le_refl _) _⟩
end Go.Proofs.YtahpjlbaagkdoaaGreatDoor
