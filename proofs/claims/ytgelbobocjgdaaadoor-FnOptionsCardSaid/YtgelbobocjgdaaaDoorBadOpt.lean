/- Bytes that are no option, the program's: it tells so; what lay in memory stands. -/
import Derived.Test.YtgelbobocjgdaaaDoorReadOpt
namespace Go.Proofs.YtgelbobocjgdaaaDoor
open Go.RowKit
set_option maxHeartbeats 2000000 in
theorem opt_bad1 (w : World) (Pb B : Nat) (v : Value) (k : UInt8) (hP : w.heap[Pb]? = some (.cells #[.int .i64 0, .int .i64 1, .int .i64 3] 140)) (hB : B < w.heap.size) (hv : Rest w B v [k]) :
    Calls Tryd.prog 87 #[.agg #[.slice (some ⟨Pb, 0, none⟩) 3 3, .int .i64 2, .int .i64 20, .int .i64 3], v] w fun e w' => e = .returned (.tuple #[.agg zero8, wrong 3]) ∧ Below w.heap.size w w' := by
  have hPw : Pb < w.heap.size := (Array.getElem?_eq_some_iff.1 hP).1
  obtain ⟨off, cap, hvf, hcap, hl⟩ := hv
  subst hvf
  have HL := hide hl
  have HP := hide hP
  have HC := hide hcap
  clear hl hP hcap
  go_enter Tryd.func87, Tryd.ntmps87
  go_wp2_with fail
  refine (partReaders _).mono ?_
  rintro e w1 ⟨rfl, hw1⟩
  obtain ⟨hs, q0, q1, q2, q3, hb1⟩ := start4 w (.cells #[.slice (some ⟨Pb, 0, none⟩) 3 3, .int .i64 2, .int .i64 20, .int .i64 3] 125) (.cells zero8 127)
    (.cells #[.slice (some ⟨Pb, 0, none⟩) 3 3, .int .i64 2, .int .i64 20, .int .i64 3, .slice (some ⟨B, off, none⟩) 1 cap, .slice none 0 0, .int .i64 0, .string ⟨#[]⟩] 127) (.map readers 4)
  unfold zero8 at hs q0 q1 q2 q3 hb1
  rw [← hw1] at hs q0 q1 q2 q3 hb1
  have hra : Ra w w1 (w.heap.size + 1 + 1 + 1) Pb (w.heap.size + 1) #[.int .i64 0, .int .i64 1, .int .i64 3] zero8 := ⟨q3, (hb1.block Pb hPw).trans (unhide HP), q1, hb1⟩
  have hrd : Rdg w1 (w.heap.size + 1 + 1) (w.heap.size + 1 + 1 + 1 + 1) B (.slice (some ⟨Pb, 0, none⟩) 3 3) 2 20 3 [k] [] 0 ⟨#[]⟩ :=
    ⟨_, _, q2, ⟨off, cap, rfl, unhide HC, (unhide HL).same (hb1.block B hB)⟩, ⟨rfl, Or.inl ⟨rfl, rfl⟩⟩⟩
  obtain ⟨c0, c1, c2, c3⟩ := row4v q0
  have HRA := hide hra
  have HRD := hide hrd
  have l0 := look_at w1 (w.heap.size + 1 + 1 + 1) readers 4 0 0 (fnV 101) hra.hm rfl
  have k0 := kind_cell hra.hp 0 _ rfl
  clear hra hrd hw1 q0 q1 q2 q3 HL HP HC
  go_wp2_with fail
  refine wp_loop_rounds 4 ?_
  rw [rounds_succ]
  go_wp2_with fail
  refine (single_any _ _ B _ 2 20 3 [k] [] 0 ⟨#[]⟩ w1 (by omega) (by omega) (by omega) (by omega) (by simp) (unhide HRD)).mono ?_
  rintro e w2 ⟨hof, ⟨hn, _⟩ | ⟨c, r', hc, rfl, hrd⟩⟩
  · cases hn
  obtain ⟨rfl, rfl⟩ := List.cons.inj hc
  have hra := (unhide HRA).off hof (by omega) (by omega) (by omega) (by omega) (by omega) (by omega) (by omega) (by omega)
  have hs2 := hof.size
  have l1 := look_at w2 (w.heap.size + 1 + 1 + 1) readers 4 1 1 (fnV 102) hra.hm rfl
  have k1 := kind_cell hra.hp 1 _ rfl
  clear HRA HRD hc l0 k0 c0 c1 c2 c3 hb1
  have HRA := hide hra
  have HRD := hide hrd
  clear hra hrd hof
  go_wp2_with fail
  rw [rounds_succ]
  go_wp2_with fail
  have C := hide (cnt_short1 _ _ B _ 2 20 3 [] _ 0 ⟨#[]⟩ w2 (by simp) (unhide HRD))
  refine (unhide C).mono ?_
  rintro e w3 ⟨rfl, hnr⟩
  have hra := (unhide HRA).off (hnr.off (N := w.heap.size + 1 + 1 + 1 + 1) (by omega)) (by omega) (by omega) (by omega) (by omega) (by omega) (by omega) (by omega) (by omega)
  have hE := hra.he
  unfold zero8 at hE
  have hfin := hra.below
  obtain ⟨e0, e1, e2, e3, e4, e5, e6, e7, ef⟩ := rg8 hE
  have f0 := ef 0
  have f1 := ef 1
  have f2 := ef 2
  have f3 := ef 3
  have f4 := ef 4
  have f5 := ef 5
  have f6 := ef 6
  have f7 := ef 7
  have FIN := hide (set8_load hE)
  unfold set8 at FIN
  clear HRA HRD hnr hra ef hE l1 k1 C
  unfold wrong
  go_wp2
  refine bodyPost_ret (v := .tuple #[.agg zero8, wrong 3]) (by simp [results, Tryd.results87, asAddr, unhide FIN, zero8, wrong]) rfl ⟨rfl, ?_⟩
  exact set8_below (E := w.heap.size + 1) hfin (Nat.le_succ _) _ _ _ _ _ _ _ _
set_option maxHeartbeats 2000000 in
theorem opt_bad2 (w : World) (Pb B : Nat) (v : Value) (k n : UInt8) (r : List UInt8) (hP : w.heap[Pb]? = some (.cells #[.int .i64 0, .int .i64 1, .int .i64 3] 140)) (hB : B < w.heap.size) (hv : Rest w B v (k :: n :: r)) (hg : bad 2 20 n.toNat r = true) :
    Calls Tryd.prog 87 #[.agg #[.slice (some ⟨Pb, 0, none⟩) 3 3, .int .i64 2, .int .i64 20, .int .i64 3], v] w fun e w' => e = .returned (.tuple #[.agg zero8, wrong 3]) ∧ Below w.heap.size w w' := by
  have hPw : Pb < w.heap.size := (Array.getElem?_eq_some_iff.1 hP).1
  obtain ⟨off, cap, hvf, hcap, hl⟩ := hv
  subst hvf
  have HL := hide hl
  have HP := hide hP
  have HC := hide hcap
  clear hl hP hcap
  go_enter Tryd.func87, Tryd.ntmps87
  go_wp2_with fail
  refine (partReaders _).mono ?_
  rintro e w1 ⟨rfl, hw1⟩
  obtain ⟨hs, q0, q1, q2, q3, hb1⟩ := start4 w (.cells #[.slice (some ⟨Pb, 0, none⟩) 3 3, .int .i64 2, .int .i64 20, .int .i64 3] 125) (.cells zero8 127)
    (.cells #[.slice (some ⟨Pb, 0, none⟩) 3 3, .int .i64 2, .int .i64 20, .int .i64 3, .slice (some ⟨B, off, none⟩) (r.length + 1 + 1) cap, .slice none 0 0, .int .i64 0, .string ⟨#[]⟩] 127) (.map readers 4)
  unfold zero8 at hs q0 q1 q2 q3 hb1
  rw [← hw1] at hs q0 q1 q2 q3 hb1
  have hra : Ra w w1 (w.heap.size + 1 + 1 + 1) Pb (w.heap.size + 1) #[.int .i64 0, .int .i64 1, .int .i64 3] zero8 := ⟨q3, (hb1.block Pb hPw).trans (unhide HP), q1, hb1⟩
  have hrd : Rdg w1 (w.heap.size + 1 + 1) (w.heap.size + 1 + 1 + 1 + 1) B (.slice (some ⟨Pb, 0, none⟩) 3 3) 2 20 3 (k :: n :: r) [] 0 ⟨#[]⟩ :=
    ⟨_, _, q2, ⟨off, cap, rfl, unhide HC, (unhide HL).same (hb1.block B hB)⟩, ⟨rfl, Or.inl ⟨rfl, rfl⟩⟩⟩
  obtain ⟨c0, c1, c2, c3⟩ := row4v q0
  have HRA := hide hra
  have HRD := hide hrd
  have l0 := look_at w1 (w.heap.size + 1 + 1 + 1) readers 4 0 0 (fnV 101) hra.hm rfl
  have k0 := kind_cell hra.hp 0 _ rfl
  clear hra hrd hw1 q0 q1 q2 q3 HL HP HC
  go_wp2_with fail
  refine wp_loop_rounds 4 ?_
  rw [rounds_succ]
  go_wp2_with fail
  refine (single_any _ _ B _ 2 20 3 (k :: n :: r) [] 0 ⟨#[]⟩ w1 (by omega) (by omega) (by omega) (by omega) (by simp) (unhide HRD)).mono ?_
  rintro e w2 ⟨hof, ⟨hn, _⟩ | ⟨c, r', hc, rfl, hrd⟩⟩
  · cases hn
  obtain ⟨rfl, rfl⟩ := List.cons.inj hc
  have hra := (unhide HRA).off hof (by omega) (by omega) (by omega) (by omega) (by omega) (by omega) (by omega) (by omega)
  have hs2 := hof.size
  have l1 := look_at w2 (w.heap.size + 1 + 1 + 1) readers 4 1 1 (fnV 102) hra.hm rfl
  have k1 := kind_cell hra.hp 1 _ rfl
  clear HRA HRD hc l0 k0 c0 c1 c2 c3 hb1
  have HRA := hide hra
  have HRD := hide hrd
  clear hra hrd hof
  go_wp2_with fail
  rw [rounds_succ]
  go_wp2_with fail
  have C := hide (cnt_any1 _ _ B _ 2 20 3 (n :: r) _ 0 ⟨#[]⟩ w2 (by omega) (by omega) (by omega) (by omega) (by omega) (by simp) (unhide HRD))
  rw [show numOf (List.take 1 (n :: r)) = n.toNat by simp [numOf], show List.drop 1 (n :: r) = r from rfl, hg, if_pos rfl] at C
  refine (unhide C).mono ?_
  rintro e w3 ⟨rfl, hnr, _⟩
  have hra := (unhide HRA).off (hnr.off (N := w.heap.size + 1 + 1 + 1 + 1) (by omega)) (by omega) (by omega) (by omega) (by omega) (by omega) (by omega) (by omega) (by omega)
  have hE := hra.he
  unfold zero8 at hE
  have hfin := hra.below
  obtain ⟨e0, e1, e2, e3, e4, e5, e6, e7, ef⟩ := rg8 hE
  have f0 := ef 0
  have f1 := ef 1
  have f2 := ef 2
  have f3 := ef 3
  have f4 := ef 4
  have f5 := ef 5
  have f6 := ef 6
  have f7 := ef 7
  have FIN := hide (set8_load hE)
  unfold set8 at FIN
  clear HRA HRD hnr hra ef hE l1 k1 C
  unfold wrong
  go_wp2
  refine bodyPost_ret (v := .tuple #[.agg zero8, wrong 3]) (by simp [results, Tryd.results87, asAddr, unhide FIN, zero8, wrong]) rfl ⟨rfl, ?_⟩
  exact set8_below (E := w.heap.size + 1) hfin (Nat.le_succ _) _ _ _ _ _ _ _ _
end Go.Proofs.YtgelbobocjgdaaaDoor
