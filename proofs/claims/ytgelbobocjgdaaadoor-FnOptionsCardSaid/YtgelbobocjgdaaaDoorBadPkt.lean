/- A packet read off bytes, the program's: where they are too few, or do not fit; what lay in memory stands. -/
import Derived.Test.YtgelbobocjgdaaaDoorReadOpt
namespace Go.Proofs.YtgelbobocjgdaaaDoor
open Go.RowKit
set_option maxHeartbeats 4000000 in
theorem pkt_short0 (w : World) (Pb B : Nat) (v : Value)  (hP : w.heap[Pb]? = some (.cells #[.int .i64 0, .int .i64 0, .int .i64 2, .int .i64 3] 140)) (hB : B < w.heap.size) (hv : Rest w B v []) :
    Calls Tryd.prog 87 #[.agg #[.slice (some ⟨Pb, 0, none⟩) 4 4, .int .i64 4, .int .i64 250, .int .i64 4], v] w fun e w' => e = .returned (.tuple #[.agg zero8, wrong 4]) ∧ Below w.heap.size w w' := by
  have hPw : Pb < w.heap.size := (Array.getElem?_eq_some_iff.1 hP).1
  obtain ⟨off, cap, hvf, hcap, hl⟩ := hv
  subst hvf
  have HL := hide hl
  have HP := hide hP
  have HC := hide hcap
  clear hl hP hcap
  go_enter Tryd.func87, Tryd.ntmps87
  go_wp2_with fail
  refine (partReaders _).mono ?_
  rintro e w1 ⟨rfl, hw1⟩
  obtain ⟨hs, q0, q1, q2, q3, hb1⟩ := start4 w (.cells #[.slice (some ⟨Pb, 0, none⟩) 4 4, .int .i64 4, .int .i64 250, .int .i64 4] 125) (.cells zero8 127)
    (.cells #[.slice (some ⟨Pb, 0, none⟩) 4 4, .int .i64 4, .int .i64 250, .int .i64 4, .slice (some ⟨B, off, none⟩) 0 cap, .slice none 0 0, .int .i64 0, .string ⟨#[]⟩] 127) (.map readers 4)
  unfold zero8 at hs q0 q1 q2 q3 hb1
  rw [← hw1] at hs q0 q1 q2 q3 hb1
  have hra : Ra w w1 (w.heap.size + 1 + 1 + 1) Pb (w.heap.size + 1) #[.int .i64 0, .int .i64 0, .int .i64 2, .int .i64 3] zero8 := ⟨q3, (hb1.block Pb hPw).trans (unhide HP), q1, hb1⟩
  have hrd : Rdg w1 (w.heap.size + 1 + 1) (w.heap.size + 1 + 1 + 1 + 1) B (.slice (some ⟨Pb, 0, none⟩) 4 4) 4 250 4 [] [] 0 ⟨#[]⟩ :=
    ⟨_, _, q2, ⟨off, cap, rfl, unhide HC, (unhide HL).same (hb1.block B hB)⟩, ⟨rfl, Or.inl ⟨rfl, rfl⟩⟩⟩
  obtain ⟨c0, c1, c2, c3⟩ := row4v q0
  have HRA := hide hra
  have HRD := hide hrd
  have lk := look_at w1 (w.heap.size + 1 + 1 + 1) readers 4 0 0 (fnV 101) hra.hm rfl
  have kk := kind_cell hra.hp 0 _ rfl
  clear hra hrd hw1 q0 q1 q2 q3 HL HP HC
  go_wp2_with fail
  refine wp_loop_rounds 5 ?_
  rw [rounds_succ]
  go_wp2_with fail
  refine (single_any _ _ B _ 4 250 4 [] _ 0 ⟨#[]⟩ w1 (by omega) (by omega) (by omega) (by omega) (by simp) (unhide HRD)).mono ?_
  rintro e w2 ⟨hof, ⟨_, rfl⟩ | ⟨c, r', hc, _⟩⟩
  case inr => cases hc
  have hra := (unhide HRA).off hof (by omega) (by omega) (by omega) (by omega) (by omega) (by omega) (by omega) (by omega)
  have hE := hra.he
  unfold zero8 at hE
  have hfin := hra.below
  obtain ⟨e0, e1, e2, e3, e4, e5, e6, e7, ef⟩ := rg8 hE
  have f0 := ef 0
  have f1 := ef 1
  have f2 := ef 2
  have f3 := ef 3
  have f4 := ef 4
  have f5 := ef 5
  have f6 := ef 6
  have f7 := ef 7
  have FIN := hide (set8_load hE)
  unfold set8 at FIN
  clear HRA HRD hra ef hE lk kk
  unfold wrong
  go_wp2
  refine bodyPost_ret (v := .tuple #[.agg zero8, wrong 4]) (by simp [results, Tryd.results87, asAddr, unhide FIN, zero8, wrong]) rfl ⟨rfl, ?_⟩
  exact set8_below (E := w.heap.size + 1) hfin (Nat.le_succ _) _ _ _ _ _ _ _ _
set_option maxHeartbeats 4000000 in
theorem pkt_short1 (w : World) (Pb B : Nat) (v : Value) (a : UInt8) (hP : w.heap[Pb]? = some (.cells #[.int .i64 0, .int .i64 0, .int .i64 2, .int .i64 3] 140)) (hB : B < w.heap.size) (hv : Rest w B v [a]) :
    Calls Tryd.prog 87 #[.agg #[.slice (some ⟨Pb, 0, none⟩) 4 4, .int .i64 4, .int .i64 250, .int .i64 4], v] w fun e w' => e = .returned (.tuple #[.agg zero8, wrong 4]) ∧ Below w.heap.size w w' := by
  have hPw : Pb < w.heap.size := (Array.getElem?_eq_some_iff.1 hP).1
  obtain ⟨off, cap, hvf, hcap, hl⟩ := hv
  subst hvf
  have HL := hide hl
  have HP := hide hP
  have HC := hide hcap
  clear hl hP hcap
  go_enter Tryd.func87, Tryd.ntmps87
  go_wp2_with fail
  refine (partReaders _).mono ?_
  rintro e w1 ⟨rfl, hw1⟩
  obtain ⟨hs, q0, q1, q2, q3, hb1⟩ := start4 w (.cells #[.slice (some ⟨Pb, 0, none⟩) 4 4, .int .i64 4, .int .i64 250, .int .i64 4] 125) (.cells zero8 127)
    (.cells #[.slice (some ⟨Pb, 0, none⟩) 4 4, .int .i64 4, .int .i64 250, .int .i64 4, .slice (some ⟨B, off, none⟩) 1 cap, .slice none 0 0, .int .i64 0, .string ⟨#[]⟩] 127) (.map readers 4)
  unfold zero8 at hs q0 q1 q2 q3 hb1
  rw [← hw1] at hs q0 q1 q2 q3 hb1
  have hra : Ra w w1 (w.heap.size + 1 + 1 + 1) Pb (w.heap.size + 1) #[.int .i64 0, .int .i64 0, .int .i64 2, .int .i64 3] zero8 := ⟨q3, (hb1.block Pb hPw).trans (unhide HP), q1, hb1⟩
  have hrd : Rdg w1 (w.heap.size + 1 + 1) (w.heap.size + 1 + 1 + 1 + 1) B (.slice (some ⟨Pb, 0, none⟩) 4 4) 4 250 4 [a] [] 0 ⟨#[]⟩ :=
    ⟨_, _, q2, ⟨off, cap, rfl, unhide HC, (unhide HL).same (hb1.block B hB)⟩, ⟨rfl, Or.inl ⟨rfl, rfl⟩⟩⟩
  obtain ⟨c0, c1, c2, c3⟩ := row4v q0
  have HRA := hide hra
  have HRD := hide hrd
  have lk := look_at w1 (w.heap.size + 1 + 1 + 1) readers 4 0 0 (fnV 101) hra.hm rfl
  have kk := kind_cell hra.hp 0 _ rfl
  clear hra hrd hw1 q0 q1 q2 q3 HL HP HC
  go_wp2_with fail
  refine wp_loop_rounds 5 ?_
  rw [rounds_succ]
  go_wp2_with fail
  refine (single_any _ _ B _ 4 250 4 [a] _ 0 ⟨#[]⟩ w1 (by omega) (by omega) (by omega) (by omega) (by simp) (unhide HRD)).mono ?_
  rintro e w2 ⟨hof, ⟨hn, _⟩ | ⟨c, r', hc, rfl, hrd⟩⟩
  · cases hn
  obtain ⟨rfl, rfl⟩ := List.cons.inj hc
  have hra := (unhide HRA).off hof (by omega) (by omega) (by omega) (by omega) (by omega) (by omega) (by omega) (by omega)
  have hs0 := hof.size
  clear HRA HRD hc lk kk c0 c1 c2 c3 hb1
  have lk := look_at w2 (w.heap.size + 1 + 1 + 1) readers 4 0 0 (fnV 101) hra.hm rfl
  have kk := kind_cell hra.hp 1 _ rfl
  have HRA := hide hra
  have HRD := hide hrd
  clear hra hrd hof
  go_wp2_with fail
  rw [rounds_succ]
  go_wp2_with fail
  refine (single_any _ _ B _ 4 250 4 [] _ 0 ⟨#[]⟩ w2 (by omega) (by omega) (by omega) (by omega) (by simp) (unhide HRD)).mono ?_
  rintro e w3 ⟨hof, ⟨_, rfl⟩ | ⟨c, r', hc, _⟩⟩
  case inr => cases hc
  have hra := (unhide HRA).off hof (by omega) (by omega) (by omega) (by omega) (by omega) (by omega) (by omega) (by omega)
  have hE := hra.he
  unfold zero8 at hE
  have hfin := hra.below
  obtain ⟨e0, e1, e2, e3, e4, e5, e6, e7, ef⟩ := rg8 hE
  have f0 := ef 0
  have f1 := ef 1
  have f2 := ef 2
  have f3 := ef 3
  have f4 := ef 4
  have f5 := ef 5
  have f6 := ef 6
  have f7 := ef 7
  have FIN := hide (set8_load hE)
  unfold set8 at FIN
  clear HRA HRD hra ef hE lk kk
  unfold wrong
  go_wp2
  refine bodyPost_ret (v := .tuple #[.agg zero8, wrong 4]) (by simp [results, Tryd.results87, asAddr, unhide FIN, zero8, wrong]) rfl ⟨rfl, ?_⟩
  exact set8_below (E := w.heap.size + 1) hfin (Nat.le_succ _) _ _ _ _ _ _ _ _
set_option maxHeartbeats 4000000 in
theorem pkt_short2 (w : World) (Pb B : Nat) (v : Value) (a b : UInt8) (hP : w.heap[Pb]? = some (.cells #[.int .i64 0, .int .i64 0, .int .i64 2, .int .i64 3] 140)) (hB : B < w.heap.size) (hv : Rest w B v [a, b]) :
    Calls Tryd.prog 87 #[.agg #[.slice (some ⟨Pb, 0, none⟩) 4 4, .int .i64 4, .int .i64 250, .int .i64 4], v] w fun e w' => e = .returned (.tuple #[.agg zero8, wrong 4]) ∧ Below w.heap.size w w' := by
  have hPw : Pb < w.heap.size := (Array.getElem?_eq_some_iff.1 hP).1
  obtain ⟨off, cap, hvf, hcap, hl⟩ := hv
  subst hvf
  have HL := hide hl
  have HP := hide hP
  have HC := hide hcap
  clear hl hP hcap
  go_enter Tryd.func87, Tryd.ntmps87
  go_wp2_with fail
  refine (partReaders _).mono ?_
  rintro e w1 ⟨rfl, hw1⟩
  obtain ⟨hs, q0, q1, q2, q3, hb1⟩ := start4 w (.cells #[.slice (some ⟨Pb, 0, none⟩) 4 4, .int .i64 4, .int .i64 250, .int .i64 4] 125) (.cells zero8 127)
    (.cells #[.slice (some ⟨Pb, 0, none⟩) 4 4, .int .i64 4, .int .i64 250, .int .i64 4, .slice (some ⟨B, off, none⟩) 2 cap, .slice none 0 0, .int .i64 0, .string ⟨#[]⟩] 127) (.map readers 4)
  unfold zero8 at hs q0 q1 q2 q3 hb1
  rw [← hw1] at hs q0 q1 q2 q3 hb1
  have hra : Ra w w1 (w.heap.size + 1 + 1 + 1) Pb (w.heap.size + 1) #[.int .i64 0, .int .i64 0, .int .i64 2, .int .i64 3] zero8 := ⟨q3, (hb1.block Pb hPw).trans (unhide HP), q1, hb1⟩
  have hrd : Rdg w1 (w.heap.size + 1 + 1) (w.heap.size + 1 + 1 + 1 + 1) B (.slice (some ⟨Pb, 0, none⟩) 4 4) 4 250 4 [a, b] [] 0 ⟨#[]⟩ :=
    ⟨_, _, q2, ⟨off, cap, rfl, unhide HC, (unhide HL).same (hb1.block B hB)⟩, ⟨rfl, Or.inl ⟨rfl, rfl⟩⟩⟩
  obtain ⟨c0, c1, c2, c3⟩ := row4v q0
  have HRA := hide hra
  have HRD := hide hrd
  have lk := look_at w1 (w.heap.size + 1 + 1 + 1) readers 4 0 0 (fnV 101) hra.hm rfl
  have kk := kind_cell hra.hp 0 _ rfl
  clear hra hrd hw1 q0 q1 q2 q3 HL HP HC
  go_wp2_with fail
  refine wp_loop_rounds 5 ?_
  rw [rounds_succ]
  go_wp2_with fail
  refine (single_any _ _ B _ 4 250 4 [a, b] _ 0 ⟨#[]⟩ w1 (by omega) (by omega) (by omega) (by omega) (by simp) (unhide HRD)).mono ?_
  rintro e w2 ⟨hof, ⟨hn, _⟩ | ⟨c, r', hc, rfl, hrd⟩⟩
  · cases hn
  obtain ⟨rfl, rfl⟩ := List.cons.inj hc
  have hra := (unhide HRA).off hof (by omega) (by omega) (by omega) (by omega) (by omega) (by omega) (by omega) (by omega)
  have hs0 := hof.size
  clear HRA HRD hc lk kk c0 c1 c2 c3 hb1
  have lk := look_at w2 (w.heap.size + 1 + 1 + 1) readers 4 0 0 (fnV 101) hra.hm rfl
  have kk := kind_cell hra.hp 1 _ rfl
  have HRA := hide hra
  have HRD := hide hrd
  clear hra hrd hof
  go_wp2_with fail
  rw [rounds_succ]
  go_wp2_with fail
  refine (single_any _ _ B _ 4 250 4 [b] _ 0 ⟨#[]⟩ w2 (by omega) (by omega) (by omega) (by omega) (by simp) (unhide HRD)).mono ?_
  rintro e w3 ⟨hof, ⟨hn, _⟩ | ⟨c, r', hc, rfl, hrd⟩⟩
  · cases hn
  obtain ⟨rfl, rfl⟩ := List.cons.inj hc
  have hra := (unhide HRA).off hof (by omega) (by omega) (by omega) (by omega) (by omega) (by omega) (by omega) (by omega)
  have hs1 := hof.size
  clear HRA HRD hc lk kk
  have lk := look_at w3 (w.heap.size + 1 + 1 + 1) readers 4 2 2 (fnV 103) hra.hm rfl
  have kk := kind_cell hra.hp 2 _ rfl
  have HRA := hide hra
  have HRD := hide hrd
  clear hra hrd hof
  go_wp2_with fail
  rw [rounds_succ]
  go_wp2_with fail
  have C := hide (cnt_short2 _ _ B _ 4 250 4 [] _ 0 ⟨#[]⟩ w3 (by simp) (unhide HRD))
  refine (unhide C).mono ?_
  rintro e w4 ⟨rfl, hnr⟩
  have hra := (unhide HRA).off (hnr.off (N := w.heap.size + 1 + 1 + 1 + 1) (by omega)) (by omega) (by omega) (by omega) (by omega) (by omega) (by omega) (by omega) (by omega)
  clear C hnr
  have hE := hra.he
  unfold zero8 at hE
  have hfin := hra.below
  obtain ⟨e0, e1, e2, e3, e4, e5, e6, e7, ef⟩ := rg8 hE
  have f0 := ef 0
  have f1 := ef 1
  have f2 := ef 2
  have f3 := ef 3
  have f4 := ef 4
  have f5 := ef 5
  have f6 := ef 6
  have f7 := ef 7
  have FIN := hide (set8_load hE)
  unfold set8 at FIN
  clear HRA HRD hra ef hE lk kk
  unfold wrong
  go_wp2
  refine bodyPost_ret (v := .tuple #[.agg zero8, wrong 4]) (by simp [results, Tryd.results87, asAddr, unhide FIN, zero8, wrong]) rfl ⟨rfl, ?_⟩
  exact set8_below (E := w.heap.size + 1) hfin (Nat.le_succ _) _ _ _ _ _ _ _ _
set_option maxHeartbeats 4000000 in
theorem pkt_short3 (w : World) (Pb B : Nat) (v : Value) (a b c2' : UInt8) (hP : w.heap[Pb]? = some (.cells #[.int .i64 0, .int .i64 0, .int .i64 2, .int .i64 3] 140)) (hB : B < w.heap.size) (hv : Rest w B v [a, b, c2']) :
    Calls Tryd.prog 87 #[.agg #[.slice (some ⟨Pb, 0, none⟩) 4 4, .int .i64 4, .int .i64 250, .int .i64 4], v] w fun e w' => e = .returned (.tuple #[.agg zero8, wrong 4]) ∧ Below w.heap.size w w' := by
  have hPw : Pb < w.heap.size := (Array.getElem?_eq_some_iff.1 hP).1
  obtain ⟨off, cap, hvf, hcap, hl⟩ := hv
  subst hvf
  have HL := hide hl
  have HP := hide hP
  have HC := hide hcap
  clear hl hP hcap
  go_enter Tryd.func87, Tryd.ntmps87
  go_wp2_with fail
  refine (partReaders _).mono ?_
  rintro e w1 ⟨rfl, hw1⟩
  obtain ⟨hs, q0, q1, q2, q3, hb1⟩ := start4 w (.cells #[.slice (some ⟨Pb, 0, none⟩) 4 4, .int .i64 4, .int .i64 250, .int .i64 4] 125) (.cells zero8 127)
    (.cells #[.slice (some ⟨Pb, 0, none⟩) 4 4, .int .i64 4, .int .i64 250, .int .i64 4, .slice (some ⟨B, off, none⟩) 3 cap, .slice none 0 0, .int .i64 0, .string ⟨#[]⟩] 127) (.map readers 4)
  unfold zero8 at hs q0 q1 q2 q3 hb1
  rw [← hw1] at hs q0 q1 q2 q3 hb1
  have hra : Ra w w1 (w.heap.size + 1 + 1 + 1) Pb (w.heap.size + 1) #[.int .i64 0, .int .i64 0, .int .i64 2, .int .i64 3] zero8 := ⟨q3, (hb1.block Pb hPw).trans (unhide HP), q1, hb1⟩
  have hrd : Rdg w1 (w.heap.size + 1 + 1) (w.heap.size + 1 + 1 + 1 + 1) B (.slice (some ⟨Pb, 0, none⟩) 4 4) 4 250 4 [a, b, c2'] [] 0 ⟨#[]⟩ :=
    ⟨_, _, q2, ⟨off, cap, rfl, unhide HC, (unhide HL).same (hb1.block B hB)⟩, ⟨rfl, Or.inl ⟨rfl, rfl⟩⟩⟩
  obtain ⟨c0, c1, c2, c3⟩ := row4v q0
  have HRA := hide hra
  have HRD := hide hrd
  have lk := look_at w1 (w.heap.size + 1 + 1 + 1) readers 4 0 0 (fnV 101) hra.hm rfl
  have kk := kind_cell hra.hp 0 _ rfl
  clear hra hrd hw1 q0 q1 q2 q3 HL HP HC
  go_wp2_with fail
  refine wp_loop_rounds 5 ?_
  rw [rounds_succ]
  go_wp2_with fail
  refine (single_any _ _ B _ 4 250 4 [a, b, c2'] _ 0 ⟨#[]⟩ w1 (by omega) (by omega) (by omega) (by omega) (by simp) (unhide HRD)).mono ?_
  rintro e w2 ⟨hof, ⟨hn, _⟩ | ⟨c, r', hc, rfl, hrd⟩⟩
  · cases hn
  obtain ⟨rfl, rfl⟩ := List.cons.inj hc
  have hra := (unhide HRA).off hof (by omega) (by omega) (by omega) (by omega) (by omega) (by omega) (by omega) (by omega)
  have hs0 := hof.size
  clear HRA HRD hc lk kk c0 c1 c2 c3 hb1
  have lk := look_at w2 (w.heap.size + 1 + 1 + 1) readers 4 0 0 (fnV 101) hra.hm rfl
  have kk := kind_cell hra.hp 1 _ rfl
  have HRA := hide hra
  have HRD := hide hrd
  clear hra hrd hof
  go_wp2_with fail
  rw [rounds_succ]
  go_wp2_with fail
  refine (single_any _ _ B _ 4 250 4 [b, c2'] _ 0 ⟨#[]⟩ w2 (by omega) (by omega) (by omega) (by omega) (by simp) (unhide HRD)).mono ?_
  rintro e w3 ⟨hof, ⟨hn, _⟩ | ⟨c, r', hc, rfl, hrd⟩⟩
  · cases hn
  obtain ⟨rfl, rfl⟩ := List.cons.inj hc
  have hra := (unhide HRA).off hof (by omega) (by omega) (by omega) (by omega) (by omega) (by omega) (by omega) (by omega)
  have hs1 := hof.size
  clear HRA HRD hc lk kk
  have lk := look_at w3 (w.heap.size + 1 + 1 + 1) readers 4 2 2 (fnV 103) hra.hm rfl
  have kk := kind_cell hra.hp 2 _ rfl
  have HRA := hide hra
  have HRD := hide hrd
  clear hra hrd hof
  go_wp2_with fail
  rw [rounds_succ]
  go_wp2_with fail
  have C := hide (cnt_short2 _ _ B _ 4 250 4 [c2'] _ 0 ⟨#[]⟩ w3 (by simp) (unhide HRD))
  refine (unhide C).mono ?_
  rintro e w4 ⟨rfl, hnr⟩
  have hra := (unhide HRA).off (hnr.off (N := w.heap.size + 1 + 1 + 1 + 1) (by omega)) (by omega) (by omega) (by omega) (by omega) (by omega) (by omega) (by omega) (by omega)
  clear C hnr
  have hE := hra.he
  unfold zero8 at hE
  have hfin := hra.below
  obtain ⟨e0, e1, e2, e3, e4, e5, e6, e7, ef⟩ := rg8 hE
  have f0 := ef 0
  have f1 := ef 1
  have f2 := ef 2
  have f3 := ef 3
  have f4 := ef 4
  have f5 := ef 5
  have f6 := ef 6
  have f7 := ef 7
  have FIN := hide (set8_load hE)
  unfold set8 at FIN
  clear HRA HRD hra ef hE lk kk
  unfold wrong
  go_wp2
  refine bodyPost_ret (v := .tuple #[.agg zero8, wrong 4]) (by simp [results, Tryd.results87, asAddr, unhide FIN, zero8, wrong]) rfl ⟨rfl, ?_⟩
  exact set8_below (E := w.heap.size + 1) hfin (Nat.le_succ _) _ _ _ _ _ _ _ _
set_option maxHeartbeats 4000000 in
theorem pkt_bad (w : World) (Pb B : Nat) (v : Value) (a b c2' d : UInt8) (r : List UInt8) (hP : w.heap[Pb]? = some (.cells #[.int .i64 0, .int .i64 0, .int .i64 2, .int .i64 3] 140)) (hB : B < w.heap.size) (hv : Rest w B v (a :: b :: c2' :: d :: r)) (hg : bad 4 250 (256 * c2'.toNat + d.toNat) r = true) :
    Calls Tryd.prog 87 #[.agg #[.slice (some ⟨Pb, 0, none⟩) 4 4, .int .i64 4, .int .i64 250, .int .i64 4], v] w fun e w' => e = .returned (.tuple #[.agg zero8, wrong 3]) ∧ Below w.heap.size w w' := by
  have hPw : Pb < w.heap.size := (Array.getElem?_eq_some_iff.1 hP).1
  obtain ⟨off, cap, hvf, hcap, hl⟩ := hv
  subst hvf
  have HL := hide hl
  have HP := hide hP
  have HC := hide hcap
  clear hl hP hcap
  go_enter Tryd.func87, Tryd.ntmps87
  go_wp2_with fail
  refine (partReaders _).mono ?_
  rintro e w1 ⟨rfl, hw1⟩
  obtain ⟨hs, q0, q1, q2, q3, hb1⟩ := start4 w (.cells #[.slice (some ⟨Pb, 0, none⟩) 4 4, .int .i64 4, .int .i64 250, .int .i64 4] 125) (.cells zero8 127)
    (.cells #[.slice (some ⟨Pb, 0, none⟩) 4 4, .int .i64 4, .int .i64 250, .int .i64 4, .slice (some ⟨B, off, none⟩) (r.length + 1 + 1 + 1 + 1) cap, .slice none 0 0, .int .i64 0, .string ⟨#[]⟩] 127) (.map readers 4)
  unfold zero8 at hs q0 q1 q2 q3 hb1
  rw [← hw1] at hs q0 q1 q2 q3 hb1
  have hra : Ra w w1 (w.heap.size + 1 + 1 + 1) Pb (w.heap.size + 1) #[.int .i64 0, .int .i64 0, .int .i64 2, .int .i64 3] zero8 := ⟨q3, (hb1.block Pb hPw).trans (unhide HP), q1, hb1⟩
  have hrd : Rdg w1 (w.heap.size + 1 + 1) (w.heap.size + 1 + 1 + 1 + 1) B (.slice (some ⟨Pb, 0, none⟩) 4 4) 4 250 4 (a :: b :: c2' :: d :: r) [] 0 ⟨#[]⟩ :=
    ⟨_, _, q2, ⟨off, cap, rfl, unhide HC, (unhide HL).same (hb1.block B hB)⟩, ⟨rfl, Or.inl ⟨rfl, rfl⟩⟩⟩
  obtain ⟨c0, c1, c2, c3⟩ := row4v q0
  have HRA := hide hra
  have HRD := hide hrd
  have lk := look_at w1 (w.heap.size + 1 + 1 + 1) readers 4 0 0 (fnV 101) hra.hm rfl
  have kk := kind_cell hra.hp 0 _ rfl
  clear hra hrd hw1 q0 q1 q2 q3 HL HP HC
  go_wp2_with fail
  refine wp_loop_rounds 5 ?_
  rw [rounds_succ]
  go_wp2_with fail
  refine (single_any _ _ B _ 4 250 4 (a :: b :: c2' :: d :: r) _ 0 ⟨#[]⟩ w1 (by omega) (by omega) (by omega) (by omega) (by simp) (unhide HRD)).mono ?_
  rintro e w2 ⟨hof, ⟨hn, _⟩ | ⟨c, r', hc, rfl, hrd⟩⟩
  · cases hn
  obtain ⟨rfl, rfl⟩ := List.cons.inj hc
  have hra := (unhide HRA).off hof (by omega) (by omega) (by omega) (by omega) (by omega) (by omega) (by omega) (by omega)
  have hs0 := hof.size
  clear HRA HRD hc lk kk c0 c1 c2 c3 hb1
  have lk := look_at w2 (w.heap.size + 1 + 1 + 1) readers 4 0 0 (fnV 101) hra.hm rfl
  have kk := kind_cell hra.hp 1 _ rfl
  have HRA := hide hra
  have HRD := hide hrd
  clear hra hrd hof
  go_wp2_with fail
  rw [rounds_succ]
  go_wp2_with fail
  refine (single_any _ _ B _ 4 250 4 (b :: c2' :: d :: r) _ 0 ⟨#[]⟩ w2 (by omega) (by omega) (by omega) (by omega) (by simp) (unhide HRD)).mono ?_
  rintro e w3 ⟨hof, ⟨hn, _⟩ | ⟨c, r', hc, rfl, hrd⟩⟩
  · cases hn
  obtain ⟨rfl, rfl⟩ := List.cons.inj hc
  have hra := (unhide HRA).off hof (by omega) (by omega) (by omega) (by omega) (by omega) (by omega) (by omega) (by omega)
  have hs1 := hof.size
  clear HRA HRD hc lk kk
  have lk := look_at w3 (w.heap.size + 1 + 1 + 1) readers 4 2 2 (fnV 103) hra.hm rfl
  have kk := kind_cell hra.hp 2 _ rfl
  have HRA := hide hra
  have HRD := hide hrd
  clear hra hrd hof
  go_wp2_with fail
  rw [rounds_succ]
  go_wp2_with fail
  have C := hide (cnt_any2 _ _ B _ 4 250 4 (c2' :: d :: r) _ 0 ⟨#[]⟩ w3 (by omega) (by omega) (by omega) (by omega) (by omega) (by simp) (unhide HRD))
  rw [show numOf (List.take 2 (c2' :: d :: r)) = 256 * c2'.toNat + d.toNat by simp [numOf], show List.drop 2 (c2' :: d :: r) = r from rfl, hg, if_pos rfl] at C
  refine (unhide C).mono ?_
  rintro e w4 ⟨rfl, hnr, hrd⟩
  have hra := (unhide HRA).off (hnr.off (N := w.heap.size + 1 + 1 + 1 + 1) (by omega)) (by omega) (by omega) (by omega) (by omega) (by omega) (by omega) (by omega) (by omega)
  clear C hnr hrd
  have hE := hra.he
  unfold zero8 at hE
  have hfin := hra.below
  obtain ⟨e0, e1, e2, e3, e4, e5, e6, e7, ef⟩ := rg8 hE
  have f0 := ef 0
  have f1 := ef 1
  have f2 := ef 2
  have f3 := ef 3
  have f4 := ef 4
  have f5 := ef 5
  have f6 := ef 6
  have f7 := ef 7
  have FIN := hide (set8_load hE)
  unfold set8 at FIN
  clear HRA HRD hra ef hE lk kk
  unfold wrong
  go_wp2
  refine bodyPost_ret (v := .tuple #[.agg zero8, wrong 3]) (by simp [results, Tryd.results87, asAddr, unhide FIN, zero8, wrong]) rfl ⟨rfl, ?_⟩
  exact set8_below (E := w.heap.size + 1) hfin (Nat.le_succ _) _ _ _ _ _ _ _ _
end Go.Proofs.YtgelbobocjgdaaaDoor
