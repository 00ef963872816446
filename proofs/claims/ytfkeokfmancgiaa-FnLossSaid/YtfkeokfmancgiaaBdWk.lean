/- The program's workOnBundle: the bundle that came, laid out for work; memory that was there stands. -/
import Derived.Test.YtfkeokfmancgiaaBdH
namespace Go.Proofs.Ytfkeokfmancgiaa
open Go.RowKit
theorem new2w (w : World) (o1 o2 : Obj) : ((w.alloc o1).alloc o2).heap[w.heap.size]? = some o1 ∧ ((w.alloc o1).alloc o2).heap[w.heap.size + 1]? = some o2 ∧ Below w.heap.size w ((w.alloc o1).alloc o2) ∧ ((w.alloc o1).alloc o2).heap.size = w.heap.size + 2 := by
  have hs : (w.alloc o1).heap.size = w.heap.size + 1 := by simp
  refine ⟨(Below.heap_alloc _ _ _ (by omega)).trans (heap_alloc_new w o1), ?_, ((Below.refl _ w).alloc (Nat.le_refl _) o1).alloc (by omega) o2, by simp⟩
  rw [← hs]
  exact heap_alloc_new _ o2
set_option maxHeartbeats 8000000 in
set_option maxRecDepth 100000 in
theorem iWorkB (w : World) (L : List Int) (F : List Fg) (ax ay : Option Addr) (cx cy : Nat) (hL : HoldsI w (.slice ax L.length cx) L) (hF : HoldsF w (.slice ay F.length cy) F) (h0 : 0 < L.length) (hl : L.length ≤ 1000) (hr : Ris F) (hlen : F.length ≤ 40) (hok : ∀ f ∈ F, fgOk f = true) :
    Calls Try.prog 43 #[.agg #[.slice ax L.length cx, .slice ay F.length cy]] w fun e w' => ∃ B M lv, e = .returned (.pointer (some ⟨B, 0, none⟩)) ∧ Bw w B M F.length lv (.slice none 0 0) F 0 w' ∧ w'.ownsRow w.heap.size 2 1 lv L.length (icells L) := by
  have hA := heap_alloc_new w (.cells #[.slice ax L.length cx, .slice ay F.length cy] 29)
  have hbA := (Below.refl w.heap.size w).alloc (Nat.le_refl _) (.cells #[.slice ax L.length cx, .slice ay F.length cy] 29)
  have c0 : (w.alloc (.cells #[.slice ax L.length cx, .slice ay F.length cy] 29)).cell? ⟨w.heap.size, 0, none⟩ = some (.slice ax L.length cx) := by rw [cell_of_row _ _ _ _ _ _ hA]; rfl
  have c1 : (w.alloc (.cells #[.slice ax L.length cx, .slice ay F.length cy] 29)).cell? ⟨w.heap.size, 1, none⟩ = some (.slice ay F.length cy) := by rw [cell_of_row _ _ _ _ _ _ hA]; rfl
  have C := iCloneB _ L ax cx (hL.below hbA rfl) h0 hl
  have HF := hide fun (z : World) (h : Below w.heap.size w z) => hF.below h
  have H0 := hide (And.intro hA hbA)
  clear hA hbA hL hF
  go_enter Try.func43, Try.ntmps43
  go_wp2_with fail
  refine C.mono ?_
  rintro e w1 ⟨lv, rfl, ho1, hb1⟩
  obtain ⟨la, lc, rfl⟩ := own_form ho1
  have hA1 := (hb1.block _ (Array.getElem?_eq_some_iff.1 (unhide H0).1).1).trans (unhide H0).1
  have H1 := hide (And.intro hA1 (And.intro ((unhide H0).2.trans (hb1.mono (unhide H0).2.size)) ho1))
  have hmk : (Instr.makeMap 67 none).run Try.prog w1 = .ok (.map (some w1.heap.size)) (w1.alloc (.map #[] 0)) := by first | rfl | exact run_makeMap _ _ | (simp [Instr.makeMap, run_underlying Try.underlying67])
  clear c0 c1 hA1 hb1 ho1 H0 C
  go_upto_region 2 with fail
  obtain ⟨hM0, hB0, hbN, hsN⟩ := new2w w1 (.map #[] 0) (.cells #[.slice la L.length lc, .map (some w1.heap.size), .slice none 0 0, .int .i64 0] 69)
  refine gen_world (fun z => (z.heap[w.heap.size]? = some (.cells #[.slice ax L.length cx, .slice ay F.length cy] 29) ∧ z.ownsRow w.heap.size 2 1 (.slice la L.length lc) L.length (icells L)) ∧ Bw w (w1.heap.size + 1) w1.heap.size 0 (.slice la L.length lc) (.slice none 0 0) [] 0 z) ?_ ?_
  · obtain ⟨k1, k3, k4⟩ := unhide H1
    have hs1 : (w.alloc (.cells #[.slice ax L.length cx, .slice ay F.length cy] 29)).heap.size = w.heap.size + 1 := by simp
    refine ⟨⟨(hbN.block _ (Array.getElem?_eq_some_iff.1 k1).1).trans k1, ⟨k4.1, k4.2.imp id fun ⟨g, cap, cur, e1, e2, e3, e4⟩ => ⟨g, cap, cur, e1, by omega, (hbN.block g (Array.getElem?_eq_some_iff.1 e3).1).trans e3, e4⟩⟩⟩, ⟨hB0, ?_, List.Pairwise.nil, by have := k3.size; omega, k3.size, k3.trans (hbN.mono k3.size)⟩⟩
    exact (World.ownsMap_made w1 Try.prog 2 frR).alloc _
  intro q0 hq0
  have c1 : q0.cell? ⟨w.heap.size, 1, none⟩ = some (.slice ay F.length cy) := by rw [cell_of_row _ _ _ _ _ _ hq0.1.1]; rfl
  have H2 := hide hq0
  generalize w1.heap.size + 1 = B at *
  generalize w1.heap.size = M at *
  clear hq0 H1 hmk hM0 hB0 hbN hsN
  go_upto_region 3 with fail
  go_loopg [15] F.length (fun g y wr => ∃ i : Nat, y = .int .i64 (i : Nat) ∧ i + g = F.length ∧ wr.ownsRow w.heap.size 2 1 (.slice la L.length lc) L.length (icells L) ∧ Bw w B M i (.slice la L.length lc) (.slice none 0 0) (F.take i) 0 wr)
  case atStart => exact ⟨0, rfl, Nat.zero_add _, (unhide H2).1.2, by simpa using (unhide H2).2⟩
  case round =>
    obtain ⟨i, rfl, hig, hO, hb⟩ := hrel
    by_cases hlt : i < F.length
    · have e1 : (i : Int) < (F.length : Int) := by omega
      obtain ⟨g, o, cp', ev, _, d0, d1, d2, d3⟩ := (unhide HF wr hb.b).2 i hlt
      injection ev with ev ev1 ev2
      clear ev1 ev2
      subst ev
      have hfi := hok F[i] (List.getElem_mem hlt)
      have htk : F.take (i + 1) = putP (F.take i) F[i] := by
        have e : F = F.take i ++ F[i] :: F.drop (i + 1) := by rw [← List.drop_eq_getElem_cons hlt, List.take_append_drop]
        have h2 := hr
        unfold Ris at h2
        rw [e, List.pairwise_append] at h2
        rw [putP_end (fun g hg => h2.2.2 g hg F[i] List.mem_cons_self), List.take_succ_eq_append_getElem hlt]
      generalize F[i] = fr at d0 d1 d2 d3 hfi htk
      obtain ⟨s1, s2, s3, s4⟩ := fr
      dsimp only at d0 d1 d2 d3
      have hbA := (Below.refl wr.heap.size wr).alloc (Nat.le_refl _) (.cells #[.int .i64 s1, .bool s2, .bool s3, .string s4] 33)
      have hA := heap_alloc_new wr (.cells #[.int .i64 s1, .bool s2, .bool s3, .string s4] 33)
      have C := iPutB w _ B M i (.slice la L.length lc) (.slice none 0 0) (F.take i) 0 ⟨s1, s2, s3, s4⟩ (hb.step hbA) (by omega) hfi
      obtain ⟨n0, n1, n2, n3⟩ := row4g hA
      have H3 := hide (And.intro hO (And.intro hb hbA))
      unfold fgV at C
      dsimp only at C
      clear hO hb hbA hA H2 c1
      go_wp2_with fail
      refine C.mono ?_
      rintro e w2 ⟨rfl, hB2, hg2⟩
      have H4 := hide (And.intro hB2 hg2)
      clear hB2 hg2 C n0 n1 n2 n3 d0 d1 d2 d3
      go_wp2_with fail
      go_roundg (gk - 1)
      case measure => omega
      case rel =>
        obtain ⟨k2, k3, k4⟩ := unhide H3
        obtain ⟨m1, m2⟩ := unhide H4
        have k5 := k3.step k4
        refine ⟨i + 1, by push_cast; rfl, by omega, ⟨k2.1, k2.2.imp id fun ⟨g, cap, cur, e1, e2, e3, e4⟩ => ⟨g, cap, cur, e1, e2, ?_, e4⟩⟩, by rw [htk]; exact m1⟩
        have e5 := (k4.block g (Array.getElem?_eq_some_iff.1 e3).1).trans e3
        exact (m2.block g (Array.getElem?_eq_some_iff.1 e5).1 (fun e => k5.ne e5 (Option.some.inj e))).trans e5
    · have e1 : ¬ ((i : Int) < (F.length : Int)) := by omega
      have ei : i = F.length := by omega
      subst ei
      have H3 := hide (And.intro hO hb)
      clear hO hb H2 c1
      go_wp2_with fail
      go_ret
      have h3 := (unhide H3).2
      rw [List.take_length] at h3
      first
        | exact ⟨B, rfl, M, _, h3, (unhide H3).1⟩
        | exact ⟨B, M, _, rfl, h3, (unhide H3).1⟩
end Go.Proofs.Ytfkeokfmancgiaa
