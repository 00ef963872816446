/- The draw of a Deframer: its text has at most 306 bytes; what lay in memory stands; under a word of the model's Deframe that is a premise here. -/
import Derived.Test.YtillpfcldehfdaaDoorDrawDf
import Derived.Test.YtillpfcldehfdaaDoorTable
namespace Go.Proofs.YtillpfcldehfdaaDoor
open Go.RowKit
theorem put6_block {W : World} {B : Nat} {x0 x1 x2 x3 x4 x5 : Value} {T : TypeId} (h : W.heap[B]? = some (.cells #[x0, x1, x2, x3, x4, x5] T)) (y0 y1 y2 y3 y4 y5 : Value) :
    ((((((W.setCell ⟨B, 0, none⟩ y0).setCell ⟨B, 1, none⟩ y1).setCell ⟨B, 2, none⟩ y2).setCell ⟨B, 3, none⟩ y3).setCell ⟨B, 4, none⟩ y4).setCell ⟨B, 5, none⟩ y5).heap[B]? = some (.cells #[y0, y1, y2, y3, y4, y5] T) := by
  have h0 : (W.setCell ⟨B, 0, none⟩ y0).heap[B]? = some (.cells #[y0, x1, x2, x3, x4, x5] T) := heap_setCell_same _ _ 0 _ _ _ h
  have h1 : ((W.setCell ⟨B, 0, none⟩ y0).setCell ⟨B, 1, none⟩ y1).heap[B]? = some (.cells #[y0, y1, x2, x3, x4, x5] T) := heap_setCell_same _ _ 1 _ _ _ h0
  have h2 : (((W.setCell ⟨B, 0, none⟩ y0).setCell ⟨B, 1, none⟩ y1).setCell ⟨B, 2, none⟩ y2).heap[B]? = some (.cells #[y0, y1, y2, x3, x4, x5] T) := heap_setCell_same _ _ 2 _ _ _ h1
  have h3 : ((((W.setCell ⟨B, 0, none⟩ y0).setCell ⟨B, 1, none⟩ y1).setCell ⟨B, 2, none⟩ y2).setCell ⟨B, 3, none⟩ y3).heap[B]? = some (.cells #[y0, y1, y2, y3, x4, x5] T) := heap_setCell_same _ _ 3 _ _ _ h2
  have h4 : (((((W.setCell ⟨B, 0, none⟩ y0).setCell ⟨B, 1, none⟩ y1).setCell ⟨B, 2, none⟩ y2).setCell ⟨B, 3, none⟩ y3).setCell ⟨B, 4, none⟩ y4).heap[B]? = some (.cells #[y0, y1, y2, y3, y4, x5] T) := heap_setCell_same _ _ 4 _ _ _ h3
  have h5 : ((((((W.setCell ⟨B, 0, none⟩ y0).setCell ⟨B, 1, none⟩ y1).setCell ⟨B, 2, none⟩ y2).setCell ⟨B, 3, none⟩ y3).setCell ⟨B, 4, none⟩ y4).setCell ⟨B, 5, none⟩ y5).heap[B]? = some (.cells #[y0, y1, y2, y3, y4, y5] T) := heap_setCell_same _ _ 5 _ _ _ h4
  exact h5
theorem put6_other {W : World} {B g : Nat} (hg : g ≠ B) (y0 y1 y2 y3 y4 y5 : Value) : ((((((W.setCell ⟨B, 0, none⟩ y0).setCell ⟨B, 1, none⟩ y1).setCell ⟨B, 2, none⟩ y2).setCell ⟨B, 3, none⟩ y3).setCell ⟨B, 4, none⟩ y4).setCell ⟨B, 5, none⟩ y5).heap[g]? = W.heap[g]? := by
  rw [Below.heap_setCell _ _ _ _ hg, Below.heap_setCell _ _ _ _ hg, Below.heap_setCell _ _ _ _ hg, Below.heap_setCell _ _ _ _ hg, Below.heap_setCell _ _ _ _ hg, Below.heap_setCell _ _ _ _ hg]
theorem put6_nigh {w W : World} {B d : Nat} (h : Nigh B w W) (hd : w.heap.size ≤ d) (y0 y1 y2 y3 y4 y5 : Value) : Nigh B w ((((((W.setCell ⟨d, 0, none⟩ y0).setCell ⟨d, 1, none⟩ y1).setCell ⟨d, 2, none⟩ y2).setCell ⟨d, 3, none⟩ y3).setCell ⟨d, 4, none⟩ y4).setCell ⟨d, 5, none⟩ y5) :=
  ((((((h.setCell ⟨d, 0, none⟩ y0 hd).setCell ⟨d, 1, none⟩ y1 hd).setCell ⟨d, 2, none⟩ y2 hd).setCell ⟨d, 3, none⟩ y3 hd).setCell ⟨d, 4, none⟩ y4 hd).setCell ⟨d, 5, none⟩ y5 hd)
theorem put6_load {W : World} {B : Nat} {x0 x1 x2 x3 x4 x5 : Value} (h : W.heap[B]? = some (.cells #[x0, x1, x2, x3, x4, x5] 38)) (y0 y1 y2 y3 y4 y5 : Value) :
    (loadVar 38 ⟨B, 0, none⟩).run Tryd.prog ((((((W.setCell ⟨B, 0, none⟩ y0).setCell ⟨B, 1, none⟩ y1).setCell ⟨B, 2, none⟩ y2).setCell ⟨B, 3, none⟩ y3).setCell ⟨B, 4, none⟩ y4).setCell ⟨B, 5, none⟩ y5) = .ok (.agg #[y0, y1, y2, y3, y4, y5]) ((((((W.setCell ⟨B, 0, none⟩ y0).setCell ⟨B, 1, none⟩ y1).setCell ⟨B, 2, none⟩ y2).setCell ⟨B, 3, none⟩ y3).setCell ⟨B, 4, none⟩ y4).setCell ⟨B, 5, none⟩ y5) :=
  run_loadVar_row (P := Tryd.prog) _ _ 38 38 #[y0, y1, y2, y3, y4, y5] (0, 0) _ (put6_block h _ _ _ _ _ _) Tryd.underlying38 rfl infoD6
/-- A Deframer lies at d, its text short; the zero one at R; the drawer stands. -/
def DfSt (w : World) (B d k : Nat) (sl : Value) (n : Nat) (wx : World) : Prop :=
  ∃ (wd : Bool) (y : Int) (i s l : Bool) (u : ByteArray), wx.heap[d]? = some (.cells #[.bool wd, .int .i64 y, .bool i, .bool s, .bool l, .string u] 38) ∧ u.size ≤ k ∧ wx.heap[w.heap.size]? = some (.cells #[.bool false, .int .i64 0, .bool false, .bool false, .bool false, .string ⟨#[]⟩] 38) ∧ Src wx B sl n ∧ Nigh B w wx
theorem DfSt.put {w W : World} {B d k n : Nat} {sl : Value} (wd : Bool) (y : Int) (i s l : Bool) (u : ByteArray) {x0 x1 x2 x3 x4 x5 : Value} (hd : W.heap[d]? = some (.cells #[x0, x1, x2, x3, x4, x5] 38)) (hu : u.size ≤ k) (hR : W.heap[w.heap.size]? = some (.cells #[.bool false, .int .i64 0, .bool false, .bool false, .bool false, .string ⟨#[]⟩] 38))
    (hS : Src W B sl n) (hb : Nigh B w W) (h1 : B < d) (h2 : w.heap.size < d) :
    DfSt w B d k sl n ((((((W.setCell ⟨d, 0, none⟩ (.bool wd)).setCell ⟨d, 1, none⟩ (.int .i64 y)).setCell ⟨d, 2, none⟩ (.bool i)).setCell ⟨d, 3, none⟩ (.bool s)).setCell ⟨d, 4, none⟩ (.bool l)).setCell ⟨d, 5, none⟩ (.string u)) :=
  ⟨wd, y, i, s, l, u, put6_block hd _ _ _ _ _ _, hu, (put6_other (by omega) _ _ _ _ _ _).trans hR, hS.same (put6_other (by omega) _ _ _ _ _ _), put6_nigh hb (by omega) _ _ _ _ _ _⟩
theorem DfSt.one {w W : World} {B d k n : Nat} {sl x : Value} (o : Nat) (wd : Bool) (y : Int) (i s l : Bool) (u : ByteArray) {x0 x1 x2 x3 x4 x5 : Value} (hd : W.heap[d]? = some (.cells #[x0, x1, x2, x3, x4, x5] 38))
    (he : (#[x0, x1, x2, x3, x4, x5] : Array Value).setIfInBounds o x = #[.bool wd, .int .i64 y, .bool i, .bool s, .bool l, .string u]) (hu : u.size ≤ k) (hR : W.heap[w.heap.size]? = some (.cells #[.bool false, .int .i64 0, .bool false, .bool false, .bool false, .string ⟨#[]⟩] 38))
    (hS : Src W B sl n) (hb : Nigh B w W) (h1 : B < d) (h2 : w.heap.size < d) : DfSt w B d k sl n (W.setCell ⟨d, o, none⟩ x) :=
  ⟨wd, y, i, s, l, u, (heap_setCell_same W d o _ _ x hd).trans (by rw [he]), hu, (Below.heap_setCell _ _ _ _ (by show w.heap.size ≠ d; omega)).trans hR, hS.same (Below.heap_setCell _ _ _ _ (by show B ≠ d; omega)), hb.setCell _ _ (by show w.heap.size ≤ d; omega)⟩
set_option maxHeartbeats 4000000 in
set_option maxRecDepth 100000 in
theorem src_dfr (CD : DefrWord) (w : World) (B : Nat) (sl : Value) (n : Nat) (hn : n ≤ maxLen) (hS : Src w B sl n) (hD : Dat w B sl n) :
    Calls Tryd.prog 60 #[.pointer (some ⟨B, 0, none⟩)] w fun e w' => ∃ (wd : Bool) (y : Int) (i s l : Bool) (u : ByteArray), e = .returned (.agg #[.bool wd, .int .i64 y, .bool i, .bool s, .bool l, .string u]) ∧ u.size ≤ 306 ∧ Src w' B sl n ∧ Nigh B w w' := by
  have HD := hide hD
  have HCD := hide CD
  have hBw := hS.lt
  have HS := hide (hS.same (Below.heap_alloc w (.cells #[.bool false, .int .i64 0, .bool false, .bool false, .bool false, .string ⟨#[]⟩] 38) _ hBw))
  have HB := hide ((Nigh.refl B w).alloc (.cells #[.bool false, .int .i64 0, .bool false, .bool false, .bool false, .string ⟨#[]⟩] 38))
  clear hS hD CD
  go_enter Tryd.func60, Tryd.ntmps60
  go_wp2_with fail
  refine (src_one _ B sl n 2 (by decide) hn (unhide HS) ((unhide HD).below ((unhide HB).below (by omega)))).mono ?_
  rintro e w1 ⟨b, rfl, hS1, ht1⟩
  have hR1 : w1.heap[w.heap.size]? = some (.cells #[.bool false, .int .i64 0, .bool false, .bool false, .bool false, .string ⟨#[]⟩] 38) := (ht1.block w.heap.size (by omega)).trans (heap_alloc_last w _)
  have hb1 := (unhide HB).trans (Nigh.of_touch ht1)
  have hlt1 := hS1.lt
  have hwl : w.heap.size < w1.heap.size := (Array.getElem?_eq_some_iff.1 hR1).1
  have HS1 := hide hS1
  have HR1 := hide hR1
  clear hS1 ht1 hR1 HS HB
  go_wp2_with fail
  refine (src_n _ B sl n 3 (by decide) hn ((unhide HS1).same (Below.heap_alloc _ _ _ hlt1)) ((unhide HD).below ((hb1.alloc _).below (by omega)))).mono ?_
  rintro e w2 ⟨r, rfl, hr, hS2, ht2⟩
  have hr2 : r < 3 := by omega
  obtain ⟨x, hx, hx1, hx2⟩ := lit_cell ((ht2.block w1.heap.size (by omega)).trans (heap_alloc_last w1 _)) (by decide) r (by simpa using hr2)
  have hb2 : Nigh B w w2 := (hb1.alloc _).trans (Nigh.of_touch ht2)
  have hR2 : w2.heap[w.heap.size]? = _ := (ht2.block w.heap.size (by omega)).trans ((Below.heap_alloc _ _ _ hwl).trans (unhide HR1))
  have hlt2 := hS2.lt
  have hwl2 : w.heap.size < w2.heap.size := (Array.getElem?_eq_some_iff.1 hR2).1
  have HS2 := hide hS2
  have HR2 := hide hR2
  clear hS2 ht2 hr hR2 HR1 HS1 hwl
  go_upto_region 2 with fail
  refine gen_world (fun v => v.heap[w2.heap.size]? = some (.cells #[.bool b, .int .i64 x, .bool false, .bool false, .bool false, .string ⟨#[]⟩] 38) ∧ v.heap[w.heap.size]? = some (.cells #[.bool false, .int .i64 0, .bool false, .bool false, .bool false, .string ⟨#[]⟩] 38) ∧ Src v B sl n ∧ Nigh B w v) ⟨heap_alloc_last w2 _, (Below.heap_alloc _ _ _ hwl2).trans (unhide HR2), (unhide HS2).same (Below.heap_alloc _ _ _ hlt2), hb2.alloc _⟩ ?_
  rintro v ⟨hdv, hRv, hSv, hbv⟩
  generalize w2.heap.size = d at *
  have hdB : B < d := by omega
  have hdR : w.heap.size < d := by omega
  clear hx HS2 HR2 hb2 hb1
  go_cut [] (fun wx => DfSt w B d 304 sl n wx)
  case first =>
    obtain ⟨k0, k1, k2, k3, k4, k5⟩ := row6d hdv
    have hdl : d < v.heap.size := (Array.getElem?_eq_some_iff.1 hdv).1
    have HV := hide (And.intro hdv (And.intro hRv (And.intro hSv hbv)))
    clear hdv hRv hSv hbv
    go_region_with (first
      | (go_at_call 42
         refine (src_n v.drew B sl n 12 (by decide) hn ((unhide HV).2.2.1.same rfl) ((unhide HD).below (((unhide HV).2.2.2.below (by omega)).drew))).mono ?_
         rintro e w3 ⟨q, rfl, hq, hS3, ht3⟩
         have hd3 := (ht3.block d (by omega)).trans (unhide HV).1
         have hR3 := (ht3.block w.heap.size (by omega)).trans (unhide HV).2.1
         have hb3 : Nigh B w w3 := (unhide HV).2.2.2.trans (Nigh.of_touch ⟨ht3.os, ht3.tape, ht3.output, ht3.size, ht3.block⟩)
         obtain ⟨j0, j1, j2, j3, j4, j5⟩ := row6d hd3
         have HV3 := hide (And.intro hd3 (And.intro hR3 (And.intro hS3 hb3)))
         have hdl3 : d < w3.heap.size := (Array.getElem?_eq_some_iff.1 hd3).1
         clear hd3 hR3 hS3 hb3 ht3)
      | (go_at_call 52
         refine (src_odd_n w3 B sl n q (by omega) hn (unhide HV3).2.2.1 ((unhide HD).below ((unhide HV3).2.2.2.below (by omega)))).mono ?_
         rintro e w4 ⟨tt, rfl, htt, hS4, hb4⟩
         have hd4 := (hb4.block d hdl3 (by omega)).trans (unhide HV3).1
         have hR4 := (hb4.block w.heap.size (by omega) (by omega)).trans (unhide HV3).2.1
         have hb5 := (unhide HV3).2.2.2.trans hb4
         obtain ⟨m0, m1, m2, m3, m4, m5⟩ := row6d hd4
         have HV4 := hide (And.intro hd4 (And.intro hR4 (And.intro hS4 hb5)))
         have hdl4 : d < w4.heap.size := (Array.getElem?_eq_some_iff.1 hd4).1
         have htt8 : tt.size ≤ 8000 := by omega
         clear hd4 hR4 hS4 hb4 hb5)
      | (go_at_call 23
         refine (unhide HCD b x tt w4 htt8).mono ?_
         rintro e w5 ⟨wd, y, ii, ss, ll, u, ad, nn, cp, code, rfl, hu5, hb5⟩
         have hfl := fun W => field_dfr (.bool wd) (.int .i64 y) (.bool ii) (.bool ss) (.bool ll) (.string u) (.slice ad nn cp) (.int .i64 code) W
         have hd5 := (hb5.block d hdl4).trans (unhide HV4).1
         have hR5 := (hb5.block w.heap.size (by omega)).trans (unhide HV4).2.1
         have hS5 := (unhide HV4).2.2.1.same (hb5.block B (by omega))
         have hn5 := (unhide HV4).2.2.2.trans (Nigh.of_below hb5)
         obtain ⟨n0, n1, n2, n3, n4, n5⟩ := row6d hd5
         obtain ⟨g0, g1, g2, g3, g4, g5⟩ := row6e hd5
         have HV5 := hide (And.intro hd5 (And.intro hR5 (And.intro hS5 hn5)))
         clear hd5 hR5 hS5 hn5 hb5))
    all_goals
      go_wp2_with fail
      go_meet
      exact DfSt.put wd y ii ss ll u (unhide HV5).1 hu5 (unhide HV5).2.1 (unhide HV5).2.2.1 (unhide HV5).2.2.2 hdB hdR
  case rest =>
    clear hdv hRv hSv hbv v
    obtain ⟨wd, y, ii, ss, ll, u, hd3, hu3, hR3, hS3, hb3⟩ := hcut
    have HV := hide (And.intro hd3 (And.intro hR3 (And.intro hS3 hb3)))
    clear hd3 hR3 hS3 hb3
    go_wp2_with fail
    refine (src_one _ B sl n 20 (by decide) hn (unhide HV).2.2.1 ((unhide HD).below ((unhide HV).2.2.2.below (by omega)))).mono ?_
    rintro e w4 ⟨q, rfl, hS4, ht4⟩
    have hd4 := (ht4.block d (by omega)).trans (unhide HV).1
    have hR4 := (ht4.block w.heap.size (by omega)).trans (unhide HV).2.1
    have hb4 : Nigh B w w4 := (unhide HV).2.2.2.trans (Nigh.of_touch ht4)
    have HV4 := hide (And.intro hd4 (And.intro hR4 (And.intro hS4 hb4)))
    clear hd4 hR4 hS4 hb4 ht4 HV
    go_upto_if 20 with fail
    go_cut [] (fun wy => DfSt w B d 306 sl n wy)
    case first =>
      cases q
      · go_wp2_with fail
        go_meet
        exact ⟨wd, y, ii, ss, ll, u, (unhide HV4).1, by omega, (unhide HV4).2.1, (unhide HV4).2.2.1, (unhide HV4).2.2.2⟩
      · go_wp2_with fail
        refine (src_n w4 B sl n 4 (by decide) hn (unhide HV4).2.2.1 ((unhide HD).below ((unhide HV4).2.2.2.below (by omega)))).mono ?_
        rintro e w5 ⟨k, rfl, hk, hS5, ht5⟩
        have hd5 := (ht5.block d (by omega)).trans (unhide HV4).1
        have hR5 := (ht5.block w.heap.size (by omega)).trans (unhide HV4).2.1
        have hb5 : Nigh B w w5 := (unhide HV4).2.2.2.trans (Nigh.of_touch ht5)
        have hk4 : k = 0 ∨ k = 1 ∨ k = 2 ∨ k = 3 := by omega
        have HV5 := hide (And.intro hd5 (And.intro hR5 (And.intro hS5 hb5)))
        clear hd5 hR5 hS5 hb5 ht5 HV4 hk
        rcases hk4 with rfl | rfl | rfl | rfl
        · go_wp2_with fail
          refine (src_accm_n w5 B sl n hn (unhide HV5).2.2.1 ((unhide HD).below ((unhide HV5).2.2.2.below (by omega)))).mono ?_
          rintro e w6 ⟨x6, rfl, _, _, hS6, hb6⟩
          have hl5 : d < w5.heap.size := (Array.getElem?_eq_some_iff.1 (unhide HV5).1).1
          have hd6 := (hb6.block d hl5 (by omega)).trans (unhide HV5).1
          have hR6 := (hb6.block w.heap.size (by omega) (by omega)).trans (unhide HV5).2.1
          have HX := hide (DfSt.one (k := 306) (x := .int .i64 x6) 1 wd x6 ii ss ll u hd6 rfl (by omega) hR6 hS6 ((unhide HV5).2.2.2.trans hb6) hdB hdR)
          obtain ⟨c0, c1, c2, c3, c4, c5⟩ := row6d hd6
          obtain ⟨f0, f1, f2, f3, f4, f5⟩ := row6e hd6
          clear hS6 hb6 hd6 hR6 HV5
          go_wp2_with fail
          go_meet
          exact unhide HX
        · have hd6 := (unhide HV5).1
          have HX := hide (DfSt.one (k := 306) (x := .string (u ++ ⟨#[120]⟩)) 5 wd y ii ss ll (u ++ ⟨#[120]⟩) hd6 rfl (by rw [ByteArray.size_append]; show u.size + 1 ≤ 306; omega) (unhide HV5).2.1 (unhide HV5).2.2.1 (unhide HV5).2.2.2 hdB hdR)
          obtain ⟨c0, c1, c2, c3, c4, c5⟩ := row6d hd6
          obtain ⟨f0, f1, f2, f3, f4, f5⟩ := row6e hd6
          have g3 : ¬ (9223372036854775807 < u.size + (⟨#[120]⟩ : ByteArray).size) := by show ¬ (9223372036854775807 < u.size + 1); omega
          have g5 : ¬ (9223372036854775807 < u.size + 1) := by omega
          clear hd6 HV5
          go_wp2_with fail
          go_meet
          exact unhide HX
        · have hd6 := (unhide HV5).1
          have HX := hide (DfSt.one (k := 306) (x := .bool (!ss)) 3 wd y ii (!ss) ll u hd6 rfl (by omega) (unhide HV5).2.1 (unhide HV5).2.2.1 (unhide HV5).2.2.2 hdB hdR)
          obtain ⟨c0, c1, c2, c3, c4, c5⟩ := row6d hd6
          obtain ⟨f0, f1, f2, f3, f4, f5⟩ := row6e hd6
          clear hd6 HV5
          go_wp2_with fail
          go_meet
          exact unhide HX
        · obtain ⟨ui, hi1, hi2, hi3, hi4⟩ := u8info
          go_wp2_with fail
          refine (src_n w5 B sl n 3 (by decide) hn (unhide HV5).2.2.1 ((unhide HD).below ((unhide HV5).2.2.2.below (by omega)))).mono ?_
          rintro e w6 ⟨k, rfl, hk, hS6, ht6⟩
          have hk3 : k < 3 := by omega
          have hd6 := (ht6.block d (by omega)).trans (unhide HV5).1
          have hR6 := (ht6.block w.heap.size (by omega)).trans (unhide HV5).2.1
          have hb6 : Nigh B w w6 := (unhide HV5).2.2.2.trans (Nigh.of_touch ht6)
          have HV6 := hide (And.intro hd6 (And.intro hR6 (And.intro hS6 hb6)))
          clear hd6 hR6 hS6 hb6 ht6 HV5 hk
          go_wp2_with (first
            | (at_make; refine wpList_make_full w6 rfl _ _ 22 rfl w6.heap.size 5 ui (.int .u8 0) 1 Tryd.underlying22 hi1 hi2 hi3 .i64 .i64 _ _ (303 + k) rfl rfl (by go_num) (by go_num) (by rw [hi4]; omega) (by unfold maxLen; omega) (Nat.le_refl _) ?_; rintro w7 ho7 hg7; rw [made_zeros] at ho7; have hcv := conv_own ho7; have hb9 : Below w6.heap.size w6 w7 := (Below.refl _ _).grown hg7 (Nat.le_refl _) (fun k hk => by cases hk); have hd7 := (hb9.block d (Array.getElem?_eq_some_iff.1 (unhide HV6).1).1).trans (unhide HV6).1; obtain ⟨c0, c1, c2, c3, c4, c5⟩ := row6d hd7; obtain ⟨f0, f1, f2, f3, f4, f5⟩ := row6e hd7; clear ho7 hg7))
          have hzs : (strOfNums (List.replicate (303 + k) 0)).size ≤ 306 := by rw [strOfNums_size, List.length_replicate]; omega
          generalize strOfNums (List.replicate (303 + k) 0) = z at *
          go_meet
          exact DfSt.put false 0 true false false z hd7 hzs ((hb9.block w.heap.size (Array.getElem?_eq_some_iff.1 (unhide HV6).2.1).1).trans (unhide HV6).2.1) ((unhide HV6).2.2.1.same (hb9.block B (unhide HV6).2.2.1.lt)) ((unhide HV6).2.2.2.trans (Nigh.of_below hb9)) hdB hdR
    case rest =>
      clear HV4 hu3 wd y ii ss ll u
      obtain ⟨wd, y, ii, ss, ll, u, hd3, hu3, hR3, hS3, hb3⟩ := hcut
      obtain ⟨c0, c1, c2, c3, c4, c5⟩ := row6d hd3
      obtain ⟨r0, r1, r2, r3, r4, r5⟩ := row6d hR3
      obtain ⟨f0, f1, f2, f3, f4, f5⟩ := row6e hR3
      have HL := hide (put6_load hR3 (.bool wd) (.int .i64 y) (.bool ii) (.bool ss) (.bool ll) (.string u))
      have HS := hide (hS3.same (put6_other (W := _) (B := w.heap.size) (g := B) (by omega) (.bool wd) (.int .i64 y) (.bool ii) (.bool ss) (.bool ll) (.string u)))
      have HB := hide (put6_nigh hb3 (Nat.le_refl _) (.bool wd) (.int .i64 y) (.bool ii) (.bool ss) (.bool ll) (.string u))
      clear hd3 hR3 hS3 hb3
      go_wp2
      refine bodyPost_ret (v := .agg #[.bool wd, .int .i64 y, .bool ii, .bool ss, .bool ll, .string u]) ?_ rfl ⟨wd, y, ii, ss, ll, u, rfl, hu3, unhide HS, unhide HB⟩
      rw [results_cell rfl]
      simp [asAddr, Result.andThen, unhide HL]
end Go.Proofs.YtillpfcldehfdaaDoor
