/- The law's words on what BundleHear answers: compared, marked, held; what lay in memory stands but for the marked rows. -/
import Derived.Test.YtcanpnbpofdpcaaBdSx
import Derived.Test.YtcanpnbpofdpcaaStrMarks
namespace Go.Proofs.Ytcanpnbpofdpcaa
open Go.RowKit
set_option maxHeartbeats 4000000 in
theorem eqFgF (a1 a2 : Option Addr) (c1 c2 : Nat) (F : List Fg) (w : World) (hF : F.length ≤ 2000000) (h1 : HoldsF w (.slice a1 F.length c1) F) (h2 : HoldsF w (.slice a2 F.length c2) F) :
    Calls Try.prog 27 #[.slice a1 F.length c1, .slice a2 F.length c2] w fun e w' => e = .returned (.bool true) ∧ Below w.heap.size w w' := by
  by_cases hne : F = []
  · subst hne
    exact eqFg0 _ _ _ _ w
  have hpos : 0 < F.length := List.length_pos_iff.2 hne
  obtain ⟨g1, o1, cp1, e1, hl1, x1⟩ := h1.2 0 hpos
  obtain ⟨g2, o2, cp2, e2, hl2, x2⟩ := h2.2 0 hpos
  injection e1 with e1 e3 e4
  injection e2 with e2 e5 e6
  subst e1 e2
  clear x1 x2 e3 e4 e5 e6
  obtain ⟨n, hn⟩ : ∃ n, F.length = n := ⟨_, rfl⟩
  have HA : Hid (∀ i, i < n → ∃ k, ∃ x y : Bool, ∃ t, (w.cell? ⟨g1, o1 + i * 4, none⟩ = some (.int .i64 k) ∧ w.cell? ⟨g1, o1 + i * 4 + 1, none⟩ = some (.bool x) ∧ w.cell? ⟨g1, o1 + i * 4 + 2, none⟩ = some (.bool y) ∧ w.cell? ⟨g1, o1 + i * 4 + 3, none⟩ = some (.string t)) ∧ w.cell? ⟨g2, o2 + i * 4, none⟩ = some (.int .i64 k) ∧ w.cell? ⟨g2, o2 + i * 4 + 1, none⟩ = some (.bool x) ∧ w.cell? ⟨g2, o2 + i * 4 + 2, none⟩ = some (.bool y) ∧ w.cell? ⟨g2, o2 + i * 4 + 3, none⟩ = some (.string t)) := by
    refine hide fun i hi => ?_
    obtain ⟨_, _, _, e, _, p⟩ := h1.2 i (by omega)
    cases e
    obtain ⟨_, _, _, e, _, q⟩ := h2.2 i (by omega)
    cases e
    exact ⟨_, _, _, _, p, q⟩
  rw [hn] at hF ⊢
  clear h1 h2 hn hne hpos
  go_enter Try.func27, Try.ntmps27
  go_wp2_with fail
  go_loopw [5] (fun y wr => ∃ (i : Nat), i ≤ n ∧ y = .int .i64 i ∧ Below w.heap.size w wr) (fun y _ => n - (intOf y).toNat)
  case atStart => exact ⟨0, Nat.zero_le _, rfl, Below.refl _ _⟩
  case round =>
    obtain ⟨i, hi, rfl, hb⟩ := hrel
    have hbs := hb.size
    by_cases hlt : i < n
    · have d1 : (i : Int) < (n : Int) := by omega
      obtain ⟨k, x, y, t, ⟨q1, q2, q3, q4⟩, q5, q6, q7, q8⟩ := unhide HA i hlt
      have k0 := (hb.cell (p := ⟨g1, o1 + i * 4, none⟩) hl1).trans q1
      have k1 := (hb.cell (p := ⟨g1, o1 + i * 4 + 1, none⟩) hl1).trans q2
      have k2 := (hb.cell (p := ⟨g1, o1 + i * 4 + 2, none⟩) hl1).trans q3
      have k3 := (hb.cell (p := ⟨g1, o1 + i * 4 + 3, none⟩) hl1).trans q4
      have k4 := (hb.cell (p := ⟨g2, o2 + i * 4, none⟩) hl2).trans q5
      have k5 := (hb.cell (p := ⟨g2, o2 + i * 4 + 1, none⟩) hl2).trans q6
      have k6 := (hb.cell (p := ⟨g2, o2 + i * 4 + 2, none⟩) hl2).trans q7
      have k7 := (hb.cell (p := ⟨g2, o2 + i * 4 + 3, none⟩) hl2).trans q8
      have C := hide fun v => eqFg k x y t v
      clear q1 q2 q3 q4 q5 q6 q7 q8
      go_wp2_with fail
      go_region_with (first
        | (go_at_call 46; refine (unhide C _).mono ?_; rintro e w2 ⟨rfl, hb2⟩))
      all_goals
        go_wp2_with fail
        go_roundw
        case rel => exact ⟨i + 1, by omega, by go_num, hb.trans (((Below.refl _ _).drew.trans hb2).mono hbs)⟩
        case measure => simp [intOf]; omega
    · have e : i = n := by omega
      subst e
      have d1 : ¬ ((i : Int) < (i : Int)) := by omega
      go_wp2
      go_ret
      exact ⟨rfl, hb⟩
set_option maxHeartbeats 2000000 in
theorem eqBdF (a1 a2 b1 b2 : Option Addr) (c1 c2 d1 d2 : Nat) (L : List Int) (F : List Fg) (w : World) (hL : L.length ≤ 2000000) (hF : F.length ≤ 2000000)
    (h1 : HoldsI w (.slice a1 L.length c1) L) (h2 : HoldsI w (.slice a2 L.length c2) L) (k1 : HoldsF w (.slice b1 F.length d1) F) (k2 : HoldsF w (.slice b2 F.length d2) F) :
    Calls Try.prog 9 #[.agg #[.slice a1 L.length c1, .slice b1 F.length d1], .agg #[.slice a2 L.length c2, .slice b2 F.length d2]] w fun e w' => e = .returned (.bool true) ∧ Below w.heap.size w w' := by
  have C := hide fun W (hb : Below w.heap.size w W) => eqIs _ _ L W hL (h1.below hb rfl) (h2.below hb rfl)
  have C2 := hide fun W (hb : Below w.heap.size w W) => eqFgF b1 b2 d1 d2 F W hF (k1.below hb) (k2.below hb)
  generalize L.length = n at *
  generalize F.length = m at *
  have hq := hide (new2b w (.cells #[.slice a1 n c1, .slice b1 m d1] 30) (.cells #[.slice a2 n c2, .slice b2 m d2] 30))
  clear h1 h2 k1 k2
  go_enter Try.func9, Try.ntmps9
  go_wp2_with fail
  refine (unhide C _ (unhide hq).2.2.1).mono ?_
  rintro e w1 ⟨rfl, hb1⟩
  have q0 := (hb1.block w.heap.size (Array.getElem?_eq_some_iff.1 (unhide hq).1).1).trans (unhide hq).1
  have q1 := (hb1.block (w.heap.size + 1) (Array.getElem?_eq_some_iff.1 (unhide hq).2.1).1).trans (unhide hq).2.1
  obtain ⟨e0, e1⟩ := row2b q0
  obtain ⟨f0, f1⟩ := row2b q1
  have HB := hide ((unhide hq).2.2.1.trans (hb1.mono (unhide hq).2.2.1.size))
  clear q0 q1 hb1 hq C
  go_wp2_with fail
  refine (unhide C2 _ (unhide HB)).mono ?_
  rintro e w2 ⟨rfl, hb2⟩
  have HB2 := hide ((unhide HB).trans (hb2.mono (unhide HB).size))
  clear hb2 e0 e1 f0 f1
  go_wp2
  go_ret
  exact ⟨rfl, unhide HB2⟩
/-- An answer's cells. -/
def boC (v1 v2 v3 : Value) (n cd : Int) : Array Value := #[v1, v2, v3, .int .i64 n, .int .i64 cd]
set_option maxHeartbeats 4000000 in
theorem eqBO (o : BO) (a1 a2 a3 b1 b2 b3 : Option Addr) (c1 c2 c3 d1 d2 d3 : Nat) (w : World) (l1 : o.L.length ≤ 2000000) (l2 : o.F.length ≤ 2000000) (l3 : o.G.length ≤ 2000000)
    (h1 : HoldsI w (.slice a1 o.L.length c1) o.L) (h2 : HoldsF w (.slice a2 o.F.length c2) o.F) (h3 : HoldsT w (.slice a3 o.G.length c3) o.G) (k1 : HoldsI w (.slice b1 o.L.length d1) o.L) (k2 : HoldsF w (.slice b2 o.F.length d2) o.F) (k3 : HoldsT w (.slice b3 o.G.length d3) o.G) :
    Calls Try.prog 14 #[.agg (boC (.slice a1 o.L.length c1) (.slice a2 o.F.length c2) (.slice a3 o.G.length c3) (o.lost : Nat) o.cd), .agg (boC (.slice b1 o.L.length d1) (.slice b2 o.F.length d2) (.slice b3 o.G.length d3) (o.lost : Nat) o.cd)] w fun e w' => e = .returned (.bool true) ∧ Below w.heap.size w w' := by
  have C := hide fun W (hb : Below w.heap.size w W) => eqBdF a1 b1 a2 b2 c1 d1 c2 d2 o.L o.F W l1 l2 (h1.below hb rfl) (k1.below hb rfl) (h2.below hb) (k2.below hb)
  have C2 := hide fun W (hb : Below w.heap.size w W) => eqT _ _ o.G W l3 (h3.below hb rfl) (k3.below hb rfl)
  unfold boC
  generalize o.L.length = n at *
  generalize o.F.length = m at *
  generalize o.G.length = g at *
  generalize (o.lost : Int) = lo at *
  generalize o.cd = cd at *
  have hq := hide (new2b w (.cells #[.slice a1 n c1, .slice a2 m c2, .slice a3 g c3, .int .i64 lo, .int .i64 cd] 39) (.cells #[.slice b1 n d1, .slice b2 m d2, .slice b3 g d3, .int .i64 lo, .int .i64 cd] 39))
  clear h1 h2 h3 k1 k2 k3
  have hne1 : (lo != lo) = false := by simp
  have hne2 : (cd != cd) = false := by simp
  go_enter Try.func14, Try.ntmps14
  go_wp2_with fail
  refine (unhide C _ (unhide hq).2.2.1).mono ?_
  rintro e w1 ⟨rfl, hb1⟩
  have q0 := (hb1.block w.heap.size (Array.getElem?_eq_some_iff.1 (unhide hq).1).1).trans (unhide hq).1
  have q1 := (hb1.block (w.heap.size + 1) (Array.getElem?_eq_some_iff.1 (unhide hq).2.1).1).trans (unhide hq).2.1
  obtain ⟨e0, e1, e2, e3, e4⟩ := row5b q0
  obtain ⟨f0, f1, f2, f3, f4⟩ := row5b q1
  have HB := hide ((unhide hq).2.2.1.trans (hb1.mono (unhide hq).2.2.1.size))
  have HQ := hide (And.intro q0 q1)
  clear q0 q1 hb1 hq C
  go_wp2_with fail
  refine (unhide C2 _ (unhide HB)).mono ?_
  rintro e w2 ⟨rfl, hb2⟩
  have q0 := (hb2.block w.heap.size (Array.getElem?_eq_some_iff.1 (unhide HQ).1).1).trans (unhide HQ).1
  have q1 := (hb2.block (w.heap.size + 1) (Array.getElem?_eq_some_iff.1 (unhide HQ).2).1).trans (unhide HQ).2
  clear e0 e1 e2 e3 e4 f0 f1 f2 f3 f4
  obtain ⟨e0, e1, e2, e3, e4⟩ := row5b q0
  obtain ⟨f0, f1, f2, f3, f4⟩ := row5b q1
  have HB2 := hide ((unhide HB).trans (hb2.mono (unhide HB).size))
  clear hb2 q0 q1 HQ HB C2
  go_wp2
  go_ret
  exact ⟨rfl, unhide HB2⟩
/-- All but three rows stands. -/
structure But3 (u v x : Option Nat) (w w' : World) : Prop where
  os : w'.os = w.os
  tape : w'.tape = w.tape
  output : w'.output = w.output
  size : w.heap.size ≤ w'.heap.size
  block : ∀ b, b < w.heap.size → u ≠ some b → v ≠ some b → x ≠ some b → w'.heap[b]? = w.heap[b]?
theorem HoldsT.kind {w : World} {v : Value} {G : List ByteArray} (h : HoldsT w v G) {g : Nat} (hg : bkb G.length v = some g) : ∃ cs, w.heap[g]? = some (.cells cs 9) := by
  rcases h with ⟨ad, cp, e, e0⟩ | ⟨g', cp, cur, e, q1, _⟩
  · rw [e0] at hg; cases hg
  · have h := bkb_own hg
    rw [e] at h
    have a1 : g' = g := by injection h
    rw [← a1]
    exact ⟨cur, q1⟩
theorem HoldsI.kind {w : World} {v : Value} {G : List Int} (h : HoldsI w v G) {g : Nat} (hg : bkb G.length v = some g) : ∃ cs, w.heap[g]? = some (.cells cs 2) := by
  rcases h with ⟨ad, cp, e, e0⟩ | ⟨g', cp, cur, e, q1, _⟩
  · rw [e0] at hg; cases hg
  · have h := bkb_own hg
    rw [e] at h
    have a1 : g' = g := by injection h
    rw [← a1]
    exact ⟨cur, q1⟩
theorem HoldsG.kind {w : World} {v : Value} {G : List Fg} (h : HoldsG w v G) {g : Nat} (hg : bkb G.length v = some g) : ∃ cs, w.heap[g]? = some (.cells cs 41) := by
  rcases h with ⟨ad, cp, e, e0⟩ | ⟨g', cp, cur, e, q1, _⟩
  · rw [e0] at hg; cases hg
  · have h := bkb_own hg
    rw [e] at h
    have a1 : g' = g := by injection h
    rw [← a1]
    exact ⟨cur, q1⟩
/-- A row of texts stands, where two rows of other kinds were marked. -/
theorem holdsT_but2 {w w' : World} {u v x : Value} {n m : Nat} {G : List ByteArray} (h : HoldsT w x G) (hb : But2 (bkb n u) (bkb m v) w w') (hu : ∀ g, bkb n u = some g → ∃ cs, w.heap[g]? = some (.cells cs 2)) (hv : ∀ g, bkb m v = some g → ∃ cs, w.heap[g]? = some (.cells cs 41)) : HoldsT w' x G :=
  h.imp id fun ⟨g, cp, cur, e1, e2, e3⟩ => ⟨g, cp, cur, e1, (hb.block g (Array.getElem?_eq_some_iff.1 e2).1 (fun e => by obtain ⟨cs, e5⟩ := hu g e; exact kind_ne e2 e5 (by decide) rfl) (fun e => by obtain ⟨cs, e5⟩ := hv g e; exact kind_ne e2 e5 (by decide) rfl)).trans e2, e3⟩
set_option maxHeartbeats 4000000 in
theorem markBO (a1 a2 a3 : Option Addr) (c1 c2 c3 : Nat) (L : List Int) (F : List Fg) (G : List ByteArray) (lo cd : Int) (k : Nat) (w : World) (hk : 0 < k) (hl : k + L.length + 4 * F.length + G.length < 9000000)
    (h1 : HoldsI w (.slice a1 L.length c1) L) (h2 : HoldsG w (.slice a2 F.length c2) F) (h3 : HoldsT w (.slice a3 G.length c3) G) :
    Calls Try.prog 16 #[.agg (boC (.slice a1 L.length c1) (.slice a2 F.length c2) (.slice a3 G.length c3) lo cd), .int .i64 k] w fun e w' => e = .returned (.int .i64 ((k + L.length + 4 * F.length + G.length : Nat) : Int)) ∧ HoldsI w' (.slice a1 L.length c1) (mil k L.length) ∧ HoldsG w' (.slice a2 F.length c2) (mfg (k + L.length) F.length) ∧ HoldsT w' (.slice a3 G.length c3) (mtl (k + L.length + 4 * F.length) G.length) ∧ But3 (bkb L.length (.slice a1 L.length c1)) (bkb F.length (.slice a2 F.length c2)) (bkb G.length (.slice a3 G.length c3)) w w' := by
  have hbA := (Below.refl w.heap.size w).alloc (Nat.le_refl _) (.cells (boC (.slice a1 L.length c1) (.slice a2 F.length c2) (.slice a3 G.length c3) lo cd) 39)
  have hA := heap_alloc_new w (.cells (boC (.slice a1 L.length c1) (.slice a2 F.length c2) (.slice a3 G.length c3) lo cd) 39)
  have C := markBd a1 a2 c1 c2 L F k (w.alloc (.cells (boC (.slice a1 L.length c1) (.slice a2 F.length c2) (.slice a3 G.length c3) lo cd) 39)) hk (by omega) (h1.below hbA rfl) (h2.below hbA rfl)
  have H0 := hide (And.intro (h1.below hbA rfl) (And.intro (h2.below hbA rfl) (And.intro (h3.below hbA rfl) (And.intro hA hbA))))
  have C2 := hide fun W (h : HoldsT W (.slice a3 G.length c3) G) => markTF (.slice a3 G.length c3) G (k + L.length + 4 * F.length) W (by omega) (by omega) h
  clear h1 h2 h3
  unfold boC at *
  obtain ⟨x0, x1, x2, x3, x4⟩ := row5b hA
  clear hA hbA
  have HN : Hid (∀ (u : Value) (n : Nat) g, bkb n u = some g → u.ownBlock = some g) := hide fun u n g h => bkb_own h
  generalize hL : L.length = n at *
  generalize hF : F.length = m at *
  generalize hG : G.length = p at *
  go_enter Try.func16, Try.ntmps16
  go_wp2_with fail
  refine C.mono ?_
  rintro e w1 ⟨rfl, p1, p2, hb2⟩
  obtain ⟨h1, h2, h3, hA, hbA⟩ := unhide H0
  have ku := fun g (e : bkb n (.slice a1 n c1) = some g) => h1.kind (by rw [hL]; exact e)
  have kv := fun g (e : bkb m (.slice a2 m c2) = some g) => h2.kind (by rw [hF]; exact e)
  have h31 := holdsT_but2 h3 hb2 ku kv
  have hA1 : w1.heap[w.heap.size]? = _ := (hb2.block _ (Array.getElem?_eq_some_iff.1 hA).1 (fun e => by obtain ⟨cs, e5⟩ := ku _ e; exact kind_ne hA e5 (by decide) rfl) (fun e => by obtain ⟨cs, e5⟩ := kv _ e; exact kind_ne hA e5 (by decide) rfl)).trans hA
  clear x0 x1 x2 x3 x4
  obtain ⟨x0, x1, x2, x3, x4⟩ := row5b hA1
  have H1 := hide (And.intro p1 (And.intro p2 (And.intro hb2 (And.intro h31 (And.intro hbA (And.intro h1 (And.intro h2 h3)))))))
  clear p1 p2 hb2 h31 hA1 h1 h2 h3 hA hbA ku kv C H0
  go_wp2_with fail
  refine (unhide C2 _ (unhide H1).2.2.2.1).mono ?_
  rintro e w2 ⟨rfl, p3, hb3, hb30⟩
  obtain ⟨p1, p2, hb2, h31, hbA, h1, h2, h3⟩ := unhide H1
  have kx : ∀ g, bkb p (.slice a3 p c3) = some g → ∃ cs, w1.heap[g]? = some (.cells cs 9) := fun g e => h31.kind (by rw [hG]; exact e)
  have hkeep : ∀ g, g < w1.heap.size → bkb p (.slice a3 p c3) ≠ some g → w2.heap[g]? = w1.heap[g]? := fun g hg hn => by
    by_cases hz : p = 0
    · exact (hb30 (List.eq_nil_of_length_eq_zero (by rw [hG]; exact hz))).block g hg
    · rw [bkb_some hz] at hn
      exact hb3.block g hg hn
  have f1 : HoldsI w2 (.slice a1 n c1) (mil k n) := p1.imp id fun ⟨g, cp, cur, e1, e2, e3⟩ => ⟨g, cp, cur, e1, (hkeep g (Array.getElem?_eq_some_iff.1 e2).1 (fun e => by obtain ⟨cs, e5⟩ := kx g e; exact kind_ne e2 e5 (by decide) rfl)).trans e2, e3⟩
  have f2 : HoldsG w2 (.slice a2 m c2) (mfg (k + n) m) := p2.imp id fun ⟨g, cp, cur, e1, e2, e3⟩ => ⟨g, cp, cur, e1, (hkeep g (Array.getElem?_eq_some_iff.1 e2).1 (fun e => by obtain ⟨cs, e5⟩ := kx g e; exact kind_ne e2 e5 (by decide) rfl)).trans e2, e3⟩
  have HF : Hid (HoldsI w2 (.slice a1 n c1) (mil k n) ∧ HoldsG w2 (.slice a2 m c2) (mfg (k + n) m) ∧ HoldsT w2 (.slice a3 p c3) (mtl (k + n + 4 * m) p) ∧ But3 (bkb n (.slice a1 n c1)) (bkb m (.slice a2 m c2)) (bkb p (.slice a3 p c3)) w w2) := hide ⟨f1, f2, p3, hb3.os.trans (hb2.os.trans hbA.os), hb3.tape.trans (hb2.tape.trans hbA.tape), hb3.output.trans (hb2.output.trans hbA.output), Nat.le_trans hbA.size (Nat.le_trans hb2.size hb3.size), fun g hg n1 n2 n3 => (hkeep g (Nat.lt_of_lt_of_le (Nat.lt_of_lt_of_le hg hbA.size) hb2.size) n3).trans ((hb2.block g (Nat.lt_of_lt_of_le hg hbA.size) n1 n2).trans (hbA.block g hg))⟩
  clear f1 f2 p1 p2 p3 hb2 hb3 hb30 h31 hbA h1 h2 h3 kx hkeep H1 C2 HN x0 x1 x2 x3 x4
  try rw [hG]
  go_wp2
  go_ret
  exact ⟨rfl, unhide HF⟩
set_option maxHeartbeats 4000000 in
theorem heldBO (a1 a2 a3 : Option Addr) (c1 c2 c3 n m p k : Nat) (lo cd : Int) (w : World) (hk : 0 < k) (hl : k + n + 4 * m + p < 9000000)
    (h1 : HoldsI w (.slice a1 n c1) (mil k n)) (h2 : HoldsG w (.slice a2 m c2) (mfg (k + n) m)) (h3 : HoldsT w (.slice a3 p c3) (mtl (k + n + 4 * m) p)) :
    Calls Try.prog 17 #[.agg (boC (.slice a1 n c1) (.slice a2 m c2) (.slice a3 p c3) lo cd), .int .i64 k] w fun e w' => e = .returned (.int .i64 ((k + n + 4 * m + p : Nat) : Int)) ∧ Below w.heap.size w w' := by
  have C := hide fun W (hb : Below w.heap.size w W) => heldBd a1 a2 c1 c2 n m k W hk (by omega) (h1.below hb rfl) (h2.below hb rfl)
  have C2 := hide fun W (hb : Below w.heap.size w W) => heldTF _ p (k + n + 4 * m) W (by omega) (by omega) (h3.below hb rfl)
  unfold boC
  have hA := hide ((Below.refl w.heap.size w).alloc (Nat.le_refl _) (.cells #[.slice a1 n c1, .slice a2 m c2, .slice a3 p c3, .int .i64 lo, .int .i64 cd] 39))
  have d2 : ¬ (((k + n + 4 * m : Nat) : Int) < 0) := by omega
  have d3 : ¬ (((k + n + 4 * m + p : Nat) : Int) < 0) := by omega
  clear h1 h2 h3
  generalize k + n + 4 * m + p = K2 at *
  generalize k + n + 4 * m = K1 at *
  go_enter Try.func17, Try.ntmps17
  go_wp2_with fail
  refine (unhide C _ (unhide hA)).mono ?_
  rintro e w1 ⟨rfl, hb1⟩
  obtain ⟨q0, hb1'⟩ := box_b hb1
  obtain ⟨e0, e1, e2, e3, e4⟩ := row5b q0
  have HB := hide hb1'
  clear q0 hb1 hb1' hA C
  go_wp2_with fail
  refine (unhide C2 _ (unhide HB)).mono ?_
  rintro e w2 ⟨rfl, hb2⟩
  have HB2 := hide ((unhide HB).trans (hb2.mono (unhide HB).size))
  clear hb2 e0 e1 e2 e3 e4 HB
  go_wp2
  go_ret
  exact ⟨rfl, unhide HB2⟩
end Go.Proofs.Ytcanpnbpofdpcaa
