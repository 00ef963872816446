/- PacketRead, the program's: of any text what is read, and a code; what lay in memory stands; under the library's variable errors.errorType as it is laid. -/
import Derived.Test.YtgelbobocjgdaaaDoorBadPkt
import Derived.Test.YtgelbobocjgdaaaDoorReadPkt
import Derived.Test.YtgelbobocjgdaaaDoorAsHit
namespace Go.Proofs.YtgelbobocjgdaaaDoor
open Go.RowKit
theorem bad4 {n : Nat} {r : List UInt8} (h : n < 4 ∨ 254 < n ∨ r.length + 4 < n) : bad 4 250 n r = true := decide_eq_true (by omega)
theorem good4 {n : Nat} {r : List UInt8} (h : ¬ (n < 4 ∨ 254 < n ∨ r.length + 4 < n)) : bad 4 250 n r = false := decide_eq_false (by omega)
/-- What a reading of a packet answers. -/
def PktOut (w w' : World) (o : Op.Out) (e : Ending) : Prop :=
  (∃ c, (c = 3 ∨ c = 4) ∧ o = Op.no c ∧ e = .returned (.tuple #[.agg zero8, wrong c]) ∧ Below w.heap.size w w') ∨ (∃ a b : UInt8, ∃ t, o = ⟨⟨(a.toNat : Int), (b.toNat : Int), t⟩, 0⟩ ∧ PktAns w w' a b t e)
theorem pkt_any (w : World) (Pb B : Nat) (v : Value) (l : List UInt8) (hl8 : l.length ≤ 8000) (hP : w.heap[Pb]? = some (.cells #[.int .i64 0, .int .i64 0, .int .i64 2, .int .i64 3] 140)) (hB : B < w.heap.size) (hv : Rest w B v l) :
    Calls Tryd.prog 87 #[.agg #[.slice (some ⟨Pb, 0, none⟩) 4 4, .int .i64 4, .int .i64 250, .int .i64 4], v] w fun e w' => PktOut w w' (Op.pread l) e := by
  rcases l with _ | ⟨a, _ | ⟨b, _ | ⟨c, _ | ⟨d, r⟩⟩⟩⟩
  · exact (pkt_short0 w Pb B v hP hB hv).mono fun e w' ⟨h1, h2⟩ => Or.inl ⟨4, Or.inr rfl, Op.pread_short (by simp), h1, h2⟩
  · exact (pkt_short1 w Pb B v a hP hB hv).mono fun e w' ⟨h1, h2⟩ => Or.inl ⟨4, Or.inr rfl, Op.pread_short (by simp), h1, h2⟩
  · exact (pkt_short2 w Pb B v a b hP hB hv).mono fun e w' ⟨h1, h2⟩ => Or.inl ⟨4, Or.inr rfl, Op.pread_short (by simp), h1, h2⟩
  · exact (pkt_short3 w Pb B v a b c hP hB hv).mono fun e w' ⟨h1, h2⟩ => Or.inl ⟨4, Or.inr rfl, Op.pread_short (by simp), h1, h2⟩
  · have h8 : r.length + 4 ≤ 8000 := by simpa using hl8
    by_cases hb : 256 * c.toNat + d.toNat < 4 ∨ 254 < 256 * c.toNat + d.toNat ∨ r.length + 4 < 256 * c.toNat + d.toNat
    · exact (pkt_bad w Pb B v a b c d r hP hB hv (bad4 hb)).mono fun e w' ⟨h1, h2⟩ => Or.inl ⟨3, Or.inl rfl, Op.pread_bad h8 hb, h1, h2⟩
    · exact (pkt_good w Pb B v a b c d r _ hP hB hv rfl (good4 hb)).mono fun e w' h1 => Or.inr ⟨a, b, _, Op.pread_good h8 hb, h1⟩
set_option maxHeartbeats 1000000 in
theorem packetLayout (w : World) : Calls Tryd.prog 91 #[] w fun e w' => e = .returned (.agg #[.slice (some ⟨w.heap.size + 1, 0, none⟩) 4 4, .int .i64 4, .int .i64 250, .int .i64 4]) ∧
    w'.heap[w.heap.size + 1]? = some (.cells #[.int .i64 0, .int .i64 0, .int .i64 2, .int .i64 3] 140) ∧ Below w.heap.size w w' := by
  go_enter Tryd.func91, Tryd.ntmps91
  go_wp2
  refine bodyPost_ret (v := .agg #[.slice (some ⟨w.heap.size + 1, 0, none⟩) 4 4, .int .i64 4, .int .i64 250, .int .i64 4]) (by simp [results, Tryd.results91, go_sem]) rfl ⟨rfl, ?_, ((Below.refl _ _).alloc (Nat.le_refl _) _).alloc (by simp) _⟩
  have h := heap_alloc_new (w.alloc (.cells #[.slice (some ⟨w.heap.size + 1, 0, none⟩) 4 4, .int .i64 4, .int .i64 250, .int .i64 4] 125)) (.cells #[.int .i64 0, .int .i64 0, .int .i64 2, .int .i64 3] 140)
  rw [show (w.alloc (.cells #[.slice (some ⟨w.heap.size + 1, 0, none⟩) 4 4, .int .i64 4, .int .i64 250, .int .i64 4] 125)).heap.size = w.heap.size + 1 by simp] at h
  exact h
/-- A packet as a value. -/
def pkV (p : Op.Pk) : Value := .agg #[.int .i64 p.code, .int .i64 p.id, .string p.data]
def errV (c : Int) : Value := if c = 0 then .nilIface else wrong c
theorem row_single {w : World} {base : Nat} {sa : Option Addr} {n sc : Nat} {xs : List Value} (h : w.ownsRow base 2 1 (.slice sa n sc) n xs) (hn : 0 < n) : ∃ g, sa = some ⟨g, 0, none⟩ ∧ base ≤ g ∧ g < w.heap.size ∧ n ≤ sc ∧ ∀ i x, xs[i]? = some x → w.cell? ⟨g, i, none⟩ = some x := by
  rcases h.2 with ⟨_, h0⟩ | ⟨g, cap, cur, h1, h2, h3, h4, h5, h6, h7⟩
  · omega
  · simp only [Value.slice.injEq, true_and] at h1
    obtain ⟨rfl, rfl⟩ := h1
    refine ⟨g, rfl, h2, (Array.getElem?_eq_some_iff.1 h3).1, h4, fun i x hx => ?_⟩
    rw [cell_of_row _ _ _ _ _ _ h3, ← hx, ← h7, List.getElem?_take, if_pos, Array.getElem?_toList]
    have := (List.getElem?_eq_some_iff.1 hx).1
    have hl := h.1
    omega
theorem infoPk : (Tryd.prog.info? 58).map (·.size) = some 3 := by kernel_rfl
theorem row3w {w : World} {B : Nat} {x0 x1 x2 : Value} {T : TypeId} (h : w.heap[B]? = some (.cells #[x0, x1, x2] T)) :
    w.cell? ⟨B, 0, none⟩ = some x0 ∧ w.cell? ⟨B, 1, none⟩ = some x1 ∧ w.cell? ⟨B, 2, none⟩ = some x2 ∧ w.frozen? ⟨B, 0, none⟩ = false ∧ w.frozen? ⟨B, 1, none⟩ = false ∧ w.frozen? ⟨B, 2, none⟩ = false :=
  ⟨by rw [cell_of_row _ _ _ _ _ _ h]; rfl, by rw [cell_of_row _ _ _ _ _ _ h]; rfl, by rw [cell_of_row _ _ _ _ _ _ h]; rfl, frz h _, frz h _, frz h _⟩
theorem load3 {W : World} {E : Nat} {x0 x1 x2 : Value} (h : W.heap[E]? = some (.cells #[x0, x1, x2] 58)) : (loadVar 58 ⟨E, 0, none⟩).run Tryd.prog W = .ok (.agg #[x0, x1, x2]) W :=
  run_loadVar_row (P := Tryd.prog) _ _ 58 58 #[x0, x1, x2] (0, 0) _ h Tryd.underlying58 rfl infoPk
theorem set3_at {W : World} {E : Nat} {z0 z1 z2 : Value} {T : TypeId} (h : W.heap[E]? = some (.cells #[z0, z1, z2] T)) (x0 x1 x2 : Value) :
    (((W.setCell ⟨E, 0, none⟩ x0).setCell ⟨E, 1, none⟩ x1).setCell ⟨E, 2, none⟩ x2).heap[E]? = some (.cells #[x0, x1, x2] T) :=
  heap_setCell_same _ _ 2 _ _ x2 (heap_setCell_same _ _ 1 _ _ x1 (heap_setCell_same _ _ 0 _ _ x0 h))
set_option maxHeartbeats 4000000 in
theorem packetOf (w : World) (B : Nat) (v : Value) (l : List UInt8) (hl8 : l.length ≤ 8000) (hB : B < w.heap.size) (hv : Rest w B v l) :
    Calls Tryd.prog 75 #[v] w fun e w' => e = .returned (.tuple #[pkV (Op.pread l).pk, errV (Op.pread l).code]) ∧ Below w.heap.size w w' := by
  have C := hide fun w Pb v hP hB hv => pkt_any w Pb B v l hl8 hP hB hv
  generalize Op.pread l = o at *
  have HV := hide hv
  obtain ⟨off, cap, hvf, _⟩ := hv
  subst hvf
  go_enter Tryd.func75, Tryd.ntmps75
  go_wp2_with fail
  refine (packetLayout _).mono ?_
  rintro e w1 ⟨rfl, hP, hb1⟩
  have hsz : (w.alloc (.cells #[.int .i64 0, .int .i64 0, .string ⟨#[]⟩] 58)).heap.size = w.heap.size + 1 := by simp
  have hO1 : w1.heap[w.heap.size]? = some (.cells #[.int .i64 0, .int .i64 0, .string ⟨#[]⟩] 58) := (hb1.block w.heap.size (by rw [hsz]; omega)).trans (heap_alloc_new w _)
  have hs1 := hb1.size
  rw [hsz] at hs1 hP
  have hb01 : Below w.heap.size w w1 := ((Below.refl _ _).alloc (Nat.le_refl _) _).trans (hb1.mono (by rw [hsz]; omega))
  have hv1 := (unhide HV).same (hb01.block B hB)
  clear hb1 HV
  go_wp2_with fail
  refine (unhide C w1 _ _ hP (by omega) hv1).mono ?_
  rintro e w2 h
  rcases h with ⟨c, hc, rfl, rfl, hb2⟩ | ⟨a, b, t, rfl, Pb', B', off', n', cap', sa, sc, x, rfl, ho, hb2⟩
  · have hO2 := (hb2.block w.heap.size (by omega)).trans hO1
    have hlt2 : w.heap.size < w2.heap.size := (Array.getElem?_eq_some_iff.1 hO2).1
    have hb3 := hb01.trans (hb2.mono hb01.size)
    obtain ⟨c0, c1, c2, f0, f1, f2⟩ := row3w hO2
    have FIN := hide fun X x0 x1 x2 => load3 ((Below.heap_alloc (((w2.setCell ⟨w.heap.size, 0, none⟩ x0).setCell ⟨w.heap.size, 1, none⟩ x1).setCell ⟨w.heap.size, 2, none⟩ x2) X _ (by simpa [World.setCell] using hlt2)).trans (set3_at hO2 x0 x1 x2))
    have HE : Hid (errV c = .iface 132 (.agg #[.int .i64 c])) := hide (by unfold errV; rw [if_neg (by omega)]; rfl)
    unfold zero8 wrong
    clear C hO1 hO2 hb2 hP hv1 hc
    go_wp2
    refine bodyPost_ret (v := .tuple #[.agg #[.int .i64 0, .int .i64 0, .string ⟨#[]⟩], .iface 132 (.agg #[.int .i64 c])]) (by simp [results, Tryd.results75, asAddr, unhide FIN]) rfl ⟨?_, ?_⟩
    · unfold pkV Op.no
      dsimp only
      rw [unhide HE]
    · exact (((hb3.setCell (p := ⟨w.heap.size, 0, none⟩) (Nat.le_refl _) _).setCell (p := ⟨w.heap.size, 1, none⟩) (Nat.le_refl _) _).setCell (p := ⟨w.heap.size, 2, none⟩) (Nat.le_refl _) _).alloc (by simp; omega) _
  · have hO2 := (hb2.block w.heap.size (by omega)).trans hO1
    have hlt2 : w.heap.size < w2.heap.size := (Array.getElem?_eq_some_iff.1 hO2).1
    have hb3 := hb01.trans (hb2.mono hb01.size)
    obtain ⟨c0, c1, c2, f0, f1, f2⟩ := row3w hO2
    obtain ⟨g, rfl, hg1, hg2, hsc, hgc⟩ := row_single ho (by decide)
    have g0 := hgc 0 _ rfl
    have g1 := hgc 1 _ rfl
    have HO2 := hide hO2
    have HG := hide (And.intro g0 g1)
    clear C hO1 hO2 hb2 hP hv1 ho hgc g0 g1
    go_wp2
    refine gen_world (fun q => q.heap[w2.heap.size]? = some (.cells #[.slice (some ⟨Pb', 0, none⟩) 4 4, .int .i64 4, .int .i64 250, .int .i64 4, .slice (some ⟨B', off', none⟩) n' cap', .slice (some ⟨g, 0, none⟩) 2 sc, .int .i64 x, .string t] 127) ∧ q.heap[w.heap.size]? = some (.cells #[.int .i64 0, .int .i64 0, .string ⟨#[]⟩] 58) ∧ q.cell? ⟨g, 0, none⟩ = some (.int .i64 a.toNat) ∧ q.cell? ⟨g, 1, none⟩ = some (.int .i64 b.toNat) ∧ Below w.heap.size w q)
      ⟨heap_alloc_new w2 _, (Below.heap_alloc _ _ _ hlt2).trans (unhide HO2), (((Below.refl w2.heap.size w2).alloc (Nat.le_refl _) _).cell (p := ⟨g, 0, none⟩) hg2).trans (unhide HG).1, (((Below.refl w2.heap.size w2).alloc (Nat.le_refl _) _).cell (p := ⟨g, 1, none⟩) hg2).trans (unhide HG).2, hb3.alloc hb3.size _⟩ ?_
    rintro q ⟨hr, ho, g0, g1, hbq⟩
    clear c0 c1 c2 f0 f1 f2
    obtain ⟨e0, e1, e2, e3, e4, e5, e6, e7, _⟩ := rg8 hr
    obtain ⟨c0, c1, c2, f0, f1, f2⟩ := row3w ho
    have hne : ¬ (w2.heap.size = w.heap.size) := by omega
    have HO := hide ho
    have FIN := hide fun x0 x1 x2 => load3 (W := (((q.setCell ⟨w.heap.size, 0, none⟩ x0).setCell ⟨w.heap.size, 1, none⟩ x1).setCell ⟨w.heap.size, 2, none⟩ x2).drew) (set3_at ho x0 x1 x2)
    clear hr ho HG HO2 hb3 hb01
    go_region
    go_wp2
    refine bodyPost_ret (v := .tuple #[.agg #[.int .i64 a.toNat, .int .i64 b.toNat, .string t], .nilIface]) (by simp [results, Tryd.results75, asAddr, unhide FIN]) rfl ⟨rfl, ?_⟩
    exact (((hbq.setCell (p := ⟨w.heap.size, 0, none⟩) (Nat.le_refl _) _).setCell (p := ⟨w.heap.size, 1, none⟩) (Nat.le_refl _) _).setCell (p := ⟨w.heap.size, 2, none⟩) (Nat.le_refl _) _).drew
/-- What PacketRead answers, as a value. -/
def poV (o : Op.Out) : Value := .agg #[.int .i64 o.pk.code, .int .i64 o.pk.id, .string o.pk.data, .int .i64 o.code]
theorem infoPo : (Tryd.prog.info? 62).map (·.size) = some 4 := by kernel_rfl
theorem load4 {W : World} {E : Nat} {x0 x1 x2 x3 : Value} (h : W.heap[E]? = some (.cells #[x0, x1, x2, x3] 62)) : (loadVar 62 ⟨E, 0, none⟩).run Tryd.prog W = .ok (.agg #[x0, x1, x2, x3]) W :=
  run_loadVar_row (P := Tryd.prog) _ _ 62 62 #[x0, x1, x2, x3] (0, 0) _ h Tryd.underlying62 rfl infoPo
theorem set4_at {W : World} {E : Nat} {z0 z1 z2 z3 : Value} {T : TypeId} (h : W.heap[E]? = some (.cells #[z0, z1, z2, z3] T)) (x0 x1 x2 x3 : Value) :
    ((((W.setCell ⟨E, 0, none⟩ x0).setCell ⟨E, 1, none⟩ x1).setCell ⟨E, 2, none⟩ x2).setCell ⟨E, 3, none⟩ x3).heap[E]? = some (.cells #[x0, x1, x2, x3] T) :=
  heap_setCell_same _ _ 3 _ _ x3 (heap_setCell_same _ _ 2 _ _ x2 (heap_setCell_same _ _ 1 _ _ x1 (heap_setCell_same _ _ 0 _ _ x0 h)))
theorem code_any (c : Int) (w : World) (hE : Et w) : Calls Tryd.prog 69 #[errV c] w fun e w' => e = .returned (.int .i64 c) ∧ Below w.heap.size w w' := by
  unfold errV
  by_cases h : c = 0
  · subst h
    exact code_nil w
  · rw [if_neg h]
    exact code_wrong c w hE
theorem row4f {w : World} {B : Nat} {x0 x1 x2 x3 : Value} {T : TypeId} (h : w.heap[B]? = some (.cells #[x0, x1, x2, x3] T)) :
    w.cell? ⟨B, 0, none⟩ = some x0 ∧ w.cell? ⟨B, 1, none⟩ = some x1 ∧ w.cell? ⟨B, 2, none⟩ = some x2 ∧ w.cell? ⟨B, 3, none⟩ = some x3 ∧ w.frozen? ⟨B, 0, none⟩ = false ∧ w.frozen? ⟨B, 1, none⟩ = false ∧ w.frozen? ⟨B, 2, none⟩ = false ∧ w.frozen? ⟨B, 3, none⟩ = false :=
  ⟨(row4v h).1, (row4v h).2.1, (row4v h).2.2.1, (row4v h).2.2.2, frz h _, frz h _, frz h _, frz h _⟩
set_option maxHeartbeats 4000000 in
theorem implPktRead (t : ByteArray) (w : World) (ht : t.size ≤ maxLen) (hE : Et w) :
    Calls Tryd.prog 37 #[.string t] w fun e w' => e = .returned (poV (Op.pread t.data.toList)) ∧ Below w.heap.size w w' := by
  have hlt0 := hE.lt
  unfold maxLen at ht
  by_cases h8 : t.size ≤ 8000
  · have d0 : ¬ ((8000 : Int) < (t.size : Int)) := by omega
    have hl8 : t.data.toList.length ≤ 8000 := by rw [len_dat]; exact h8
    obtain ⟨cap, W1, hcv, hcap, hl1, hb1, hlt1⟩ := bytes_of t (w.alloc (.cells #[.int .i64 0, .int .i64 0, .string ⟨#[]⟩, .int .i64 0] 62))
    have hW : (w.alloc (.cells #[.int .i64 0, .int .i64 0, .string ⟨#[]⟩, .int .i64 0] 62)).heap.size = w.heap.size + 1 := by simp
    rw [hW] at hcv hb1 hlt1 hl1
    have C1 := hide (packetOf W1 (w.heap.size + 1) _ t.data.toList hl8 hlt1 ⟨0, cap, rfl, hcap, hl1⟩)
    rw [len_dat] at C1 hcv
    have hO1 : W1.heap[w.heap.size]? = some (.cells #[.int .i64 0, .int .i64 0, .string ⟨#[]⟩, .int .i64 0] 62) := (hb1.block w.heap.size (Nat.lt_succ_self _)).trans (heap_alloc_new w _)
    have hB1 : Below w.heap.size w W1 := ((Below.refl _ _).alloc (Nat.le_refl _) _).trans (hb1.mono (Nat.le_succ _))
    have HX := hide (And.intro hO1 hB1)
    generalize Op.pread t.data.toList = o at *
    obtain ⟨⟨pc, pi, pd⟩, oc⟩ := o
    have CC := hide fun v hv => code_any oc v hv
    generalize errV oc = EV at *
    unfold pkV at C1
    unfold poV
    dsimp only at C1 ⊢
    clear hl1 hb1 hO1 hB1 hcap hW hl8
    go_enter Tryd.func37, Tryd.ntmps37
    go_wp2_with fail
    refine (unhide C1).mono ?_
    rintro e W2 ⟨rfl, hb2⟩
    have hO2 := (hb2.block w.heap.size (by omega)).trans (unhide HX).1
    have hB2 : Below w.heap.size w W2 := (unhide HX).2.trans (hb2.mono (unhide HX).2.size)
    have hlt2 : w.heap.size < W2.heap.size := (Array.getElem?_eq_some_iff.1 hO2).1
    have HO2 := hide hO2
    clear HX C1 hcv hb2 hO2
    go_wp2_with fail
    refine gen_world (fun q => q.heap[W2.heap.size]? = some (.cells #[.int .i64 pc, .int .i64 pi, .string pd] 58) ∧ q.heap[w.heap.size]? = some (.cells #[.int .i64 0, .int .i64 0, .string ⟨#[]⟩, .int .i64 0] 62) ∧ Below w.heap.size w q)
      ⟨heap_alloc_new W2 _, (Below.heap_alloc _ _ _ hlt2).trans (unhide HO2), hB2.alloc hB2.size _⟩ ?_
    rintro q ⟨hr, ho, hbq⟩
    have hEq : Et q := hE.below hbq hlt0
    have hl1 : W2.heap.size < q.heap.size := (Array.getElem?_eq_some_iff.1 hr).1
    have hl2 : w.heap.size < q.heap.size := Nat.lt_trans hlt2 hl1
    obtain ⟨c0, c1, c2, _, _, _⟩ := row3w hr
    have HR := hide hr
    have HO := hide ho
    have HB := hide hbq
    have HE := hide hEq
    clear hr ho hbq HO2 hB2 hE hEq
    go_region_with (first
      | (go_at_call 69; refine (unhide CC _ ?_).mono ?_; exact unhide HE; rintro e w3 ⟨rfl, hb3⟩; have hr3 := (hb3.block W2.heap.size hl1).trans (unhide HR); have ho3 := (hb3.block w.heap.size hl2).trans (unhide HO); obtain ⟨k0, k1, k2, _, _, _⟩ := row3w hr3; obtain ⟨o0, o1, o2, o3, p0, p1, p2, p3⟩ := row4f ho3; have hbb := (unhide HB).drew.trans (hb3.mono (unhide HB).size); have HH := hide (And.intro ho3 hbb); clear hr3 ho3 hb3 hbb))
    all_goals
      go_wp2
      refine bodyPost_ret (v := .agg #[.int .i64 pc, .int .i64 pi, .string pd, .int .i64 oc]) (by simp [results, Tryd.results37, asAddr, load4 (set4_at (unhide HH).1 (.int .i64 pc) (.int .i64 pi) (.string pd) (.int .i64 oc))]) rfl ⟨rfl, ?_⟩
      exact ((((unhide HH).2.setCell (p := ⟨w.heap.size, 0, none⟩) (Nat.le_refl _) _).setCell (p := ⟨w.heap.size, 1, none⟩) (Nat.le_refl _) _).setCell (p := ⟨w.heap.size, 2, none⟩) (Nat.le_refl _) _).setCell (p := ⟨w.heap.size, 3, none⟩) (Nat.le_refl _) _
  · have d0 : (8000 : Int) < (t.size : Int) := by omega
    rw [Op.pread_long (by rw [len_dat]; omega)]
    go_enter Tryd.func37, Tryd.ntmps37
    go_wp2
    refine bodyPost_ret (v := poV (Op.no 2)) ?_ rfl ⟨rfl, (Below.refl _ _).alloc (Nat.le_refl _) _⟩
    simp [results, Tryd.results37, go_sem, poV, Op.no]
end Go.Proofs.YtgelbobocjgdaaaDoor
