/- One option read off bytes, the program's; what lay in memory stands. -/
import Derived.Test.YtgelbobocjgdaaaDoorReadAs
namespace Go.Proofs.YtgelbobocjgdaaaDoor
open Go.RowKit
theorem own_lower {w : World} {base base' : Nat} {e : TypeId} {size : Nat} {v : Value} {n : Nat} {xs : List Value} (h : w.ownsRow base e size v n xs) (hb : base' ≤ base) : w.ownsRow base' e size v n xs :=
  ⟨h.1, h.2.imp id fun ⟨g, cap, cur, h1, h2, h3⟩ => ⟨g, cap, cur, h1, Nat.le_trans hb h2, h3⟩⟩
/-- What stands in the rounds of a reading: the map of the readers, the parts, the place of the answer. -/
structure Ra (w W : World) (M Pb E : Nat) (ks zs : Array Value) : Prop where
  hm : W.heap[M]? = some (.map readers 4)
  hp : W.heap[Pb]? = some (.cells ks 140)
  he : W.heap[E]? = some (.cells zs 127)
  below : Below w.heap.size w W
theorem Ra.off {w W W' : World} {M Pb E N R : Nat} {ks zs : Array Value} (h : Ra w W M Pb E ks zs) (ho : Off N R W W') (h1 : M < N) (h2 : Pb < N) (h3 : E < N) (n1 : M ≠ R) (n2 : Pb ≠ R) (n3 : E ≠ R) (hw : w.heap.size ≤ N) (hr : w.heap.size ≤ R) : Ra w W' M Pb E ks zs :=
  ⟨(ho.block M h1 n1).trans h.hm, (ho.block Pb h2 n2).trans h.hp, (ho.block E h3 n3).trans h.he, h.below.trans (ho.below hw hr)⟩
theorem kind_cell {w : World} {Pb : Nat} {ks : Array Value} {T : TypeId} (h : w.heap[Pb]? = some (.cells ks T)) (i : Nat) (x : Value) (hx : ks[i]? = some x) : w.cell? ⟨Pb, i, none⟩ = some x := by
  rw [cell_of_row _ _ _ _ _ _ h]; exact hx
theorem start4 (w : World) (a b c d : Obj) : ((((w.alloc a).alloc b).alloc c).alloc d).heap.size = w.heap.size + 1 + 1 + 1 + 1 ∧ ((((w.alloc a).alloc b).alloc c).alloc d).heap[w.heap.size]? = some a ∧ ((((w.alloc a).alloc b).alloc c).alloc d).heap[w.heap.size + 1]? = some b ∧
    ((((w.alloc a).alloc b).alloc c).alloc d).heap[w.heap.size + 1 + 1]? = some c ∧ ((((w.alloc a).alloc b).alloc c).alloc d).heap[w.heap.size + 1 + 1 + 1]? = some d ∧ Below w.heap.size w ((((w.alloc a).alloc b).alloc c).alloc d) := by
  have s1 : (w.alloc a).heap.size = w.heap.size + 1 := by simp
  have s2 : ((w.alloc a).alloc b).heap.size = w.heap.size + 1 + 1 := by simp
  have s3 : (((w.alloc a).alloc b).alloc c).heap.size = w.heap.size + 1 + 1 + 1 := by simp
  have e1 := heap_alloc_new w a
  have e2 := heap_alloc_new (w.alloc a) b
  have e3 := heap_alloc_new ((w.alloc a).alloc b) c
  have e4 := heap_alloc_new (((w.alloc a).alloc b).alloc c) d
  rw [s1] at e2
  rw [s2] at e3
  rw [s3] at e4
  refine ⟨by simp, ?_, ?_, ?_, e4, ((((Below.refl _ _).alloc (Nat.le_refl _) _).alloc (by omega) _).alloc (by omega) _).alloc (by omega) _⟩
  · rw [Below.heap_alloc _ _ _ (by omega), Below.heap_alloc _ _ _ (by omega), Below.heap_alloc _ _ _ (by omega)]; exact e1
  · rw [Below.heap_alloc _ _ _ (by omega), Below.heap_alloc _ _ _ (by omega)]; exact e2
  · rw [Below.heap_alloc _ _ _ (by omega)]; exact e3
theorem row4v {w : World} {B : Nat} {x0 x1 x2 x3 : Value} {T : TypeId} (h : w.heap[B]? = some (.cells #[x0, x1, x2, x3] T)) :
    w.cell? ⟨B, 0, none⟩ = some x0 ∧ w.cell? ⟨B, 1, none⟩ = some x1 ∧ w.cell? ⟨B, 2, none⟩ = some x2 ∧ w.cell? ⟨B, 3, none⟩ = some x3 :=
  ⟨by rw [cell_of_row _ _ _ _ _ _ h]; rfl, by rw [cell_of_row _ _ _ _ _ _ h]; rfl, by rw [cell_of_row _ _ _ _ _ _ h]; rfl, by rw [cell_of_row _ _ _ _ _ _ h]; rfl⟩
/-- The answer's place ahead of the answer. -/
def zero8 : Array Value := #[.slice none 0 0, .int .i64 0, .int .i64 0, .int .i64 0, .slice none 0 0, .slice none 0 0, .int .i64 0, .string ⟨#[]⟩]
/-- A reading laid whole into the answer's place. -/
def set8 (W : World) (E : Nat) (x0 x1 x2 x3 x4 x5 x6 x7 : Value) : World :=
  (((((((W.setCell ⟨E, 0, none⟩ x0).setCell ⟨E, 1, none⟩ x1).setCell ⟨E, 2, none⟩ x2).setCell ⟨E, 3, none⟩ x3).setCell ⟨E, 4, none⟩ x4).setCell ⟨E, 5, none⟩ x5).setCell ⟨E, 6, none⟩ x6).setCell ⟨E, 7, none⟩ x7
theorem infoR : (Tryd.prog.info? 127).map (·.size) = some 8 := by kernel_rfl
theorem set8_load {W : World} {E : Nat} {z0 z1 z2 z3 z4 z5 z6 z7 : Value} (h : W.heap[E]? = some (.cells #[z0, z1, z2, z3, z4, z5, z6, z7] 127)) (x0 x1 x2 x3 x4 x5 x6 x7 : Value) :
    (loadVar 127 ⟨E, 0, none⟩).run Tryd.prog (set8 W E x0 x1 x2 x3 x4 x5 x6 x7) = .ok (.agg #[x0, x1, x2, x3, x4, x5, x6, x7]) (set8 W E x0 x1 x2 x3 x4 x5 x6 x7) := by
  have h0 : (W.setCell ⟨E, 0, none⟩ x0).heap[E]? = some (.cells #[x0, z1, z2, z3, z4, z5, z6, z7] 127) := by rw [heap_setCell_same _ _ 0 _ _ _ h]; rfl
  have h1 : ((W.setCell ⟨E, 0, none⟩ x0).setCell ⟨E, 1, none⟩ x1).heap[E]? = some (.cells #[x0, x1, z2, z3, z4, z5, z6, z7] 127) := by rw [heap_setCell_same _ _ 1 _ _ _ h0]; rfl
  have h2 : (((W.setCell ⟨E, 0, none⟩ x0).setCell ⟨E, 1, none⟩ x1).setCell ⟨E, 2, none⟩ x2).heap[E]? = some (.cells #[x0, x1, x2, z3, z4, z5, z6, z7] 127) := by rw [heap_setCell_same _ _ 2 _ _ _ h1]; rfl
  have h3 : ((((W.setCell ⟨E, 0, none⟩ x0).setCell ⟨E, 1, none⟩ x1).setCell ⟨E, 2, none⟩ x2).setCell ⟨E, 3, none⟩ x3).heap[E]? = some (.cells #[x0, x1, x2, x3, z4, z5, z6, z7] 127) := by rw [heap_setCell_same _ _ 3 _ _ _ h2]; rfl
  have h4 : (((((W.setCell ⟨E, 0, none⟩ x0).setCell ⟨E, 1, none⟩ x1).setCell ⟨E, 2, none⟩ x2).setCell ⟨E, 3, none⟩ x3).setCell ⟨E, 4, none⟩ x4).heap[E]? = some (.cells #[x0, x1, x2, x3, x4, z5, z6, z7] 127) := by rw [heap_setCell_same _ _ 4 _ _ _ h3]; rfl
  have h5 : ((((((W.setCell ⟨E, 0, none⟩ x0).setCell ⟨E, 1, none⟩ x1).setCell ⟨E, 2, none⟩ x2).setCell ⟨E, 3, none⟩ x3).setCell ⟨E, 4, none⟩ x4).setCell ⟨E, 5, none⟩ x5).heap[E]? = some (.cells #[x0, x1, x2, x3, x4, x5, z6, z7] 127) := by rw [heap_setCell_same _ _ 5 _ _ _ h4]; rfl
  have h6 : (((((((W.setCell ⟨E, 0, none⟩ x0).setCell ⟨E, 1, none⟩ x1).setCell ⟨E, 2, none⟩ x2).setCell ⟨E, 3, none⟩ x3).setCell ⟨E, 4, none⟩ x4).setCell ⟨E, 5, none⟩ x5).setCell ⟨E, 6, none⟩ x6).heap[E]? = some (.cells #[x0, x1, x2, x3, x4, x5, x6, z7] 127) := by rw [heap_setCell_same _ _ 6 _ _ _ h5]; rfl
  have h7 : ((((((((W.setCell ⟨E, 0, none⟩ x0).setCell ⟨E, 1, none⟩ x1).setCell ⟨E, 2, none⟩ x2).setCell ⟨E, 3, none⟩ x3).setCell ⟨E, 4, none⟩ x4).setCell ⟨E, 5, none⟩ x5).setCell ⟨E, 6, none⟩ x6).setCell ⟨E, 7, none⟩ x7).heap[E]? = some (.cells #[x0, x1, x2, x3, x4, x5, x6, x7] 127) := by rw [heap_setCell_same _ _ 7 _ _ _ h6]; rfl
  exact run_loadVar_row (P := Tryd.prog) _ _ 127 127 #[x0, x1, x2, x3, x4, x5, x6, x7] (0, 0) _ h7 Tryd.underlying127 rfl infoR
theorem set8_block (W : World) (E : Nat) (x0 x1 x2 x3 x4 x5 x6 x7 : Value) (g : Nat) (hg : g ≠ E) : (set8 W E x0 x1 x2 x3 x4 x5 x6 x7).heap[g]? = W.heap[g]? := by
  unfold set8
  rw [Below.heap_setCell _ _ _ g hg, Below.heap_setCell _ _ _ g hg, Below.heap_setCell _ _ _ g hg, Below.heap_setCell _ _ _ g hg, Below.heap_setCell _ _ _ g hg, Below.heap_setCell _ _ _ g hg, Below.heap_setCell _ _ _ g hg, Below.heap_setCell _ _ _ g hg]
theorem set8_below {n : Nat} {w W : World} {E : Nat} (h : Below n w W) (hE : n ≤ E) (x0 x1 x2 x3 x4 x5 x6 x7 : Value) : Below n w (set8 W E x0 x1 x2 x3 x4 x5 x6 x7) :=
  (((((((h.setCell (p := ⟨E, 0, none⟩) hE _).setCell (p := ⟨E, 1, none⟩) hE _).setCell (p := ⟨E, 2, none⟩) hE _).setCell (p := ⟨E, 3, none⟩) hE _).setCell (p := ⟨E, 4, none⟩) hE _).setCell (p := ⟨E, 5, none⟩) hE _).setCell (p := ⟨E, 6, none⟩) hE _).setCell (p := ⟨E, 7, none⟩) hE _
/-- One option was read. -/
def OptAns (w w' : World) (Pb B : Nat) (k : UInt8) (t : ByteArray) (l : List UInt8) (e : Ending) : Prop :=
  ∃ off cap sa sc x, e = .returned (.tuple #[.agg #[.slice (some ⟨Pb, 0, none⟩) 3 3, .int .i64 2, .int .i64 20, .int .i64 3, .slice (some ⟨B, off, none⟩) l.length cap, .slice sa 1 sc, .int .i64 x, .string t], .nilIface]) ∧ Rest w' B (.slice (some ⟨B, off, none⟩) l.length cap) l ∧ w'.ownsRow w.heap.size 2 1 (.slice sa 1 sc) 1 [.int .i64 k.toNat] ∧ Below w.heap.size w w'
set_option maxHeartbeats 2000000 in
theorem opt_good (w : World) (Pb B : Nat) (v : Value) (k n : UInt8) (r : List UInt8) (hP : w.heap[Pb]? = some (.cells #[.int .i64 0, .int .i64 1, .int .i64 3] 140)) (hB : B < w.heap.size) (hv : Rest w B v (k :: n :: r)) (hg : bad 2 20 n.toNat r = false) :
    Calls Tryd.prog 87 #[.agg #[.slice (some ⟨Pb, 0, none⟩) 3 3, .int .i64 2, .int .i64 20, .int .i64 3], v] w fun e w' => OptAns w w' Pb B k (txt (r.take (n.toNat - 2))) (r.drop (n.toNat - 2)) e := by
  have hPw : Pb < w.heap.size := (Array.getElem?_eq_some_iff.1 hP).1
  obtain ⟨off, cap, hvf, hcap, hl⟩ := hv
  subst hvf
  have HL := hide hl
  have HP := hide hP
  have HC := hide hcap
  clear hl hP hcap
  go_enter Tryd.func87, Tryd.ntmps87
  go_wp2_with fail
  refine (partReaders _).mono ?_
  rintro e w1 ⟨rfl, hw1⟩
  obtain ⟨hs, q0, q1, q2, q3, hb1⟩ := start4 w (.cells #[.slice (some ⟨Pb, 0, none⟩) 3 3, .int .i64 2, .int .i64 20, .int .i64 3] 125) (.cells zero8 127)
    (.cells #[.slice (some ⟨Pb, 0, none⟩) 3 3, .int .i64 2, .int .i64 20, .int .i64 3, .slice (some ⟨B, off, none⟩) (r.length + 1 + 1) cap, .slice none 0 0, .int .i64 0, .string ⟨#[]⟩] 127) (.map readers 4)
  unfold zero8 at hs q0 q1 q2 q3 hb1
  rw [← hw1] at hs q0 q1 q2 q3 hb1
  have hra : Ra w w1 (w.heap.size + 1 + 1 + 1) Pb (w.heap.size + 1) #[.int .i64 0, .int .i64 1, .int .i64 3] zero8 := ⟨q3, (hb1.block Pb hPw).trans (unhide HP), q1, hb1⟩
  have hrd : Rdg w1 (w.heap.size + 1 + 1) (w.heap.size + 1 + 1 + 1 + 1) B (.slice (some ⟨Pb, 0, none⟩) 3 3) 2 20 3 (k :: n :: r) [] 0 ⟨#[]⟩ :=
    ⟨_, _, q2, ⟨off, cap, rfl, unhide HC, (unhide HL).same (hb1.block B hB)⟩, ⟨rfl, Or.inl ⟨rfl, rfl⟩⟩⟩
  obtain ⟨c0, c1, c2, c3⟩ := row4v q0
  have HRA := hide hra
  have HRD := hide hrd
  have l0 := look_at w1 (w.heap.size + 1 + 1 + 1) readers 4 0 0 (fnV 101) hra.hm rfl
  have k0 := kind_cell hra.hp 0 _ rfl
  clear hra hrd hw1 q0 q1 q2 q3 HL HP HC
  go_wp2_with fail
  refine wp_loop_rounds 4 ?_
  rw [rounds_succ]
  go_wp2_with fail
  refine (single_any _ _ B _ 2 20 3 (k :: n :: r) [] 0 ⟨#[]⟩ w1 (by omega) (by omega) (by omega) (by omega) (by simp) (unhide HRD)).mono ?_
  rintro e w2 ⟨hof, ⟨hn, _⟩ | ⟨c, r', hc, rfl, hrd⟩⟩
  · cases hn
  obtain ⟨rfl, rfl⟩ := List.cons.inj hc
  have hra := (unhide HRA).off hof (by omega) (by omega) (by omega) (by omega) (by omega) (by omega) (by omega) (by omega)
  have hs2 := hof.size
  have l1 := look_at w2 (w.heap.size + 1 + 1 + 1) readers 4 1 1 (fnV 102) hra.hm rfl
  have k1 := kind_cell hra.hp 1 _ rfl
  clear HRA HRD hc l0 k0 c0 c1 c2 c3 hb1
  have HRA := hide hra
  have HRD := hide hrd
  clear hra hrd hof
  go_wp2_with fail
  rw [rounds_succ]
  go_wp2_with fail
  have C := hide (cnt_any1 _ _ B _ 2 20 3 (n :: r) _ 0 ⟨#[]⟩ w2 (by omega) (by omega) (by omega) (by omega) (by omega) (by simp) (unhide HRD))
  rw [show numOf (List.take 1 (n :: r)) = n.toNat by simp [numOf], show List.drop 1 (n :: r) = r from rfl, hg, if_neg (by decide)] at C
  refine (unhide C).mono ?_
  rintro e w3 ⟨rfl, hnr, hrd⟩
  have hra := (unhide HRA).off (hnr.off (N := w.heap.size + 1 + 1 + 1 + 1) (by omega)) (by omega) (by omega) (by omega) (by omega) (by omega) (by omega) (by omega) (by omega)
  have hs3 := hnr.size
  have l3 := look_at w3 (w.heap.size + 1 + 1 + 1) readers 4 3 3 (fnV 104) hra.hm rfl
  have k2 := kind_cell hra.hp 2 _ rfl
  clear HRA HRD C l1 k1
  have HRA := hide hra
  have HRD := hide hrd
  clear hra hrd hnr
  go_wp2_with fail
  rw [rounds_succ]
  go_wp2_with fail
  obtain ⟨g1, g2, g3⟩ : 2 ≤ n.toNat ∧ n.toNat ≤ 22 ∧ n.toNat - 2 ≤ r.length := by
    have := of_decide_eq_false hg
    omega
  have hrd := unhide HRD
  rw [show ((n.toNat : Nat) : Int) - 2 = ((n.toNat - 2 : Nat) : Int) by omega] at hrd
  refine (dat_any _ _ B _ 2 20 3 r _ (n.toNat - 2) ⟨#[]⟩ w3 (by omega) (by omega) (by omega) g3 hrd).mono ?_
  rintro e w4 ⟨rfl, hnr, hrd2⟩
  have hra := (unhide HRA).off (hnr.off (N := w.heap.size + 1 + 1 + 1 + 1) (by omega)) (by omega) (by omega) (by omega) (by omega) (by omega) (by omega) (by omega) (by omega)
  obtain ⟨v', s, hR, hv, ho⟩ := hrd2
  obtain ⟨off', cap', hvf, hcap', hl'⟩ := hv
  subst hvf
  obtain ⟨sa, sc, hsf⟩ := own_form ho
  subst hsf
  have hE := hra.he
  unfold zero8 at hE
  have hfin := hra.below
  obtain ⟨c0, c1, c2, c3, c4, c5, c6, c7, _⟩ := rg8 hR
  obtain ⟨e0, e1, e2, e3, e4, e5, e6, e7, ef⟩ := rg8 hE
  have f0 := ef 0
  have f1 := ef 1
  have f2 := ef 2
  have f3 := ef 3
  have f4 := ef 4
  have f5 := ef 5
  have f6 := ef 6
  have f7 := ef 7
  have HL := hide hl'
  have HO := hide ho
  have FIN := hide (set8_load hE)
  unfold set8 at FIN
  clear HRA HRD hrd hnr hra hR hl' ho ef hE l3 k2 hg
  go_wp2_with fail
  rw [rounds_succ]
  go_wp2
  refine bodyPost_ret (v := .tuple #[.agg #[.slice (some ⟨Pb, 0, none⟩) 3 3, .int .i64 2, .int .i64 20, .int .i64 3, .slice (some ⟨B, off', none⟩) (r.drop (n.toNat - 2)).length cap', .slice sa 1 sc, .int .i64 ((n.toNat - 2 : Nat) : Int), .string (txt (r.take (n.toNat - 2)))], .nilIface]) (by simp [results, Tryd.results87, asAddr, unhide FIN]) rfl ?_
  have hne : B ≠ w.heap.size + 1 := by omega
  refine ⟨_, _, _, _, _, rfl, ⟨off', cap', rfl, hcap', (unhide HL).same (set8_block w4 (w.heap.size + 1) _ _ _ _ _ _ _ _ B hne)⟩, ?_, set8_below (E := w.heap.size + 1) hfin (Nat.le_succ _) _ _ _ _ _ _ _ _⟩
  refine own_lower (own_same (unhide HO) fun g hg _ => set8_block w4 (w.heap.size + 1) _ _ _ _ _ _ _ _ g ?_) (by omega)
  clear FIN
  omega
end Go.Proofs.YtgelbobocjgdaaaDoor
