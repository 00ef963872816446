/- A bundle that was handed in, copied by the law; no condition but those named. -/
import Derived.Test.YtcanpnbpofdpcaaBdV
namespace Go.Proofs.Ytcanpnbpofdpcaa
open Go.RowKit
theorem HoldsI.set {w : World} {v : Value} {L : List Int} (h : HoldsI w v L) {a : Addr} (hne : ∀ g, v.ownBlock = some g → g ≠ a.block) (x : Value) : HoldsI (w.setCell a x) v L := by
  rcases h with ⟨ad, cp, e, e0⟩ | ⟨g, cp, cur, e, q1, q2⟩
  · exact Or.inl ⟨ad, cp, e, e0⟩
  · exact Or.inr ⟨g, cp, cur, e, (heap_setCell_other _ _ _ _ (hne g (by rw [e]; rfl))).trans q1, q2⟩
theorem HoldsG.set {w : World} {v : Value} {L : List Fg} (h : HoldsG w v L) {a : Addr} (hne : ∀ g, v.ownBlock = some g → g ≠ a.block) (x : Value) : HoldsG (w.setCell a x) v L := by
  rcases h with ⟨ad, cp, e, e0⟩ | ⟨g, cp, cur, e, q1, q2⟩
  · exact Or.inl ⟨ad, cp, e, e0⟩
  · exact Or.inr ⟨g, cp, cur, e, (heap_setCell_other _ _ _ _ (hne g (by rw [e]; rfl))).trans q1, q2⟩
theorem infoB : (Try.prog.info? 30).map (·.size) = some 2 := by kernel_rfl
theorem loadB {W : World} {E : Nat} {cs : Array Value} (h : W.heap[E]? = some (.cells cs 30)) (hs : cs.size = 2 := by rfl) : (loadVar 30 ⟨E, 0, none⟩).run Try.prog W = .ok (.agg cs) W :=
  run_loadVar_row (P := Try.prog) _ _ 30 30 cs (0, 0) _ h Try.underlying30 rfl (by rw [hs]; exact infoB)
theorem set2_bd {W : World} {E : Nat} {z0 z1 : Value} {T : TypeId} (h : W.heap[E]? = some (.cells #[z0, z1] T)) (x0 x1 : Value) :
    ((W.setCell ⟨E, 0, none⟩ x0).setCell ⟨E, 1, none⟩ x1).heap[E]? = some (.cells #[x0, x1] T) := heap_setCell_same _ _ 1 _ _ x1 (heap_setCell_same _ _ 0 _ _ x0 h)
/-- What is laid when the first row is copied. -/
theorem toB1 {w w1 : World} {a b c : Obj} {x : Value} {u : Value} {L : List Int} (hb : Below (((w.alloc a).alloc b).alloc c).heap.size (((w.alloc a).alloc b).alloc c) w1) (hu : HoldsI w1 u L) (hul : ∀ g, u.ownBlock = some g → (((w.alloc a).alloc b).alloc c).heap.size ≤ g) :
    w1.heap[w.heap.size]? = some a ∧ w1.heap[w.heap.size + 1]? = some b ∧ w1.heap[w.heap.size + 1 + 1]? = some c ∧ HoldsI (w1.setCell ⟨w.heap.size + 1 + 1, 0, none⟩ x) u L ∧ (∀ g, u.ownBlock = some g → w.heap.size + 3 ≤ g) ∧ Below w.heap.size w (w1.setCell ⟨w.heap.size + 1 + 1, 0, none⟩ x) ∧ w.heap.size + 3 ≤ w1.heap.size := by
  have q := new3b w a b c
  have hlo : ∀ g, u.ownBlock = some g → w.heap.size + 3 ≤ g := fun g hg => by have := hul g hg; rw [q.2.2.2.2] at this; exact this
  refine ⟨(hb.block _ (Array.getElem?_eq_some_iff.1 q.1).1).trans q.1, (hb.block _ (Array.getElem?_eq_some_iff.1 q.2.1).1).trans q.2.1, (hb.block _ (Array.getElem?_eq_some_iff.1 q.2.2.1).1).trans q.2.2.1, ?_, hlo, ?_, by have := hb.size; rw [q.2.2.2.2] at this; exact this⟩
  · exact hu.set (fun g hg => by have := hlo g hg; show g ≠ w.heap.size + 1 + 1; omega) _
  · exact (q.2.2.2.1.trans (hb.mono q.2.2.2.1.size)).setCell (p := ⟨w.heap.size + 1 + 1, 0, none⟩) (by show w.heap.size ≤ w.heap.size + 1 + 1; omega) _
set_option maxHeartbeats 4000000 in
theorem toBd (a1 b1 : Option Addr) (c1 d1 : Nat) (L : List Int) (F : List Fg) (w : World) (l1 : L.length ≤ 1048576) (l2 : F.length ≤ 1048576) (h1 : ArgI w (.slice a1 L.length c1) L) (k1 : ArgG w (.slice b1 F.length d1) F) :
    Calls Try.prog 7 #[.agg #[.slice a1 L.length c1, .slice b1 F.length d1]] w fun r w' => ∃ u1 z1 u2 z2, r = .returned (.agg #[.slice u1 L.length z1, .slice u2 F.length z2]) ∧ HoldsI w' (.slice u1 L.length z1) L ∧ HoldsG w' (.slice u2 F.length z2) F ∧ (∀ g, (Value.slice u1 L.length z1).ownBlock = some g → w.heap.size ≤ g) ∧ (∀ g, (Value.slice u2 F.length z2).ownBlock = some g → w.heap.size ≤ g) ∧ Below w.heap.size w w' := by
  have C := hide fun W (hb : Below w.heap.size w W) => toIs _ L W l1 (h1.below hb)
  have C2 := hide fun W (hb : Below w.heap.size w W) => toFgS _ F W l2 (k1.below hb)
  clear h1 k1
  obtain ⟨n, hn⟩ : ∃ n, L.length = n := ⟨_, rfl⟩
  obtain ⟨m, hm⟩ : ∃ m, F.length = m := ⟨_, rfl⟩
  rw [hn] at C ⊢
  rw [hm] at C2 ⊢
  have q := hide (new3b w (.cells #[.slice a1 n c1, .slice b1 m d1] 25) (.cells #[.slice none 0 0, .slice none 0 0] 30) (.cells #[.slice none 0 0, .slice none 0 0] 30))
  go_enter Try.func7, Try.ntmps7
  go_wp2_with fail
  refine (unhide C _ (unhide q).2.2.2.1).mono ?_
  rintro e w1 ⟨u, rfl, hu, hul, hb1⟩
  obtain ⟨u1, z1, e1⟩ := hu.form
  rw [hn] at e1
  subst e1
  have t1 := toB1 (x := .slice u1 n z1) hb1 hu hul
  obtain ⟨r0, r1⟩ := row2b t1.1
  obtain ⟨o0, o1⟩ := row2b t1.2.2.1
  have p0 := frz t1.2.2.1 0
  have p1 := frz t1.2.2.1 1
  have n1 : ¬ (w.heap.size = w.heap.size + 1) := by omega
  have n2 : ¬ (w.heap.size = w.heap.size + 1 + 1) := by omega
  have n3 : ¬ (w.heap.size + 1 = w.heap.size + 1 + 1) := by omega
  have n4 : ¬ (w.heap.size + 1 + 1 = w.heap.size) := by omega
  have n5 : ¬ (w.heap.size + 1 + 1 = w.heap.size + 1) := by omega
  have HT := hide t1
  clear hu hul hb1 t1 q C
  go_wp2_with fail
  refine (unhide C2 _ (unhide HT).2.2.2.2.2.1).mono ?_
  rintro e w2 ⟨v, rfl, hv, hvl, hb2⟩
  obtain ⟨u2, z2, e2⟩ := hv.form
  rw [hm] at e2
  subst e2
  have t2 : Hid (w2.heap[w.heap.size + 1]? = some (.cells #[.slice none 0 0, .slice none 0 0] 30) ∧ w2.heap[w.heap.size + 1 + 1]? = some (.cells #[.slice u1 n z1, .slice none 0 0] 30) ∧ HoldsI w2 (.slice u1 n z1) L ∧ HoldsG w2 (.slice u2 m z2) F ∧ (∀ g, (Value.slice u1 n z1).ownBlock = some g → w.heap.size + 3 ≤ g) ∧ (∀ g, (Value.slice u2 m z2).ownBlock = some g → w.heap.size + 3 ≤ g) ∧ Below w.heap.size w w2) := by
    obtain ⟨_, s1, s2, s3, s4, s5, s6⟩ := unhide HT
    have hsz : (w1.setCell ⟨w.heap.size + 1 + 1, 0, none⟩ (.slice u1 n z1)).heap.size = w1.heap.size := World.size_setCell _ _ _
    refine hide ⟨(hb2.block _ (by rw [hsz]; omega)).trans ((heap_setCell_other _ _ _ _ (by show w.heap.size + 1 ≠ w.heap.size + 1 + 1; omega)).trans s1), (hb2.block _ (by rw [hsz]; omega)).trans (heap_setCell_same _ _ 0 _ _ _ s2), s3.below hb2 rfl, hv, s4, fun g hg => ?_, s5.trans (hb2.mono s5.size)⟩
    have := hvl g hg
    rw [hsz] at this
    omega
  clear r0 r1 o0 o1 p0 p1 hv hvl hb2 HT C2
  obtain ⟨r0, r1⟩ := row2b (unhide t2).1
  obtain ⟨o0, o1⟩ := row2b (unhide t2).2.1
  have p0 := frz (unhide t2).2.1 0
  have p1 := frz (unhide t2).2.1 1
  have f0 := frz (unhide t2).1 0
  have f1 := frz (unhide t2).1 1
  go_wp2
  refine bodyPost_ret (v := .agg #[.slice u1 n z1, .slice u2 m z2]) (by simp [results, Try.results7, asAddr, loadB (set2_bd ((heap_setCell_other w2 ⟨w.heap.size + 1 + 1, 1, none⟩ (w.heap.size + 1) (.slice u2 m z2) (by show w.heap.size + 1 ≠ w.heap.size + 1 + 1; omega)).trans (unhide t2).1) (.slice u1 n z1) (.slice u2 m z2))]) rfl ?_
  obtain ⟨_, _, s3, s4, s5, s6, s7⟩ := unhide t2
  refine ⟨u1, z1, u2, z2, rfl, ?_, ?_, fun g hg => by have := s5 g hg; omega, fun g hg => by have := s6 g hg; omega, ?_⟩
  · exact ((s3.set (a := ⟨w.heap.size + 1 + 1, 1, none⟩) (fun g hg => by have := s5 g hg; show g ≠ w.heap.size + 1 + 1; omega) _).set (a := ⟨w.heap.size + 1, 0, none⟩) (fun g hg => by have := s5 g hg; show g ≠ w.heap.size + 1; omega) _).set (a := ⟨w.heap.size + 1, 1, none⟩) (fun g hg => by have := s5 g hg; show g ≠ w.heap.size + 1; omega) _
  · exact ((s4.set (a := ⟨w.heap.size + 1 + 1, 1, none⟩) (fun g hg => by have := s6 g hg; show g ≠ w.heap.size + 1 + 1; omega) _).set (a := ⟨w.heap.size + 1, 0, none⟩) (fun g hg => by have := s6 g hg; show g ≠ w.heap.size + 1; omega) _).set (a := ⟨w.heap.size + 1, 1, none⟩) (fun g hg => by have := s6 g hg; show g ≠ w.heap.size + 1; omega) _
  · exact ((s7.setCell (p := ⟨w.heap.size + 1 + 1, 1, none⟩) (by show w.heap.size ≤ w.heap.size + 1 + 1; omega) _).setCell (p := ⟨w.heap.size + 1, 0, none⟩) (by show w.heap.size ≤ w.heap.size + 1; omega) _).setCell (p := ⟨w.heap.size + 1, 1, none⟩) (by show w.heap.size ≤ w.heap.size + 1; omega) _
end Go.Proofs.Ytcanpnbpofdpcaa
