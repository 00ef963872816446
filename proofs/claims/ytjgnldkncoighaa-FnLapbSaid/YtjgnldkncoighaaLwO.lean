/- The program tells what came of the work: an answer in rows of its own; what lay in memory stands. -/
import Derived.Test.YtjgnldkncoighaaLwW
namespace Go.Proofs.Ytjgnldkncoighaa
open Go.RowKit
def loC (p : Lp) (v vf vg : Value) (cd : Int) : Array Value := #[.int .i64 p.wi, .int .i64 p.vs, .int .i64 p.va, .int .i64 p.vr, v, .bool p.ak, vf, vg, .int .i64 cd]
/-- An answer. -/
structure LO where
  p : Lp
  Q : List ByteArray
  sn : List Nb
  gt : List ByteArray
  cd : Int
def loErr (k : Int) : LO := ⟨lpZero, [], [], [], k⟩
/-- An answer, laid in memory behind a world. -/
def AnsL (w0 : World) (o : LO) (e : Ending) (q : World) : Prop :=
  ∃ v vf vg, e = .returned (.agg (loC o.p v vf vg o.cd)) ∧ q.ownsRow w0.heap.size 9 1 v o.Q.length (scells o.Q) ∧ q.ownsRow w0.heap.size 30 4 vf o.sn.length (nbcells o.sn) ∧ q.ownsRow w0.heap.size 9 1 vg o.gt.length (scells o.gt) ∧
    (∀ g, v.ownBlock = some g → vg.ownBlock ≠ some g) ∧ Below w0.heap.size w0 q
theorem infoLo : (Try.prog.info? 35).map (·.size) = some 9 := by kernel_rfl
theorem loadLo {W : World} {E : Nat} {cs : Array Value} (h : W.heap[E]? = some (.cells cs 35)) (hs : cs.size = 9 := by rfl) : (loadVar 35 ⟨E, 0, none⟩).run Try.prog W = .ok (.agg cs) W :=
  run_loadVar_row (P := Try.prog) _ _ 35 35 cs (0, 0) _ h Try.underlying35 rfl (by rw [hs]; exact infoLo)
theorem set9_lo {W : World} {E : Nat} {z0 z1 z2 z3 z4 z5 z6 z7 z8 : Value} {T : TypeId} (h : W.heap[E]? = some (.cells #[z0, z1, z2, z3, z4, z5, z6, z7, z8] T)) (x0 x1 x2 x3 x4 x5 x6 x7 x8 : Value) :
    (((((((((W.setCell ⟨E, 0, none⟩ x0).setCell ⟨E, 1, none⟩ x1).setCell ⟨E, 2, none⟩ x2).setCell ⟨E, 3, none⟩ x3).setCell ⟨E, 4, none⟩ x4).setCell ⟨E, 5, none⟩ x5).setCell ⟨E, 6, none⟩ x6).setCell ⟨E, 7, none⟩ x7).setCell ⟨E, 8, none⟩ x8).heap[E]? = some (.cells #[x0, x1, x2, x3, x4, x5, x6, x7, x8] T) := by
  rw [heap_setCell_same _ _ 8 _ _ x8 (heap_setCell_same _ _ 7 _ _ x7 (heap_setCell_same _ _ 6 _ _ x6 (heap_setCell_same _ _ 5 _ _ x5 (heap_setCell_same _ _ 4 _ _ x4 (heap_setCell_same _ _ 3 _ _ x3 (heap_setCell_same _ _ 2 _ _ x2 (heap_setCell_same _ _ 1 _ _ x1 (heap_setCell_same _ _ 0 _ _ x0 h))))))))]
  simp only [List.setIfInBounds_toArray, List.set_cons_zero, List.set_cons_succ]
theorem set9_ot {W : World} {E k : Nat} (hk : k ≠ E) (x0 x1 x2 x3 x4 x5 x6 x7 x8 : Value) :
    (((((((((W.setCell ⟨E, 0, none⟩ x0).setCell ⟨E, 1, none⟩ x1).setCell ⟨E, 2, none⟩ x2).setCell ⟨E, 3, none⟩ x3).setCell ⟨E, 4, none⟩ x4).setCell ⟨E, 5, none⟩ x5).setCell ⟨E, 6, none⟩ x6).setCell ⟨E, 7, none⟩ x7).setCell ⟨E, 8, none⟩ x8).heap[k]? = W.heap[k]? := by
  have f : ∀ (V : World) (i : Nat) (x : Value), (V.setCell ⟨E, i, none⟩ x).heap[k]? = V.heap[k]? := fun V i x => heap_setCell_other _ _ _ _ hk
  rw [f, f, f, f, f, f, f, f, f]
theorem set9_bl {n : Nat} {w W : World} {E : Nat} (h : Below n w W) (hE : n ≤ E) (x0 x1 x2 x3 x4 x5 x6 x7 x8 : Value) :
    Below n w (((((((((W.setCell ⟨E, 0, none⟩ x0).setCell ⟨E, 1, none⟩ x1).setCell ⟨E, 2, none⟩ x2).setCell ⟨E, 3, none⟩ x3).setCell ⟨E, 4, none⟩ x4).setCell ⟨E, 5, none⟩ x5).setCell ⟨E, 6, none⟩ x6).setCell ⟨E, 7, none⟩ x7).setCell ⟨E, 8, none⟩ x8) := by
  have f : ∀ (V : World) (i : Nat) (x : Value), Below n w V → Below n w (V.setCell ⟨E, i, none⟩ x) := fun V i x hV => hV.setCell (p := ⟨E, i, none⟩) hE _
  exact f _ _ _ (f _ _ _ (f _ _ _ (f _ _ _ (f _ _ _ (f _ _ _ (f _ _ _ (f _ _ _ (f _ _ _ h))))))))
theorem frz9l {w : World} {B : Nat} {cs : Array Value} {T : TypeId} (h : w.heap[B]? = some (.cells cs T)) :
    w.frozen? ⟨B, 0, none⟩ = false ∧ w.frozen? ⟨B, 1, none⟩ = false ∧ w.frozen? ⟨B, 2, none⟩ = false ∧ w.frozen? ⟨B, 3, none⟩ = false ∧ w.frozen? ⟨B, 4, none⟩ = false ∧ w.frozen? ⟨B, 5, none⟩ = false ∧ w.frozen? ⟨B, 6, none⟩ = false ∧ w.frozen? ⟨B, 7, none⟩ = false ∧ w.frozen? ⟨B, 8, none⟩ = false :=
  ⟨frz h _, frz h _, frz h _, frz h _, frz h _, frz h _, frz h _, frz h _, frz h _⟩
set_option maxHeartbeats 8000000 in
theorem iOutL {w0 : World} {B M : Nat} {p : Lp} {S Q : List ByteArray} {F : List Nb} {G : List ByteArray} {vq vf vg : Value} {q : World} (h : Lw w0 B M p S Q F G vq vf vg q) (ha : 0 ≤ p.va ∧ p.va ≤ 7) (hS : S.length ≤ 7) (hQ : Q.length ≤ 100) :
    Calls Try.prog 32 #[.pointer (some ⟨B, 0, none⟩)] q fun e q' => AnsL w0 ⟨p, S ++ Q, F, G, 0⟩ e q' := by
  have C := hide fun W (hb : Below q.heap.size q W) => iTexts (h.step hb) ha hS hQ
  obtain ⟨hN0, hN1, hbN, hsN⟩ := new2l q (.cells #[.int .i64 0, .int .i64 0, .int .i64 0, .int .i64 0, .slice none 0 0, .bool false, .slice none 0 0, .slice none 0 0, .int .i64 0] 35) (.cells (lpC p vq) 25)
  obtain ⟨fa, fc, rfl⟩ := own_form h.of
  obtain ⟨ga, gc, rfl⟩ := own_form h.og
  obtain ⟨qa, qc, rfl⟩ := h.hq.form
  obtain ⟨wi, vs, va, vr, ak⟩ := p
  obtain ⟨c0, c1, c2, c3, c4, c5, c6, c7, c8⟩ := row9l h.row
  have hBlt : B < q.heap.size := (Array.getElem?_eq_some_iff.1 h.row).1
  have HL := hide h
  unfold lpC at hN0 hN1 hbN hsN
  dsimp only at *
  have H0 := hide (And.intro hN0 (And.intro hN1 (And.intro hbN hsN)))
  clear h hN0 hN1 hbN hsN
  generalize hqn : Q.length = nq at *
  generalize hfn : F.length = nf at *
  generalize hgn : G.length = ng at *
  go_enter Try.func32, Try.ntmps32
  go_wp2_with fail
  refine (unhide C _ (unhide H0).2.2.1).mono ?_
  rintro e w1 ⟨u, rfl, hu, hb1⟩
  obtain ⟨ua, uc, rfl⟩ := own_form hu
  have k0 := (hb1.block q.heap.size (Array.getElem?_eq_some_iff.1 (unhide H0).1).1).trans (unhide H0).1
  have k1 := (hb1.block (q.heap.size + 1) (Array.getElem?_eq_some_iff.1 (unhide H0).2.1).1).trans (unhide H0).2.1
  have hB1 := (unhide H0).2.2.1.trans (hb1.mono (unhide H0).2.2.1.size)
  rw [(unhide H0).2.2.2] at hu
  have kL := (unhide HL).step hB1
  obtain ⟨c0, c1, c2, c3, c4, c5, c6, c7, c8⟩ := row9l kL.row
  obtain ⟨r0, r1, r2, r3, r4, r5, r6, r7, r8⟩ := row9l k0
  obtain ⟨f0, f1, f2, f3, f4, f5, f6, f7, f8⟩ := frz9l k0
  obtain ⟨l0, l1, l2, l3, l4, l5⟩ := row6l k1
  have p4 := frz k1 4
  have n1 : ¬ (B = q.heap.size) := by omega
  have n2 : ¬ (B = q.heap.size + 1) := by omega
  have n3 : ¬ (q.heap.size = q.heap.size + 1) := by omega
  have n4 : ¬ (q.heap.size + 1 = q.heap.size) := by omega
  have n5 : ¬ (q.heap.size = B) := by omega
  have n6 : ¬ (q.heap.size + 1 = B) := by omega
  have hfl : ∀ g, (Value.slice fa nf fc).ownBlock = some g → g < q.heap.size := fun g hg => ((unhide HL).of.lt g hg).2
  have hgl : ∀ g, (Value.slice ga ng gc).ownBlock = some g → g < q.heap.size := fun g hg => ((unhide HL).og.lt g hg).2
  have hw0 := (unhide HL).lo
  have HX := hide (And.intro hu (And.intro kL (And.intro k0 (And.intro hB1 (And.intro hfl (And.intro hgl hw0))))))
  clear hu kL k0 k1 hB1 hb1 H0 HL C hfl hgl hw0
  generalize hsq : (S ++ Q).length = nn at *
  dsimp only at *
  go_wp2_with fail
  go_region
  go_wp2
  obtain ⟨hu, kL, k0, hB1, hfl, hgl, hw00⟩ := unhide HX
  have hw0 := hw00.size
  have k0' : (w1.setCell ⟨q.heap.size + 1, 4, none⟩ (.slice ua nn uc)).heap[q.heap.size]? = _ := (heap_setCell_other _ _ _ _ (by show q.heap.size ≠ q.heap.size + 1; omega)).trans k0
  have hfin := set9_lo k0' (.int .i64 wi) (.int .i64 vs) (.int .i64 va) (.int .i64 vr) (.slice ua nn uc) (.bool ak) (.slice fa nf fc) (.slice ga ng gc) (.int .i64 0)
  have hot := fun (k : Nat) (h1 : k ≠ q.heap.size) (h2 : k ≠ q.heap.size + 1) => (set9_ot (W := w1.setCell ⟨q.heap.size + 1, 4, none⟩ (.slice ua nn uc)) h1 (.int .i64 wi) (.int .i64 vs) (.int .i64 va) (.int .i64 vr) (.slice ua nn uc) (.bool ak) (.slice fa nf fc) (.slice ga ng gc) (.int .i64 0)).trans (heap_setCell_other w1 ⟨q.heap.size + 1, 4, none⟩ k (.slice ua nn uc) h2)
  have hbl := set9_bl (hB1.setCell (p := ⟨q.heap.size + 1, 4, none⟩) (by show q.heap.size ≤ q.heap.size + 1; omega) (.slice ua nn uc)) (Nat.le_refl _) (.int .i64 wi) (.int .i64 vs) (.int .i64 va) (.int .i64 vr) (.slice ua nn uc) (.bool ak) (.slice fa nf fc) (.slice ga ng gc) (.int .i64 0)
  clear HX k0' k0
  generalize (((((((((((w1.setCell ⟨q.heap.size + 1, 4, none⟩ (.slice ua nn uc)).setCell ⟨q.heap.size, 0, none⟩ (.int .i64 wi)).setCell ⟨q.heap.size, 1, none⟩ (.int .i64 vs)).setCell ⟨q.heap.size, 2, none⟩ (.int .i64 va)).setCell ⟨q.heap.size, 3, none⟩ (.int .i64 vr)).setCell ⟨q.heap.size, 4, none⟩ (.slice ua nn uc)).setCell ⟨q.heap.size, 5, none⟩ (.bool ak)).setCell ⟨q.heap.size, 6, none⟩ (.slice fa nf fc)).setCell ⟨q.heap.size, 7, none⟩ (.slice ga ng gc)).setCell ⟨q.heap.size, 8, none⟩ (.int .i64 0)) : World) = Z at *
  refine bodyPost_ret (v := .agg #[.int .i64 wi, .int .i64 vs, .int .i64 va, .int .i64 vr, .slice ua nn uc, .bool ak, .slice fa nf fc, .slice ga ng gc, .int .i64 0]) (by simp [results, Try.results32, asAddr, loadLo (W := Z.drew) hfin]) rfl ?_
  refine ⟨.slice ua nn uc, .slice fa nf fc, .slice ga ng gc, rfl, ?_, ?_, ?_, ?_, ?_⟩
  · rw [hsq]
    refine own_at ⟨hu.1, hu.2.imp id fun ⟨g, cap, cur, a1, a2, a3⟩ => ⟨g, cap, cur, a1, by omega, a3⟩⟩ (fun g cur hg _ => ?_)
    have := (hu.lt g hg).1
    exact hot g (by omega) (by omega)
  · rw [hfn]
    have ho := kL.of
    rw [hfn] at ho
    exact own_at ho (fun g _ hg _ => by have := hfl g hg; exact hot g (by omega) (by omega))
  · rw [hgn]
    have ho := kL.og
    rw [hgn] at ho
    exact own_at ho (fun g _ hg _ => by have := hgl g hg; exact hot g (by omega) (by omega))
  · intro g h1 h2
    have := (hu.lt g h1).1
    have := hgl g h2
    omega
  · have hz := hw00.trans (hbl.mono hw0)
    exact ⟨hz.os, hz.tape, hz.output, hz.size, hz.block⟩
end Go.Proofs.Ytjgnldkncoighaa
