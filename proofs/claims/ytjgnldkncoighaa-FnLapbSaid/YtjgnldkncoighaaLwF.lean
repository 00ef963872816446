/- The program's end at work: the first text that waits stands by the next number; what else lay in memory stands. -/
import Derived.Test.YtjgnldkncoighaaLwA
import Derived.Great.Walk
namespace Go.Proofs.Ytjgnldkncoighaa
open Go.RowKit
set_option maxHeartbeats 400000 in
theorem iNumN (n : Int) (hn : 0 ≤ n ∧ n ≤ 7) (w : World) : Calls Try.prog 56 #[.int .i64 n] w fun e w' => e = .returned (.int .i64 ((n + 1) % 8)) ∧ w' = w := by
  go_enter Try.func56, Try.ntmps56
  go_wp2
  go_ret
  exact ⟨rfl, rfl⟩
set_option maxHeartbeats 4000000 in
theorem iNumF {w0 : World} {B M : Nat} {p : Lp} {S Q : List ByteArray} {F : List Nb} {G : List ByteArray} {vq vf vg : Value} {q : World} {t : ByteArray} (h : Lw w0 B M p S (t :: Q) F G vq vf vg q) (ha : 0 ≤ p.va ∧ p.va ≤ 7) (hS : S.length ≤ 7) (hv : p.vs = (p.va + S.length) % 8) :
    Calls Try.prog 53 #[.pointer (some ⟨B, 0, none⟩)] q fun e q' => e = .returned (.tuple #[]) ∧ (∃ vq', Lw w0 B M ⟨p.wi, (p.vs + 1) % 8, p.va, p.vr, p.ak⟩ (S ++ [t]) Q F G vq' vf vg q') ∧ (∀ k, k ≠ B → k ≠ M → q'.heap[k]? = q.heap[k]?) ∧ q'.heap.size = q.heap.size := by
  obtain ⟨g, o, cp, e1, k1, hcp, _, _⟩ := h.hq.first
  obtain ⟨ob, hup, hmp⟩ := h.drew.mp.put ha hS t
  obtain ⟨wi, vs, va, vr, ak⟩ := p
  dsimp only at *
  subst e1
  rw [← hv] at hup
  have hvs : 0 ≤ vs ∧ vs ≤ 7 := by omega
  have C := hide fun v => iNumN vs hvs v
  obtain ⟨c0, c1, c2, c3, c4, c5, c6, c7, c8⟩ := row9l h.row
  have H1 := hide (h.drew.putM hmp)
  have HS := hide (putB_size q.drew M ob)
  have HO := hide (fun k (hk : k ≠ M) => putB_other q.drew M k ob hk)
  clear h hmp hv
  generalize hW : putB q.drew M ob = W at *
  clear hW
  go_enter Try.func53, Try.ntmps53
  go_upto_region 0 with fail
  go_region
  clear hup c0 c1 c2 c3 c4 c5 c6 c7 c8 k1
  obtain ⟨c0, c1, c2, c3, c4, c5, c6, c7, c8⟩ := row9l (unhide H1).row
  have f4 := frz (unhide H1).row 4
  have f1 := frz (unhide H1).row 1
  obtain ⟨n, hn⟩ : ∃ n, Q.length = n := ⟨_, rfl⟩
  rw [hn] at c4 ⊢
  dsimp only at c0 c1 c2 c3 c5
  go_wp2_with (first
    | (go_at_call 56; refine (unhide C _).mono ?_; rintro e w3 ⟨rfl, hw⟩; replace hw := hw.symm; subst hw))
  · have hn0 : n = 0 := by omega
    subst hn0
    have h4 := (unhide H1).set (i := 4) (x := .slice (some ⟨g, o, none⟩) 0 0) (p' := ⟨wi, vs, va, vr, ak⟩) (vq' := .slice (some ⟨g, o, none⟩) 0 0) (vf' := vf) (vg' := vg) (Q' := Q) (F' := F) (G' := G) rfl rfl (fun _ k => ?_) (fun k => k) (fun k => k)
    · have h5 := h4.setP (i := 1) (x := .int .i64 ((vs + 1) % 8)) (p' := ⟨wi, (vs + 1) % 8, va, vr, ak⟩) rfl rfl
      refine Great.bodyPost_end0 rfl rfl ⟨rfl, ⟨_, h5⟩, fun k hB hM => ?_, ?_⟩
      · rw [heap_setCell_other _ _ _ _ hB, heap_setCell_other _ _ _ _ hB, unhide HO k hM]
        rfl
      · rw [World.size_setCell, World.size_setCell, unhide HS]
        rfl
    · obtain ⟨g', o', cp', e', _, _, hq1, _⟩ := k.first
      cases e'
      have := hq1 hn (by first | rfl | assumption | omega)
      rw [hn] at this
      exact this
  · have h4 := (unhide H1).set (i := 4) (x := .slice (some ⟨g, o + 1, none⟩) n (cp - 1)) (p' := ⟨wi, vs, va, vr, ak⟩) (vq' := .slice (some ⟨g, o + 1, none⟩) n (cp - 1)) (vf' := vf) (vg' := vg) (Q' := Q) (F' := F) (G' := G) rfl rfl (fun _ k => ?_) (fun k => k) (fun k => k)
    · have h5 := h4.setP (i := 1) (x := .int .i64 ((vs + 1) % 8)) (p' := ⟨wi, (vs + 1) % 8, va, vr, ak⟩) rfl rfl
      refine Great.bodyPost_end0 rfl rfl ⟨rfl, ⟨_, h5⟩, fun k hB hM => ?_, ?_⟩
      · rw [heap_setCell_other _ _ _ _ hB, heap_setCell_other _ _ _ _ hB, unhide HO k hM]
        rfl
      · rw [World.size_setCell, World.size_setCell, unhide HS]
        rfl
    · obtain ⟨g', o', cp', e', _, _, _, hq1⟩ := k.first
      cases e'
      rw [hn] at hq1
      exact hq1
end Go.Proofs.Ytjgnldkncoighaa
