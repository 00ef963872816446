/- The program's end at work drops what was heard of; what else lay in memory stands. -/
import Derived.Test.YtjgnldkncoighaaLwQ
namespace Go.Proofs.Ytjgnldkncoighaa
open Go.RowKit
def vaOf (B : Nat) (w : World) : Int := match w.cell? ⟨B, 2, none⟩ with
  | some v => intOf v
  | none => 0
theorem vaOf_at {B : Nat} {w : World} {n : Int} (h : w.cell? ⟨B, 2, none⟩ = some (.int .i64 n)) : vaOf B w = n := by
  unfold vaOf
  rw [h]
  rfl
section
variable {w0 : World} {B M : Nat} {p : Lp} {S Q : List ByteArray} {F : List Nb} {G : List ByteArray} {vq vf vg : Value} {q : World}
theorem Lw.drop1 {t : ByteArray} {o : Obj} (h : Lw w0 B M p (t :: S) Q F G vq vf vg q) (hm : MapH (putB q M o) M ((p.va + 1) % 8) S) :
    Lw w0 B M ⟨p.wi, p.vs, (p.va + 1) % 8, p.vr, p.ak⟩ S Q F G vq vf vg ((putB q M o).setCell ⟨B, 2, none⟩ (.int .i64 ((p.va + 1) % 8))) := by
  obtain ⟨k1, k2, k3, k4⟩ := h.frM (q' := putB q M o) (fun k hk => putB_other _ _ _ _ hk)
  have hk : ∀ k, k ≠ B → ((putB q M o).setCell ⟨B, 2, none⟩ (.int .i64 ((p.va + 1) % 8))).heap[k]? = (putB q M o).heap[k]? := fun k hk => heap_setCell_other _ _ _ _ hk
  have nB : ∀ g cur T, T ≠ 59 → (putB q M o).heap[g]? = some (.cells cur T) → g ≠ B := fun g cur T hT h1 e => by
    rw [e, k1] at h1
    cases h1
    exact hT rfl
  have nM : M ≠ B := fun e => by
    obtain ⟨es, c, h1, _⟩ := h.mp
    rw [e, h.row] at h1
    cases h1
  exact ⟨heap_setCell_same _ _ 2 _ _ _ k1, hm.other (hk M nM), k2.other fun g cur _ h2 => hk g (nB g cur _ (by decide) h2), own_at k3 fun g cur _ h2 => hk g (nB g cur _ (by decide) h2), own_at k4 fun g cur _ h2 => hk g (nB g cur _ (by decide) h2), h.bB, h.bM, (putB_below h.lo h.bM _).setCell (p := ⟨B, 2, none⟩) h.bB _⟩
set_option maxHeartbeats 8000000 in
theorem iDrop (h : Lw w0 B M p S Q F G vq vf vg q) (ha : 0 ≤ p.va ∧ p.va ≤ 7) (nr : Int) (hn : 0 ≤ nr ∧ nr ≤ 7) (j : Nat) (hj : (j : Int) = far nr p.va) (hS : j ≤ S.length) :
    Calls Try.prog 40 #[.pointer (some ⟨B, 0, none⟩), .int .i64 nr] q fun e q' => e = .returned (.tuple #[]) ∧ Lw w0 B M ⟨p.wi, p.vs, nr, p.vr, p.ak⟩ (S.drop j) Q F G vq vf vg q' := by
  obtain ⟨wi, vs, va, vr, ak⟩ := p
  dsimp only at *
  unfold far at hj
  have HL := hide h
  clear h
  go_enter Try.func40, Try.ntmps40
  go_wp2_with fail
  go_loopw [4] (fun _ wr => ∃ (i : Nat), i ≤ j ∧ Lw w0 B M ⟨wi, vs, (va + i) % 8, vr, ak⟩ (S.drop i) Q F G vq vf vg wr) (fun _ wr => j - ((vaOf B wr - va) % 8).toNat)
  case atStart =>
    refine ⟨0, Nat.zero_le _, ?_⟩
    rw [show (va + ((0 : Nat) : Int)) % 8 = va by omega, List.drop_zero]
    exact unhide HL
  case round =>
    obtain ⟨i, hi, hL⟩ := hrel
    have c2 := (row9l hL.row).2.2.1
    dsimp only at c2
    by_cases hlt : i < j
    · have d1 : ((va + (i : Int)) % 8 != nr) = true := bne_iff_ne.2 (by omega)
      have hil : i < S.length := by omega
      rw [drop_cons' hil] at hL
      obtain ⟨ob, hdel, hmp⟩ := hL.drew.mp.del 0
      have hD := hL.drew.drop1 hmp
      have kW := (hL.drew.frM (q' := putB wr.drew M ob) (fun k hk => putB_other _ _ _ _ hk)).1
      have e2 := (row9l kW).2.2.1
      have g2 := frz kW 2
      have c6 := (row9l hL.row).2.2.2.2.2.2.1
      dsimp only at hdel hD e2
      have hv0 : vaOf B wr = (va + (i : Int)) % 8 := vaOf_at c2
      have hv1 := vaOf_at (row9l hD.row).2.2.1
      have HX := hide (And.intro hD (And.intro hv0 hv1))
      have C := hide fun v => iNumN ((va + i) % 8) (by omega) v
      generalize hW : putB wr.drew M ob = W at *
      clear hW hmp kW hD hL hv0 hv1 HL
      generalize hk : (va + (i : Int)) % 8 = k at *
      go_wp2_with fail
      go_region
      clear hdel c2 c6
      go_wp2_with (first
        | (go_at_call 56; refine (unhide C _).mono ?_; rintro e w3 ⟨rfl, hw⟩; replace hw := hw.symm; subst hw))
      go_roundw
      case rel =>
        refine ⟨i + 1, by omega, ?_⟩
        have := (unhide HX).1
        rw [show (k + 1) % 8 = (va + ((i + 1 : Nat) : Int)) % 8 by omega] at this
        rw [show (k + 1) % 8 = (va + ((i + 1 : Nat) : Int)) % 8 by omega]
        exact this
      case measure =>
        rw [(unhide HX).2.1, (unhide HX).2.2]
        omega
    · have e : i = j := by omega
      subst e
      have d1 : ((va + (i : Int)) % 8 != nr) = false := by
        rw [bne_eq_false_iff_eq]
        omega
      have HV : Hid ((va + (i : Int)) % 8 = nr) := hide (by omega)
      have HX := hide hL
      clear hL HL
      go_wp2_with fail
      refine Great.bodyPost_end0 rfl rfl ⟨rfl, ?_⟩
      have := unhide HX
      rw [unhide HV] at this
      exact this
end
end Go.Proofs.Ytjgnldkncoighaa
