/- The program's end at work goes back: all that was sent waits once more; and drops what was heard of; what else lay in memory stands. -/
import Derived.Test.YtjgnldkncoighaaLwO
namespace Go.Proofs.Ytjgnldkncoighaa
open Go.RowKit
section
variable {w0 : World} {B M : Nat} {p : Lp} {S Q : List ByteArray} {F : List Nb} {G : List ByteArray} {vq vf vg : Value} {q : World}
set_option maxHeartbeats 8000000 in
theorem iGoBack (h : Lw w0 B M p S Q F G vq vf vg q) (ha : 0 ≤ p.va ∧ p.va ≤ 7) (hS : S.length ≤ 7) (hQ : Q.length ≤ 100) :
    Calls Try.prog 37 #[.pointer (some ⟨B, 0, none⟩)] q fun e q' => e = .returned (.tuple #[]) ∧ ∃ vq', Lw w0 B M ⟨p.wi, p.va, p.va, p.vr, p.ak⟩ [] (S ++ Q) F G vq' vf vg q' := by
  have C := hide (iTexts h ha hS hQ)
  have HL := hide h
  clear h
  go_enter Try.func37, Try.ntmps37
  go_wp2_with fail
  refine (unhide C).mono ?_
  rintro e w1 ⟨u, rfl, hu, hb1⟩
  obtain ⟨ua, uc, rfl⟩ := own_form hu
  have kL := (unhide HL).step hb1
  have hn4 : ∀ g, (Value.slice ua (S ++ Q).length uc).ownBlock = some g → g ≠ B := fun g hg => by
    have h1 := (hu.lt g hg).1
    have h2 := (Array.getElem?_eq_some_iff.1 (unhide HL).row).1
    omega
  have k2 := kL.set (i := 4) (x := .slice ua (S ++ Q).length uc) (p' := p) (vq' := .slice ua (S ++ Q).length uc) (vf' := vf) (vg' := vg) (Q' := S ++ Q) (F' := F) (G' := G) rfl rfl (fun _ _ => (HoldsQ.own (own_at ⟨hu.1, hu.2.imp id fun ⟨g, cap, cur, a1, a2, a3⟩ => ⟨g, cap, cur, a1, by have := (unhide HL).lo.size; omega, a3⟩⟩ (fun g _ hg _ => heap_setCell_other _ _ _ _ (hn4 g hg))))) (fun k => k) (fun k => k)
  obtain ⟨ob, hcl, hmc⟩ := k2.mp.clear p.va 0
  have k3 := k2.putM hmc
  obtain ⟨wi, vs, va, vr, ak⟩ := p
  have k4 := k3.setP (i := 1) (x := .int .i64 va) (p' := ⟨wi, va, va, vr, ak⟩) rfl rfl
  obtain ⟨c0, c1, c2, c3, c4, c5, c6, c7, c8⟩ := row9l kL.row
  have f4 := frz kL.row 4
  obtain ⟨_, _, d2, _, _, _, _, _, _⟩ := row9l k3.row
  obtain ⟨_, d1, _, _, _, _, _, _, _⟩ := row9l k3.row
  have f1 := frz k3.row 1
  have H4 := hide k4
  generalize hnn : (S ++ Q).length = nn at *
  clear kL hn4 k2 hmc k3 k4 hu hb1 HL C
  dsimp only at *
  generalize putB (w1.setCell ⟨B, 4, none⟩ (.slice ua nn uc)) M ob = W at *
  go_wp2_with fail
  exact Great.bodyPost_end0 rfl rfl ⟨rfl, _, unhide H4⟩
end
end Go.Proofs.Ytjgnldkncoighaa
