/- Two rows of parts compared by the law (lwFrags): those of the same parts are the same; what lay in memory stands. The law FnBundle walked: it returns true, and what lay in memory stands. -/
import Derived.Test.YtfkeokfmancgiaaBdR
import Derived.Test.YtfkeokfmancgiaaFgEq
import Derived.Deep.RegionHeld3
import Derived.Test.YtfkeokfmancgiaaGJ
import Derived.Test.YtfkeokfmancgiaaGI
import Derived.Test.YtfkeokfmancgiaaBdSh
import Derived.Test.YtfkeokfmancgiaaBdS
import Derived.Deep.DeepCutAuto
namespace Go.Proofs.Ytfkeokfmancgiaa
open Go.RowKit
set_option maxHeartbeats 4000000 in
theorem lwF (v1 v2 : Value) (F : List Fg) (w : World) (hn : F.length ≤ 1000000) (h1 : HoldsF w v1 F) (h2 : HoldsF w v2 F) :
    Calls Try.prog 22 #[v1, v2] w fun e w' => e = .returned (.bool true) ∧ Below w.heap.size w w' := by
  have HA := hide (And.intro h1 h2)
  obtain ⟨a1, c1, rfl⟩ := h1.1
  obtain ⟨a2, c2, rfl⟩ := h2.1
  clear h1 h2
  go_enter Try.func22, Try.ntmps22
  go_wp2_with fail
  go_loopw [5] (fun y wr => ∃ (i : Nat), i ≤ F.length ∧ y = .int .i64 i ∧ Below w.heap.size w wr) (fun y _ => F.length - (intOf y).toNat)
  case atStart => exact ⟨0, Nat.zero_le _, rfl, Below.refl _ _⟩
  case round =>
    obtain ⟨i, hi, rfl, hb⟩ := hrel
    by_cases hlt : i < F.length
    · have d1 : (i : Int) < (F.length : Int) := by omega
      obtain ⟨g1, o1, p1, e1, _, k0, k1, k2, k3⟩ := ((unhide HA).1.below hb).2 i hlt
      obtain ⟨g2, o2, p2, e2, _, m0, m1, m2, m3⟩ := ((unhide HA).2.below hb).2 i hlt
      cases e1
      cases e2
      generalize F[i] = f at *
      obtain ⟨k, bx, bf, tx⟩ := f
      dsimp only at k0 k1 k2 k3 m0 m1 m2 m3
      have hneq := neqFg k bx bf tx
      have hgrd := grdFg .neq
      have HB := hide hb
      clear hb HA
      go_wp2_with fail
      go_quiet (fail)
      go_wp2_with fail
      go_roundw
      case rel => exact ⟨i + 1, by omega, by go_num, (unhide HB).os, (unhide HB).tape, (unhide HB).output, (unhide HB).size, (unhide HB).block⟩
      case measure => simp [intOf]; omega
    · have e : i = F.length := by omega
      have d1 : ¬ ((i : Int) < (F.length : Int)) := by omega
      go_wp2
      go_ret
      exact ⟨rfl, hb⟩
end Go.Proofs.Ytfkeokfmancgiaa
namespace Go.Proofs.Ytfkeokfmancgiaa
open Go.RowKit
/-- What is heard: few texts, few parts; and if it is good: it is right, and the line has the part's number. -/
structure Fin (o : BO) (link : Int) (f : Fg) : Prop where
  l : o.L.length ≤ 1000
  p : o.F.length ≤ 1000
  g : o.G.length ≤ 1000
  ok : o.cd = 0 → bdOk o.L o.F = true ∧ o.F.length ≤ 40 ∧ 0 ≤ link ∧ link.toNat < o.L.length ∧ o.L[link.toNat]? = some f.seq
theorem errB_fin (k : Int) (hk : k ≠ 0) (link : Int) (f : Fg) : Fin (errB k) link f := ⟨Nat.zero_le _, Nat.zero_le _, Nat.zero_le _, fun h => absurd h hk⟩
theorem hearB_fin (L : List Int) (F : List Fg) (link : Int) (f : Fg) : Fin (hearB L F link f) link f := by
  unfold hearB
  split
  · rename_i h
    split
    · exact errB_fin _ (by decide) _ _
    · have hok := bdOk_ok h.1
      have h1 := hok.1.1
      have h2 := hok.2.1
      have h3 := putP_len F f
      have hr : bdOk (okB L F link.toNat f).L (okB L F link.toNat f).F = true := okB_right h.1 h.2.1
      have hk : (okB L F link.toNat f).L[link.toNat]? = some f.seq := okB_link (by omega)
      have hlen : (okB L F link.toNat f).L.length = L.length := List.length_set
      have hp := (bdOk_ok hr).2.1
      have hc : (okB L F link.toNat f).G.length ≤ (putP F f).length := by
        show (settleP _ _ _).got.length ≤ _
        exact (settle_cnt _ _ _ _ (Nat.le_refl _)).2
      exact ⟨by omega, by omega, by omega, fun _ => ⟨hr, hp, h.2.2.1, by omega, hk⟩⟩
  · exact errB_fin _ (by decide) _ _
/-- What the law has laid at first. -/
structure Fa (w q : World) (B3 B5 : Nat) (la pa : Option Addr) (lc pc : Nat) (L : List Int) (P : List Fg) (f : Fg) : Prop where
  b3 : q.heap[B3]? = some (.cells #[.slice la L.length lc, .slice pa P.length pc] 29)
  b5 : q.heap[B5]? = some (.cells #[.int .i64 f.seq, .bool f.beg, .bool f.fin, .string f.text] 33)
  hl : HoldsI q (.slice la L.length lc) L
  hp : HoldsF q (.slice pa P.length pc) P
  b : Below w.heap.size w q
variable {w q q' : World} {B3 B5 : Nat} {la pa : Option Addr} {lc pc : Nat} {L : List Int} {P : List Fg} {f : Fg}
theorem Fa.step (h : Fa w q B3 B5 la pa lc pc L P f) (hb : Below q.heap.size q q') : Fa w q' B3 B5 la pa lc pc L P f :=
  ⟨(hb.block _ (Array.getElem?_eq_some_iff.1 h.b3).1).trans h.b3, (hb.block _ (Array.getElem?_eq_some_iff.1 h.b5).1).trans h.b5, h.hl.below hb rfl, h.hp.below hb, h.b.trans (hb.mono h.b.size)⟩
/-- An answer laid in a variable. -/
structure Xa (q : World) (X : Nat) (x1 x2 x3 : Option Addr) (y1 y2 y3 : Nat) (o : BO) : Prop where
  x : q.heap[X]? = some (.cells #[.slice x1 o.L.length y1, .slice x2 o.F.length y2, .slice x3 o.G.length y3, .int .i64 (o.lost : Nat), .int .i64 o.cd] 37)
  l : HoldsI q (.slice x1 o.L.length y1) o.L
  p : HoldsF q (.slice x2 o.F.length y2) o.F
  t : HoldsT q (.slice x3 o.G.length y3) o.G
theorem Xa.step {X : Nat} {x1 x2 x3 : Option Addr} {y1 y2 y3 : Nat} {o : BO} (h : Xa q X x1 x2 x3 y1 y2 y3 o) (hb : Below q.heap.size q q') : Xa q' X x1 x2 x3 y1 y2 y3 o :=
  ⟨(hb.block _ (Array.getElem?_eq_some_iff.1 h.x).1).trans h.x, h.l.below hb rfl, h.p.below hb, h.t.below hb rfl⟩
/-- What the law has laid behind both answers. -/
def Zz (w q : World) (B3 B5 : Nat) (la pa : Option Addr) (lc pc : Nat) (L : List Int) (P : List Fg) (f : Fg) (X Y : Nat) (x1 x2 x3 u1 u2 u3 : Option Addr) (y1 y2 y3 v1 v2 v3 : Nat) (o : BO) : Prop := Fa w q B3 B5 la pa lc pc L P f ∧ Xa q X x1 x2 x3 y1 y2 y3 o ∧ Xa q Y u1 u2 u3 v1 v2 v3 o
theorem Zz.step {X Y : Nat} {x1 x2 x3 u1 u2 u3 : Option Addr} {y1 y2 y3 v1 v2 v3 : Nat} {o : BO} (h : Zz w q B3 B5 la pa lc pc L P f X Y x1 x2 x3 u1 u2 u3 y1 y2 y3 v1 v2 v3 o) (hb : Below q.heap.size q q') : Zz w q' B3 B5 la pa lc pc L P f X Y x1 x2 x3 u1 u2 u3 y1 y2 y3 v1 v2 v3 o := ⟨h.1.step hb, h.2.1.step hb, h.2.2.step hb⟩
/-- What both sides answer. -/
def Ay (z : World) (o : BO) (e : Ending) (q : World) : Prop := ∃ x1 x2 x3 y1 y2 y3, e = .returned (.agg #[.slice x1 o.L.length y1, .slice x2 o.F.length y2, .slice x3 o.G.length y3, .int .i64 (o.lost : Nat), .int .i64 o.cd]) ∧ HoldsI q (.slice x1 o.L.length y1) o.L ∧ HoldsF q (.slice x2 o.F.length y2) o.F ∧ HoldsT q (.slice x3 o.G.length y3) o.G ∧ Below z.heap.size z q
theorem AnsB.ay {z : World} {o : BO} {e : Ending} {q : World} (h : AnsB z o e q) : Ay z o e q := by
  obtain ⟨lv, pv, gv, rfl, o1, o2, o3, hb⟩ := h
  obtain ⟨x1, y1, rfl⟩ := own_form o1
  obtain ⟨x2, y2, rfl⟩ := own_form o2
  obtain ⟨x3, y3, rfl⟩ := own_form o3
  exact ⟨x1, x2, x3, y1, y2, y3, rfl, HoldsI.own o1, (HoldsG.own o2).f, HoldsT.own o3, hb⟩
theorem AnsM.ay {z : World} {o : BO} {e : Ending} {q : World} (h : AnsM z o e q) : Ay z o e q := by
  obtain ⟨x1, y1, x2, y2, x3, y3, rfl, k1, k2, _, k5, _, _, _, k9⟩ := h
  exact ⟨x1, x2, x3, y1, y2, y3, rfl, k1, k2, k5, k9⟩
theorem HoldsI.get9 {q : World} {v : Value} {L : List Int} (h : HoldsI q v L) (i : Nat) (hi : i < L.length) : ∃ g cp, v = .slice (some ⟨g, 0, none⟩) L.length cp ∧ g < q.heap.size ∧ q.cell? ⟨g, i, none⟩ = some (.int .i64 L[i]) := by
  obtain ⟨g, o, cp, e, hg, hc⟩ := h.f.2 i hi
  rcases h with ⟨ad, cp', e', e0⟩ | ⟨g', cp', cur, e', q1, q2, q3⟩
  · subst e0
    exact absurd hi (by simp)
  · rw [e'] at e
    injection e with e _ _
    injection e with e
    injection e with e1 e2 _
    subst e1
    subst e2
    rw [Nat.zero_add] at hc
    exact ⟨g', cp', e', hg, hc⟩
set_option linter.unusedSimpArgs false in
set_option maxHeartbeats 64000000 in
set_option maxRecDepth 100000 in
theorem lawBd (w : World) (s1 : Value) (n1 : Nat) (h1 : n1 ≤ maxLen) (hD1 : Dat w w.heap.size s1 n1) (hl1 : n1 ≤ 1048576) :
    Calls Try.prog 4 #[s1] w fun e w' => e = .returned (.bool true) ∧ Below w.heap.size w w' := by
  have C0 := hide (drawBh w s1 n1 h1 hD1)
  obtain ⟨sa1, cap1, rfl⟩ := hD1.1
  clear hD1
  have d1 : ¬ ((1048576 : Int) < (n1 : Int)) := by omega
  go_enter Try.func4, Try.ntmps4
  go_wp2_with fail
  refine (unhide C0).mono ?_
  rintro e w1 ⟨la, pa, lc, pc, L, P, link, f, rfl, hi1, hp1, hpc, hL8, hP100, hb1⟩
  obtain ⟨o, ho⟩ : ∃ o, hearB L P link f = o := ⟨_, rfl⟩
  have HF := hide (hearB_fin L P link f)
  have CI : Hid (∀ z, HoldsI z (.slice la L.length lc) L → HoldsF z (.slice pa P.length pc) P → Calls Try.prog 12 #[.agg #[.slice la L.length lc, .slice pa P.length pc], .int .i64 link, fgV f] z fun e q => Ay z o e q) := hide fun z h1 h2 => (iHearB la pa lc pc L P link f z (by omega) (by omega) h1 h2).mono fun e q h => by rw [ho] at h; exact h.ay
  have CS : Hid (∀ z, HoldsI z (.slice la L.length lc) L → HoldsF z (.slice pa P.length pc) P → Calls Try.prog 21 #[.agg #[.slice la L.length lc, .slice pa P.length pc], .int .i64 link, fgV f] z fun e q => Ay z o e q) := hide fun z h1 h2 => (sHearB la pa lc pc L P link f z (by omega) (by omega) h1 h2 hpc).mono fun e q h => by rw [ho] at h; exact h.ay
  rw [ho] at HF
  have CR : Hid (∀ z, HoldsI z (.slice la L.length lc) L → HoldsF z (.slice pa P.length pc) P → Calls Try.prog 23 #[.agg #[.slice la L.length lc, .slice pa P.length pc]] z fun e q => e = .returned (.bool (bdOk L P)) ∧ Below z.heap.size z q) := hide fun z h1 h2 => iBdRight la pa lc pc L P z (by unfold maxLen; omega) (by unfold maxLen; omega) h1.f h2
  have CT : Hid (∀ z, HoldsI z (.slice la L.length lc) L → HoldsF z (.slice pa P.length pc) P → Calls Try.prog 24 #[.agg #[.slice la L.length lc, .slice pa P.length pc]] z fun e q => e = .returned (.bool (bdOk L P)) ∧ Below z.heap.size z q) := hide fun z h1 h2 => sBdRight la pa lc pc L P z (by unfold maxLen; omega) (by unfold maxLen; omega) h1.f h2
  clear ho hpc hL8 hP100 C0
  generalize bdOk L P = bk at *
  obtain ⟨fq, bx, bf, tx⟩ := f
  unfold fgV at CI CS ⊢
  dsimp only at CI CS ⊢
  have H1 := hide (And.intro hi1 (And.intro hp1 hb1))
  clear hi1 hp1 hb1
  go_upto_region 4 with fail
  refine gen_world (fun q => Fa w q w1.heap.size (w1.heap.size + 1) la pa lc pc L P ⟨fq, bx, bf, tx⟩) ?_ ?_
  · obtain ⟨hN0, hN1, hb0, _⟩ := new2b w1 (.cells #[.slice la L.length lc, .slice pa P.length pc] 29) (.cells #[.int .i64 fq, .bool bx, .bool bf, .string tx] 33)
    exact ⟨hN0, hN1, (unhide H1).1.below hb0 rfl, (unhide H1).2.1.below hb0, (unhide H1).2.2.trans (hb0.mono (unhide H1).2.2.size)⟩
  intro q1 hq1
  have E0 := hide hq1
  generalize w1.heap.size + 1 = B5 at *
  generalize w1.heap.size = B3 at *
  clear hq1 H1
  obtain ⟨m0, m1⟩ := row2b (unhide E0).b3
  obtain ⟨k0, k1, k2, k3⟩ := row4g (unhide E0).b5
  go_wp2_with fail
  refine (unhide CI _ (unhide E0).hl (unhide E0).hp).mono ?_
  obtain ⟨oL, oF, oG, ol, oc⟩ := o
  rintro e w2 ⟨x1, x2, x3, y1, y2, y3, rfl, g1, g2, g3, hb2⟩
  dsimp only at g1 g2 g3 ⊢
  have E1 := hide (And.intro ((unhide E0).step hb2) (And.intro g1 (And.intro g2 g3)))
  clear g1 g2 g3 hb2 E0 m0 m1 k0 k1 k2 k3
  go_upto_region 5 with fail
  refine gen_world (fun q => Fa w q B3 B5 la pa lc pc L P ⟨fq, bx, bf, tx⟩ ∧ Xa q w2.heap.size x1 x2 x3 y1 y2 y3 ⟨oL, oF, oG, ol, oc⟩) ?_ ?_
  · have hbA := (Below.refl w2.heap.size w2).alloc (Nat.le_refl _) (.cells #[.slice x1 oL.length y1, .slice x2 oF.length y2, .slice x3 oG.length y3, .int .i64 (ol : Int), .int .i64 oc] 37)
    exact ⟨(unhide E1).1.step hbA, heap_alloc_new w2 _, (unhide E1).2.1.below hbA rfl, (unhide E1).2.2.1.below hbA, (unhide E1).2.2.2.below hbA rfl⟩
  intro q2 hq2
  have E2 := hide hq2
  generalize w2.heap.size = X at *
  clear hq2 E1
  obtain ⟨m0, m1⟩ := row2b (unhide E2).1.b3
  obtain ⟨k0, k1, k2, k3⟩ := row4g (unhide E2).1.b5
  go_wp2_with fail
  refine (unhide CS _ (unhide E2).1.hl (unhide E2).1.hp).mono ?_
  rintro e w3 ⟨u1, u2, u3, v1, v2, v3, rfl, g1, g2, g3, hb3⟩
  dsimp only at g1 g2 g3 ⊢
  have E3 := hide (And.intro ((unhide E2).1.step hb3) (And.intro ((unhide E2).2.step hb3) (And.intro g1 (And.intro g2 g3))))
  clear g1 g2 g3 hb3 E2 m0 m1 k0 k1 k2 k3
  go_upto_region 6 with fail
  refine gen_world (fun q => Fa w q B3 B5 la pa lc pc L P ⟨fq, bx, bf, tx⟩ ∧ Xa q X x1 x2 x3 y1 y2 y3 ⟨oL, oF, oG, ol, oc⟩ ∧ Xa q w3.heap.size u1 u2 u3 v1 v2 v3 ⟨oL, oF, oG, ol, oc⟩) ?_ ?_
  · have hbA := (Below.refl w3.heap.size w3).alloc (Nat.le_refl _) (.cells #[.slice u1 oL.length v1, .slice u2 oF.length v2, .slice u3 oG.length v3, .int .i64 (ol : Int), .int .i64 oc] 37)
    exact ⟨(unhide E3).1.step hbA, (unhide E3).2.1.step hbA, heap_alloc_new w3 _, (unhide E3).2.2.1.below hbA rfl, (unhide E3).2.2.2.1.below hbA, (unhide E3).2.2.2.2.below hbA rfl⟩
  intro q3 hq3
  have E4 := hide hq3
  generalize w3.heap.size = Y at *
  clear hq3 E3 CI CS
  have SY : Hid (∀ y9, Zz w y9 B3 B5 la pa lc pc L P ⟨fq, bx, bf, tx⟩ X Y x1 x2 x3 u1 u2 u3 y1 y2 y3 v1 v2 v3 ⟨oL, oF, oG, ol, oc⟩ → (y9.cell? ⟨X, 0, none⟩ = some (.slice x1 oL.length y1) ∧ y9.cell? ⟨X, 1, none⟩ = some (.slice x2 oF.length y2) ∧ y9.cell? ⟨X, 2, none⟩ = some (.slice x3 oG.length y3) ∧ y9.cell? ⟨X, 3, none⟩ = some (.int .i64 (ol : Int)) ∧ y9.cell? ⟨X, 4, none⟩ = some (.int .i64 oc) ∧ y9.cell? ⟨Y, 0, none⟩ = some (.slice u1 oL.length v1) ∧ y9.cell? ⟨Y, 1, none⟩ = some (.slice u2 oF.length v2) ∧ y9.cell? ⟨Y, 2, none⟩ = some (.slice u3 oG.length v3) ∧ y9.cell? ⟨Y, 3, none⟩ = some (.int .i64 (ol : Int)) ∧ y9.cell? ⟨Y, 4, none⟩ = some (.int .i64 oc) ∧ y9.cell? ⟨B3, 0, none⟩ = some (.slice la L.length lc) ∧ y9.cell? ⟨B3, 1, none⟩ = some (.slice pa P.length pc))) := hide fun y9 hz => by
    obtain ⟨a0, a1, a2, a3, a4⟩ := row5b hz.2.1.x
    obtain ⟨b0, b1, b2, b3, b4⟩ := row5b hz.2.2.x
    obtain ⟨m0, m1⟩ := row2b hz.1.b3
    exact ⟨a0, a1, a2, a3, a4, b0, b1, b2, b3, b4, m0, m1⟩
  go_upto_region 6 with fail
  go_cut [61] (fun v wx => v = .bool false ∧ Zz w wx B3 B5 la pa lc pc L P ⟨fq, bx, bf, tx⟩ X Y x1 x2 x3 u1 u2 u3 y1 y2 y3 v1 v2 v3 ⟨oL, oF, oG, ol, oc⟩)
  case first =>
    have E5 : Hid (Zz w q3.drew B3 B5 la pa lc pc L P ⟨fq, bx, bf, tx⟩ X Y x1 x2 x3 u1 u2 u3 y1 y2 y3 v1 v2 v3 ⟨oL, oF, oG, ol, oc⟩) := hide (Zz.step (unhide E4) ((Below.refl _ _).drew))
    refine wp_region_held_drew (S := fun y9 => y9.cell? ⟨X, 0, none⟩ = some (.slice x1 oL.length y1) ∧ y9.cell? ⟨X, 1, none⟩ = some (.slice x2 oF.length y2) ∧ y9.cell? ⟨X, 2, none⟩ = some (.slice x3 oG.length y3) ∧ y9.cell? ⟨X, 3, none⟩ = some (.int .i64 (ol : Int)) ∧ y9.cell? ⟨X, 4, none⟩ = some (.int .i64 oc) ∧ y9.cell? ⟨Y, 0, none⟩ = some (.slice u1 oL.length v1) ∧ y9.cell? ⟨Y, 1, none⟩ = some (.slice u2 oF.length v2) ∧ y9.cell? ⟨Y, 2, none⟩ = some (.slice u3 oG.length v3) ∧ y9.cell? ⟨Y, 3, none⟩ = some (.int .i64 (ol : Int)) ∧ y9.cell? ⟨Y, 4, none⟩ = some (.int .i64 oc) ∧ y9.cell? ⟨B3, 0, none⟩ = some (.slice la L.length lc) ∧ y9.cell? ⟨B3, 1, none⟩ = some (.slice pa P.length pc)) (by kernel_rfl) (unhide SY _ (unhide E5)) (fun hHeld => ?_)
    generalize q3.drew = yy at E5 hHeld ⊢
    refine wpAnyH_take (i := 0) (v := ?va1_0) rfl (by kernel_rfl) (by kernel_rfl) (by kernel_rfl) (fun _ _ _ h => h) (Or.inl ⟨by rfl, ?hya1_0⟩) (by assumption) ?_
    case hya1_0 =>
      intro w hSw
      try dsimp only at hSw
      go_simp
      try with_reducible rfl
    try simp only [Act.put, List.setIfInBounds_toArray, List.set_cons_zero, List.set_cons_succ, List.getElem_toArray, List.getElem_cons_zero]
    refine wpAnyH_take (i := 1) (v := ?va2_1) rfl (by kernel_rfl) (by kernel_rfl) (by kernel_rfl) (fun _ _ _ h => h) (Or.inl ⟨by rfl, ?hya2_1⟩) (by assumption) ?_
    case hya2_1 =>
      intro w hSw
      try dsimp only at hSw
      go_simp
      try with_reducible rfl
    try simp only [Act.put, List.setIfInBounds_toArray, List.set_cons_zero, List.set_cons_succ, List.getElem_toArray, List.getElem_cons_zero, List.getElem_cons_succ]
    refine wpAnyH_take (i := 2) (v := ?va3_2) rfl (by kernel_rfl) (by kernel_rfl) (by kernel_rfl) (fun _ _ _ h => h) (Or.inl ⟨by rfl, ?hya3_2⟩) (by assumption) ?_
    case hya3_2 =>
      intro w hSw
      try dsimp only at hSw
      go_simp
      try with_reducible rfl
    try simp only [Act.put, List.setIfInBounds_toArray, List.set_cons_zero, List.set_cons_succ, List.getElem_toArray, List.getElem_cons_zero, List.getElem_cons_succ]
    refine wpAnyH_take (i := 3) (v := ?va4_3) rfl (by kernel_rfl) (by kernel_rfl) (by kernel_rfl) (fun _ _ _ h => h) (Or.inl ⟨by rfl, ?hya4_3⟩) (by assumption) ?_
    case hya4_3 =>
      intro w hSw
      try dsimp only at hSw
      go_simp
      try with_reducible rfl
    try simp only [Act.put, List.setIfInBounds_toArray, List.set_cons_zero, List.set_cons_succ, List.getElem_toArray, List.getElem_cons_zero, List.getElem_cons_succ]
    refine wpAnyH_take (i := 4) (v := ?va5_4) rfl (by kernel_rfl) (by kernel_rfl) (by kernel_rfl) (fun _ _ _ h => h) (Or.inl ⟨by rfl, ?hya5_4⟩) (by assumption) ?_
    case hya5_4 =>
      intro w hSw
      try dsimp only at hSw
      go_simp
      try with_reducible rfl
    try simp only [Act.put, List.setIfInBounds_toArray, List.set_cons_zero, List.set_cons_succ, List.getElem_toArray, List.getElem_cons_zero, List.getElem_cons_succ]
    refine wpAnyH_take (i := 5) (v := ?va6_5) rfl (by kernel_rfl) (by kernel_rfl) (by kernel_rfl) (fun _ _ _ h => h) (Or.inl ⟨by rfl, ?hya6_5⟩) (by assumption) ?_
    case hya6_5 =>
      intro w hSw
      try dsimp only at hSw
      go_simp
      try with_reducible rfl
    try simp only [Act.put, List.setIfInBounds_toArray, List.set_cons_zero, List.set_cons_succ, List.getElem_toArray, List.getElem_cons_zero, List.getElem_cons_succ]
    refine wpAnyH_take (i := 6) (v := ?va7_6) rfl (by kernel_rfl) (by kernel_rfl) (by kernel_rfl) (fun _ _ _ h => h) (Or.inl ⟨by rfl, ?hya7_6⟩) (by assumption) ?_
    case hya7_6 =>
      intro w hSw
      try dsimp only at hSw
      go_simp
      try with_reducible rfl
    try simp only [Act.put, List.setIfInBounds_toArray, List.set_cons_zero, List.set_cons_succ, List.getElem_toArray, List.getElem_cons_zero, List.getElem_cons_succ]
    refine wpAnyH_take (i := 7) (v := ?va8_7) rfl (by kernel_rfl) (by kernel_rfl) (by kernel_rfl) (fun _ _ _ h => h) (Or.inl ⟨by rfl, ?hya8_7⟩) (by assumption) ?_
    case hya8_7 =>
      intro w hSw
      try dsimp only at hSw
      go_simp
      try with_reducible rfl
    try simp only [Act.put, List.setIfInBounds_toArray, List.set_cons_zero, List.set_cons_succ, List.getElem_toArray, List.getElem_cons_zero, List.getElem_cons_succ]
    refine wpAnyH_take (i := 8) (v := ?va9_8) rfl (by kernel_rfl) (by kernel_rfl) (by kernel_rfl) (fun _ _ _ h => h) (Or.inl ⟨by rfl, ?hya9_8⟩) (by assumption) ?_
    case hya9_8 =>
      intro w hSw
      try dsimp only at hSw
      go_simp
      try with_reducible rfl
    try simp only [Act.put, List.setIfInBounds_toArray, List.set_cons_zero, List.set_cons_succ, List.getElem_toArray, List.getElem_cons_zero, List.getElem_cons_succ]
    refine wpAnyH_take (i := 9) (v := ?va10_9) rfl (by kernel_rfl) (by kernel_rfl) (by kernel_rfl) (fun _ _ _ h => h) (Or.inl ⟨by rfl, ?hya10_9⟩) (by assumption) ?_
    case hya10_9 =>
      intro w hSw
      try dsimp only at hSw
      go_simp
      try with_reducible rfl
    try simp only [Act.put, List.setIfInBounds_toArray, List.set_cons_zero, List.set_cons_succ, List.getElem_toArray, List.getElem_cons_zero, List.getElem_cons_succ]
    refine wpAnyH_ready (rs := [10]) (by kernel_rfl) (by simp) ?_
    refine AllReadyH.cons rfl (fun K hK => ?_) (AllReadyH.nil)
    go_simp
    refine (lwT _ _ oG _ (by have := (unhide HF).g; dsimp only at this; omega) (unhide E5).2.1.t (unhide E5).2.2.t).mono ?_
    rintro e z11 ⟨rfl, hb11⟩
    have E11 := hide ((unhide E5).step hb11)
    clear hb11
    go_wp2_with fail
    refine hK.out _ _ (unhide SY _ (unhide E11)) (fun _ => ?_)
    clear hK K
    try simp only [Act.put, List.setIfInBounds_toArray, List.set_cons_zero, List.set_cons_succ, List.getElem_toArray, List.getElem_cons_zero, List.getElem_cons_succ]
    refine wpAnyH_take (i := 11) (v := ?va11_11) rfl (by kernel_rfl) (by kernel_rfl) (by kernel_rfl) (fun _ _ _ h => h) (Or.inl ⟨by rfl, ?hya11_11⟩) (by assumption) ?_
    case hya11_11 =>
      intro w hSw
      try dsimp only at hSw
      go_simp
      try with_reducible rfl
    try simp only [Act.put, List.setIfInBounds_toArray, List.set_cons_zero, List.set_cons_succ, List.getElem_toArray, List.getElem_cons_zero, List.getElem_cons_succ]
    refine wpAnyH_take (i := 12) (v := ?va12_12) rfl (by kernel_rfl) (by kernel_rfl) (by kernel_rfl) (fun _ _ _ h => h) (Or.inl ⟨by rfl, ?hya12_12⟩) (by assumption) ?_
    case hya12_12 =>
      intro w hSw
      try dsimp only at hSw
      go_simp
      try with_reducible rfl
    try simp only [Act.put, List.setIfInBounds_toArray, List.set_cons_zero, List.set_cons_succ, List.getElem_toArray, List.getElem_cons_zero, List.getElem_cons_succ]
    refine wpAnyH_take (i := 13) (v := ?va13_13) rfl (by kernel_rfl) (by kernel_rfl) (by kernel_rfl) (fun _ _ _ h => h) (Or.inl ⟨by rfl, ?hya13_13⟩) (by assumption) ?_
    case hya13_13 =>
      intro w hSw
      try dsimp only at hSw
      go_simp
      try with_reducible rfl
    try simp only [Act.put, List.setIfInBounds_toArray, List.set_cons_zero, List.set_cons_succ, List.getElem_toArray, List.getElem_cons_zero, List.getElem_cons_succ]
    refine wpAnyH_take (i := 14) (v := ?va14_14) rfl (by kernel_rfl) (by kernel_rfl) (by kernel_rfl) (fun _ _ _ h => h) (Or.inl ⟨by rfl, ?hya14_14⟩) (by assumption) ?_
    case hya14_14 =>
      intro w hSw
      try dsimp only at hSw
      go_simp
      try with_reducible rfl
    try simp only [Act.put, List.setIfInBounds_toArray, List.set_cons_zero, List.set_cons_succ, List.getElem_toArray, List.getElem_cons_zero, List.getElem_cons_succ]
    refine wpAnyH_take (i := 15) (v := ?va15_15) rfl (by kernel_rfl) (by kernel_rfl) (by kernel_rfl) (fun _ _ _ h => h) (Or.inl ⟨by rfl, ?hya15_15⟩) (by assumption) ?_
    case hya15_15 =>
      intro w hSw
      try dsimp only at hSw
      go_simp
      try with_reducible rfl
    try simp only [Act.put, List.setIfInBounds_toArray, List.set_cons_zero, List.set_cons_succ, List.getElem_toArray, List.getElem_cons_zero, List.getElem_cons_succ]
    refine wpAnyH_take (i := 16) (v := ?va16_16) rfl (by kernel_rfl) (by kernel_rfl) (by kernel_rfl) (fun _ _ _ h => h) (Or.inl ⟨by rfl, ?hya16_16⟩) (by assumption) ?_
    case hya16_16 =>
      intro w hSw
      try dsimp only at hSw
      go_simp
      try with_reducible rfl
    try simp only [Act.put, List.setIfInBounds_toArray, List.set_cons_zero, List.set_cons_succ, List.getElem_toArray, List.getElem_cons_zero, List.getElem_cons_succ]
    refine wpAnyH_take (i := 17) (v := ?va17_17) rfl (by kernel_rfl) (by kernel_rfl) (by kernel_rfl) (fun _ _ _ h => h) (Or.inl ⟨by rfl, ?hya17_17⟩) (by assumption) ?_
    case hya17_17 =>
      intro w hSw
      try dsimp only at hSw
      go_simp
      try with_reducible rfl
    try simp only [Act.put, List.setIfInBounds_toArray, List.set_cons_zero, List.set_cons_succ, List.getElem_toArray, List.getElem_cons_zero, List.getElem_cons_succ]
    refine wpAnyH_take (i := 18) (v := ?va18_18) rfl (by kernel_rfl) (by kernel_rfl) (by kernel_rfl) (fun _ _ _ h => h) (Or.inl ⟨by rfl, ?hya18_18⟩) (by assumption) ?_
    case hya18_18 =>
      intro w hSw
      try dsimp only at hSw
      go_simp
      try with_reducible rfl
    try simp only [Act.put, List.setIfInBounds_toArray, List.set_cons_zero, List.set_cons_succ, List.getElem_toArray, List.getElem_cons_zero, List.getElem_cons_succ]
    refine wpAnyH_take (i := 19) (v := ?va19_19) rfl (by kernel_rfl) (by kernel_rfl) (by kernel_rfl) (fun _ _ _ h => h) (Or.inl ⟨by rfl, ?hya19_19⟩) (by assumption) ?_
    case hya19_19 =>
      intro w hSw
      try dsimp only at hSw
      go_simp
      try with_reducible rfl
    try simp only [Act.put, List.setIfInBounds_toArray, List.set_cons_zero, List.set_cons_succ, List.getElem_toArray, List.getElem_cons_zero, List.getElem_cons_succ]
    refine wpAnyH_take (i := 20) (v := ?va20_20) rfl (by kernel_rfl) (by kernel_rfl) (by kernel_rfl) (fun _ _ _ h => h) (Or.inl ⟨by rfl, ?hya20_20⟩) (by assumption) ?_
    case hya20_20 =>
      intro w hSw
      try dsimp only at hSw
      go_simp
      try with_reducible rfl
    try simp only [Act.put, List.setIfInBounds_toArray, List.set_cons_zero, List.set_cons_succ, List.getElem_toArray, List.getElem_cons_zero, List.getElem_cons_succ]
    refine wpAnyH_take (i := 21) (v := ?va21_21) rfl (by kernel_rfl) (by kernel_rfl) (by kernel_rfl) (fun _ _ _ h => h) (Or.inl ⟨by rfl, ?hya21_21⟩) (by assumption) ?_
    case hya21_21 =>
      intro w hSw
      try dsimp only at hSw
      go_simp
      try with_reducible rfl
    try simp only [Act.put, List.setIfInBounds_toArray, List.set_cons_zero, List.set_cons_succ, List.getElem_toArray, List.getElem_cons_zero, List.getElem_cons_succ]
    refine wpAnyH_take (i := 22) (v := ?va22_22) rfl (by kernel_rfl) (by kernel_rfl) (by kernel_rfl) (fun _ _ _ h => h) (Or.inl ⟨by rfl, ?hya22_22⟩) (by assumption) ?_
    case hya22_22 =>
      intro w hSw
      try dsimp only at hSw
      go_simp
      try with_reducible rfl
    try simp only [Act.put, List.setIfInBounds_toArray, List.set_cons_zero, List.set_cons_succ, List.getElem_toArray, List.getElem_cons_zero, List.getElem_cons_succ]
    refine wpAnyH_take (i := 23) (v := ?va23_23) rfl (by kernel_rfl) (by kernel_rfl) (by kernel_rfl) (fun _ _ _ h => h) (Or.inl ⟨by rfl, ?hya23_23⟩) (by assumption) ?_
    case hya23_23 =>
      intro w hSw
      try dsimp only at hSw
      go_simp
      try with_reducible rfl
    try simp only [Act.put, List.setIfInBounds_toArray, List.set_cons_zero, List.set_cons_succ, List.getElem_toArray, List.getElem_cons_zero, List.getElem_cons_succ]
    refine wpAnyH_take (i := 24) (v := ?va24_24) rfl (by kernel_rfl) (by kernel_rfl) (by kernel_rfl) (fun _ _ _ h => h) (Or.inl ⟨by rfl, ?hya24_24⟩) (by assumption) ?_
    case hya24_24 =>
      intro w hSw
      try dsimp only at hSw
      go_simp
      try with_reducible rfl
    try simp only [Act.put, List.setIfInBounds_toArray, List.set_cons_zero, List.set_cons_succ, List.getElem_toArray, List.getElem_cons_zero, List.getElem_cons_succ]
    refine wpAnyH_take (i := 25) (v := ?va25_25) rfl (by kernel_rfl) (by kernel_rfl) (by kernel_rfl) (fun _ _ _ h => h) (Or.inl ⟨by rfl, ?hya25_25⟩) (by assumption) ?_
    case hya25_25 =>
      intro w hSw
      try dsimp only at hSw
      go_simp
      try with_reducible rfl
    try simp only [Act.put, List.setIfInBounds_toArray, List.set_cons_zero, List.set_cons_succ, List.getElem_toArray, List.getElem_cons_zero, List.getElem_cons_succ]
    refine wpAnyH_take (i := 26) (v := ?va26_26) rfl (by kernel_rfl) (by kernel_rfl) (by kernel_rfl) (fun _ _ _ h => h) (Or.inl ⟨by rfl, ?hya26_26⟩) (by assumption) ?_
    case hya26_26 =>
      intro w hSw
      try dsimp only at hSw
      go_simp
      try with_reducible rfl
    try simp only [Act.put, List.setIfInBounds_toArray, List.set_cons_zero, List.set_cons_succ, List.getElem_toArray, List.getElem_cons_zero, List.getElem_cons_succ]
    refine wpAnyH_ready (rs := [27]) (by kernel_rfl) (by simp) ?_
    refine AllReadyH.cons rfl (fun K hK => ?_) (AllReadyH.nil)
    go_simp
    refine (lwF _ _ oF _ (by have := (unhide HF).p; dsimp only at this; omega) (unhide E11).2.1.p (unhide E11).2.2.p).mono ?_
    rintro e z12 ⟨rfl, hb12⟩
    have E12 := hide ((unhide E11).step hb12)
    clear hb12
    go_wp2_with fail
    refine hK.out _ _ (unhide SY _ (unhide E12)) (fun _ => ?_)
    clear hK K
    try simp only [Act.put, List.setIfInBounds_toArray, List.set_cons_zero, List.set_cons_succ, List.getElem_toArray, List.getElem_cons_zero, List.getElem_cons_succ]
    refine wpAnyH_take (i := 28) (v := ?va27_28) rfl (by kernel_rfl) (by kernel_rfl) (by kernel_rfl) (fun _ _ _ h => h) (Or.inl ⟨by rfl, ?hya27_28⟩) (by assumption) ?_
    case hya27_28 =>
      intro w hSw
      try dsimp only at hSw
      go_simp
      try with_reducible rfl
    try simp only [Act.put, List.setIfInBounds_toArray, List.set_cons_zero, List.set_cons_succ, List.getElem_toArray, List.getElem_cons_zero, List.getElem_cons_succ]
    refine wpAnyH_take (i := 29) (v := ?va28_29) rfl (by kernel_rfl) (by kernel_rfl) (by kernel_rfl) (fun _ _ _ h => h) (Or.inl ⟨by rfl, ?hya28_29⟩) (by assumption) ?_
    case hya28_29 =>
      intro w hSw
      try dsimp only at hSw
      go_simp
      try with_reducible rfl
    try simp only [Act.put, List.setIfInBounds_toArray, List.set_cons_zero, List.set_cons_succ, List.getElem_toArray, List.getElem_cons_zero, List.getElem_cons_succ]
    refine wpAnyH_take (i := 30) (v := ?va29_30) rfl (by kernel_rfl) (by kernel_rfl) (by kernel_rfl) (fun _ _ _ h => h) (Or.inl ⟨by rfl, ?hya29_30⟩) (by assumption) ?_
    case hya29_30 =>
      intro w hSw
      try dsimp only at hSw
      go_simp
      try with_reducible rfl
    try simp only [Act.put, List.setIfInBounds_toArray, List.set_cons_zero, List.set_cons_succ, List.getElem_toArray, List.getElem_cons_zero, List.getElem_cons_succ]
    refine wpAnyH_take (i := 31) (v := ?va30_31) rfl (by kernel_rfl) (by kernel_rfl) (by kernel_rfl) (fun _ _ _ h => h) (Or.inl ⟨by rfl, ?hya30_31⟩) (by assumption) ?_
    case hya30_31 =>
      intro w hSw
      try dsimp only at hSw
      go_simp
      try with_reducible rfl
    try simp only [Act.put, List.setIfInBounds_toArray, List.set_cons_zero, List.set_cons_succ, List.getElem_toArray, List.getElem_cons_zero, List.getElem_cons_succ]
    refine wpAnyH_take (i := 33) (v := ?va31_33) rfl (by kernel_rfl) (by kernel_rfl) (by kernel_rfl) (fun _ _ _ h => h) (Or.inl ⟨by rfl, ?hya31_33⟩) (by assumption) ?_
    case hya31_33 =>
      intro w hSw
      try dsimp only at hSw
      go_simp
      try with_reducible rfl
    try simp only [Act.put, List.setIfInBounds_toArray, List.set_cons_zero, List.set_cons_succ, List.getElem_toArray, List.getElem_cons_zero, List.getElem_cons_succ]
    refine wpAnyH_ready (rs := [32]) (by kernel_rfl) (by simp) ?_
    refine AllReadyH.cons rfl (fun K hK => ?_) (AllReadyH.nil)
    go_simp
    refine (unhide CR _ (unhide E12).1.hl (unhide E12).1.hp).mono ?_
    rintro e z13 ⟨rfl, hb13⟩
    have E13 := hide ((unhide E12).step hb13)
    clear hb13
    go_wp2_with fail
    refine hK.out _ _ (unhide SY _ (unhide E13)) (fun _ => ?_)
    clear hK K
    try simp only [Act.put, List.setIfInBounds_toArray, List.set_cons_zero, List.set_cons_succ, List.getElem_toArray, List.getElem_cons_zero, List.getElem_cons_succ]
    refine wpAnyH_ready (rs := [34]) (by kernel_rfl) (by simp) ?_
    refine AllReadyH.cons rfl (fun K hK => ?_) (AllReadyH.nil)
    go_simp
    refine (unhide CT _ (unhide E13).1.hl (unhide E13).1.hp).mono ?_
    rintro e z14 ⟨rfl, hb14⟩
    have E14 := hide ((unhide E13).step hb14)
    clear hb14
    go_wp2_with fail
    refine hK.out _ _ (unhide SY _ (unhide E14)) (fun _ => ?_)
    clear hK K
    try simp only [Act.put, List.setIfInBounds_toArray, List.set_cons_zero, List.set_cons_succ, List.getElem_toArray, List.getElem_cons_zero, List.getElem_cons_succ]
    refine wpAnyH_take (i := 35) (v := ?va32_35) rfl (by kernel_rfl) (by kernel_rfl) (by kernel_rfl) (fun _ _ _ h => h) (Or.inl ⟨by rfl, ?hya32_35⟩) (by assumption) ?_
    case hya32_35 =>
      intro w hSw
      try dsimp only at hSw
      go_simp
      try with_reducible rfl
    try simp only [Act.put, List.setIfInBounds_toArray, List.set_cons_zero, List.set_cons_succ, List.getElem_toArray, List.getElem_cons_zero, List.getElem_cons_succ]
    refine wpAnyH_take (i := 36) (v := ?va33_36) rfl (by kernel_rfl) (by kernel_rfl) (by kernel_rfl) (fun _ _ _ h => h) (Or.inl ⟨by rfl, ?hya33_36⟩) (by assumption) ?_
    case hya33_36 =>
      intro w hSw
      try dsimp only at hSw
      go_simp
      try with_reducible rfl
    try simp only [Act.put, List.setIfInBounds_toArray, List.set_cons_zero, List.set_cons_succ, List.getElem_toArray, List.getElem_cons_zero, List.getElem_cons_succ]
    refine wpAnyH_done (by kernel_rfl) ?_ _
    go_wp2_with fail
    go_meet
    exact ⟨rfl, unhide E14⟩
  case rest =>
    obtain ⟨hv, hF⟩ := hcut
    subst hv
    have E6 := hide hF
    clear hF E4 CR CT SY
    by_cases hoc : oc = 0
    · subst hoc
      obtain ⟨hbk, hF40, hl0, hlj, hlk⟩ := (unhide HF).ok rfl
      dsimp only at hbk hF40 hlj hlk
      obtain ⟨j, rfl⟩ : ∃ j : Nat, link = (j : Int) := ⟨link.toNat, by omega⟩
      rw [Int.toNat_natCast] at hlj hlk
      obtain ⟨g, cp, ev, _, _⟩ := (unhide E6).2.1.l.get9 j hlj
      dsimp only at ev
      injection ev with ev e2 e3
      clear e2
      subst ev
      subst e3
      have CU : Hid (∀ z, HoldsI z (.slice (some ⟨g, 0, none⟩) oL.length y1) oL → HoldsF z (.slice x2 oF.length y2) oF → Calls Try.prog 24 #[.agg #[.slice (some ⟨g, 0, none⟩) oL.length y1, .slice x2 oF.length y2]] z fun e q => e = .returned (.bool true) ∧ Below z.heap.size z q) := hide fun z h1 h2 => by
        have h := sBdRight (some ⟨g, 0, none⟩) x2 y1 y2 oL oF z (by have := (unhide HF).l; unfold maxLen; dsimp only at this; omega) (by unfold maxLen; omega) h1.f h2
        rw [hbk] at h
        exact h
      have CV : Hid (∀ z, HoldsI z (.slice (some ⟨g, 0, none⟩) oL.length y1) oL → HoldsF z (.slice x2 oF.length y2) oF → Calls Try.prog 23 #[.agg #[.slice (some ⟨g, 0, none⟩) oL.length y1, .slice x2 oF.length y2]] z fun e q => e = .returned (.bool true) ∧ Below z.heap.size z q) := hide fun z h1 h2 => by
        have h := iBdRight (some ⟨g, 0, none⟩) x2 y1 y2 oL oF z (by have := (unhide HF).l; unfold maxLen; dsimp only at this; omega) (by unfold maxLen; omega) h1.f h2
        rw [hbk] at h
        exact h
      have hlk' : oL[j] = fq := by
        rw [List.getElem?_eq_getElem hlj] at hlk
        exact Option.some.inj hlk
      have SX : Hid (∀ y9, Zz w y9 B3 B5 la pa lc pc L P ⟨fq, bx, bf, tx⟩ X Y (some ⟨g, 0, none⟩) x2 x3 u1 u2 u3 y1 y2 y3 v1 v2 v3 ⟨oL, oF, oG, ol, 0⟩ → (y9.cell? ⟨X, 0, none⟩ = some (.slice (some ⟨g, 0, none⟩) oL.length y1) ∧ y9.cell? ⟨X, 1, none⟩ = some (.slice x2 oF.length y2) ∧ y9.cell? ⟨X, 2, none⟩ = some (.slice x3 oG.length y3) ∧ y9.cell? ⟨X, 3, none⟩ = some (.int .i64 (ol : Int)) ∧ y9.cell? ⟨X, 4, none⟩ = some (.int .i64 0) ∧ y9.cell? ⟨B5, 0, none⟩ = some (.int .i64 fq) ∧ y9.cell? ⟨g, j, none⟩ = some (.int .i64 fq))) := hide fun y9 hz => by
        obtain ⟨a0, a1, a2, a3, a4⟩ := row5b hz.2.1.x
        obtain ⟨b0, _⟩ := row4g hz.1.b5
        obtain ⟨g', cp', ev', _, hc⟩ := hz.2.1.l.get9 j hlj
        cases ev'
        dsimp only at hc
        rw [hlk'] at hc
        exact ⟨a0, a1, a2, a3, a4, b0, hc⟩
      have d40 : (oF.length : Int) ≤ 40 := by omega
      have djl : (j : Int) < (oL.length : Int) := by omega
      clear hbk hlk hlk' hl0
      go_upto_region 8 with fail
      have E7 : Hid (Zz w wc.drew B3 B5 la pa lc pc L P ⟨fq, bx, bf, tx⟩ X Y (some ⟨g, 0, none⟩) x2 x3 u1 u2 u3 y1 y2 y3 v1 v2 v3 ⟨oL, oF, oG, ol, 0⟩) := hide (Zz.step (unhide E6) ((Below.refl _ _).drew))
      refine wp_region_held_drew (S := fun y9 => y9.cell? ⟨X, 0, none⟩ = some (.slice (some ⟨g, 0, none⟩) oL.length y1) ∧ y9.cell? ⟨X, 1, none⟩ = some (.slice x2 oF.length y2) ∧ y9.cell? ⟨X, 2, none⟩ = some (.slice x3 oG.length y3) ∧ y9.cell? ⟨X, 3, none⟩ = some (.int .i64 (ol : Int)) ∧ y9.cell? ⟨X, 4, none⟩ = some (.int .i64 0) ∧ y9.cell? ⟨B5, 0, none⟩ = some (.int .i64 fq) ∧ y9.cell? ⟨g, j, none⟩ = some (.int .i64 fq)) (by kernel_rfl) (unhide SX _ (unhide E7)) (fun hHeld => ?_)
      generalize wc.drew = yy at E7 hHeld ⊢
      refine wpAnyH_take (i := 0) (v := ?vb1_0) rfl (by kernel_rfl) (by kernel_rfl) (by kernel_rfl) (fun _ _ _ h => h) (Or.inl ⟨by rfl, ?hyb1_0⟩) (by assumption) ?_
      case hyb1_0 =>
        intro w hSw
        try dsimp only at hSw
        go_simp
        try with_reducible rfl
      try simp only [Act.put, List.setIfInBounds_toArray, List.set_cons_zero, List.set_cons_succ, List.getElem_toArray, List.getElem_cons_zero]
      refine wpAnyH_take (i := 1) (v := ?vb2_1) rfl (by kernel_rfl) (by kernel_rfl) (by kernel_rfl) (fun _ _ _ h => h) (Or.inl ⟨by rfl, ?hyb2_1⟩) (by assumption) ?_
      case hyb2_1 =>
        intro w hSw
        try dsimp only at hSw
        go_simp
        try with_reducible rfl
      try simp only [Act.put, List.setIfInBounds_toArray, List.set_cons_zero, List.set_cons_succ, List.getElem_toArray, List.getElem_cons_zero, List.getElem_cons_succ]
      refine wpAnyH_take (i := 2) (v := ?vb3_2) rfl (by kernel_rfl) (by kernel_rfl) (by kernel_rfl) (fun _ _ _ h => h) (Or.inl ⟨by rfl, ?hyb3_2⟩) (by assumption) ?_
      case hyb3_2 =>
        intro w hSw
        try dsimp only at hSw
        go_simp
        try with_reducible rfl
      try simp only [Act.put, List.setIfInBounds_toArray, List.set_cons_zero, List.set_cons_succ, List.getElem_toArray, List.getElem_cons_zero, List.getElem_cons_succ]
      refine wpAnyH_take (i := 3) (v := ?vb4_3) rfl (by kernel_rfl) (by kernel_rfl) (by kernel_rfl) (fun _ _ _ h => h) (Or.inl ⟨by rfl, ?hyb4_3⟩) (by assumption) ?_
      case hyb4_3 =>
        intro w hSw
        try dsimp only at hSw
        go_simp
        try with_reducible rfl
      try simp only [Act.put, List.setIfInBounds_toArray, List.set_cons_zero, List.set_cons_succ, List.getElem_toArray, List.getElem_cons_zero, List.getElem_cons_succ]
      refine wpAnyH_take (i := 4) (v := ?vb5_4) rfl (by kernel_rfl) (by kernel_rfl) (by kernel_rfl) (fun _ _ _ h => h) (Or.inl ⟨by rfl, ?hyb5_4⟩) (by assumption) ?_
      case hyb5_4 =>
        intro w hSw
        try dsimp only at hSw
        go_simp
        try with_reducible rfl
      try simp only [Act.put, List.setIfInBounds_toArray, List.set_cons_zero, List.set_cons_succ, List.getElem_toArray, List.getElem_cons_zero, List.getElem_cons_succ]
      refine wpAnyH_take (i := 5) (v := ?vb6_5) rfl (by kernel_rfl) (by kernel_rfl) (by kernel_rfl) (fun _ _ _ h => h) (Or.inl ⟨by rfl, ?hyb6_5⟩) (by assumption) ?_
      case hyb6_5 =>
        intro w hSw
        try dsimp only at hSw
        go_simp
        try with_reducible rfl
      try simp only [Act.put, List.setIfInBounds_toArray, List.set_cons_zero, List.set_cons_succ, List.getElem_toArray, List.getElem_cons_zero, List.getElem_cons_succ]
      refine wpAnyH_ready (rs := [6]) (by kernel_rfl) (by simp) ?_
      refine AllReadyH.cons rfl (fun K hK => ?_) (AllReadyH.nil)
      go_simp
      refine (unhide CU _ (unhide E7).2.1.l (unhide E7).2.1.p).mono ?_
      rintro e z41 ⟨rfl, hb41⟩
      have E41 := hide ((unhide E7).step hb41)
      clear hb41
      go_wp2_with fail
      refine hK.out _ _ (unhide SX _ (unhide E41)) (fun _ => ?_)
      clear hK K
      try simp only [Act.put, List.setIfInBounds_toArray, List.set_cons_zero, List.set_cons_succ, List.getElem_toArray, List.getElem_cons_zero, List.getElem_cons_succ]
      refine wpAnyH_take (i := 7) (v := ?vb7_7) rfl (by kernel_rfl) (by kernel_rfl) (by kernel_rfl) (fun _ _ _ h => h) (Or.inl ⟨by rfl, ?hyb7_7⟩) (by assumption) ?_
      case hyb7_7 =>
        intro w hSw
        try dsimp only at hSw
        go_simp
        try with_reducible rfl
      try simp only [Act.put, List.setIfInBounds_toArray, List.set_cons_zero, List.set_cons_succ, List.getElem_toArray, List.getElem_cons_zero, List.getElem_cons_succ]
      refine wpAnyH_take (i := 8) (v := ?vb8_8) rfl (by kernel_rfl) (by kernel_rfl) (by kernel_rfl) (fun _ _ _ h => h) (Or.inl ⟨by rfl, ?hyb8_8⟩) (by assumption) ?_
      case hyb8_8 =>
        intro w hSw
        try dsimp only at hSw
        go_simp
        try with_reducible rfl
      try simp only [Act.put, List.setIfInBounds_toArray, List.set_cons_zero, List.set_cons_succ, List.getElem_toArray, List.getElem_cons_zero, List.getElem_cons_succ]
      refine wpAnyH_take (i := 9) (v := ?vb9_9) rfl (by kernel_rfl) (by kernel_rfl) (by kernel_rfl) (fun _ _ _ h => h) (Or.inl ⟨by rfl, ?hyb9_9⟩) (by assumption) ?_
      case hyb9_9 =>
        intro w hSw
        try dsimp only at hSw
        go_simp
        try with_reducible rfl
      try simp only [Act.put, List.setIfInBounds_toArray, List.set_cons_zero, List.set_cons_succ, List.getElem_toArray, List.getElem_cons_zero, List.getElem_cons_succ]
      refine wpAnyH_ready (rs := [10]) (by kernel_rfl) (by simp) ?_
      refine AllReadyH.cons rfl (fun K hK => ?_) (AllReadyH.nil)
      go_simp
      refine (unhide CV _ (unhide E41).2.1.l (unhide E41).2.1.p).mono ?_
      rintro e z42 ⟨rfl, hb42⟩
      have E42 := hide ((unhide E41).step hb42)
      clear hb42
      go_wp2_with fail
      refine hK.out _ _ (unhide SX _ (unhide E42)) (fun _ => ?_)
      clear hK K
      try simp only [Act.put, List.setIfInBounds_toArray, List.set_cons_zero, List.set_cons_succ, List.getElem_toArray, List.getElem_cons_zero, List.getElem_cons_succ]
      refine wpAnyH_take (i := 11) (v := ?vb10_11) rfl (by kernel_rfl) (by kernel_rfl) (by kernel_rfl) (fun _ _ _ h => h) (Or.inl ⟨by rfl, ?hyb10_11⟩) (by assumption) ?_
      case hyb10_11 =>
        intro w hSw
        try dsimp only at hSw
        go_simp
        try with_reducible rfl
      try simp only [Act.put, List.setIfInBounds_toArray, List.set_cons_zero, List.set_cons_succ, List.getElem_toArray, List.getElem_cons_zero, List.getElem_cons_succ]
      refine wpAnyH_take (i := 12) (v := ?vb11_12) rfl (by kernel_rfl) (by kernel_rfl) (by kernel_rfl) (fun _ _ _ h => h) (Or.inl ⟨by rfl, ?hyb11_12⟩) (by assumption) ?_
      case hyb11_12 =>
        intro w hSw
        try dsimp only at hSw
        go_simp
        try with_reducible rfl
      try simp only [Act.put, List.setIfInBounds_toArray, List.set_cons_zero, List.set_cons_succ, List.getElem_toArray, List.getElem_cons_zero, List.getElem_cons_succ]
      refine wpAnyH_take (i := 13) (v := ?vb12_13) rfl (by kernel_rfl) (by kernel_rfl) (by kernel_rfl) (fun _ _ _ h => h) (Or.inl ⟨by rfl, ?hyb12_13⟩) (by assumption) ?_
      case hyb12_13 =>
        intro w hSw
        try dsimp only at hSw
        go_simp
        try with_reducible rfl
      try simp only [Act.put, List.setIfInBounds_toArray, List.set_cons_zero, List.set_cons_succ, List.getElem_toArray, List.getElem_cons_zero, List.getElem_cons_succ]
      refine wpAnyH_take (i := 14) (v := ?vb13_14) rfl (by kernel_rfl) (by kernel_rfl) (by kernel_rfl) (fun _ _ _ h => h) (Or.inl ⟨by rfl, ?hyb13_14⟩) (by assumption) ?_
      case hyb13_14 =>
        intro w hSw
        try dsimp only at hSw
        go_simp
        try with_reducible rfl
      try simp only [Act.put, List.setIfInBounds_toArray, List.set_cons_zero, List.set_cons_succ, List.getElem_toArray, List.getElem_cons_zero, List.getElem_cons_succ]
      refine wpAnyH_take (i := 15) (v := ?vb14_15) rfl (by kernel_rfl) (by kernel_rfl) (by kernel_rfl) (fun _ _ _ h => h) (Or.inl ⟨by rfl, ?hyb14_15⟩) (by assumption) ?_
      case hyb14_15 =>
        intro w hSw
        try dsimp only at hSw
        go_simp
        try with_reducible rfl
      try simp only [Act.put, List.setIfInBounds_toArray, List.set_cons_zero, List.set_cons_succ, List.getElem_toArray, List.getElem_cons_zero, List.getElem_cons_succ]
      refine wpAnyH_take (i := 16) (v := ?vb15_16) rfl (by kernel_rfl) (by kernel_rfl) (by kernel_rfl) (fun _ _ _ h => h) (Or.inl ⟨by rfl, ?hyb15_16⟩) (by assumption) ?_
      case hyb15_16 =>
        intro w hSw
        try dsimp only at hSw
        go_simp
        try with_reducible rfl
      try simp only [Act.put, List.setIfInBounds_toArray, List.set_cons_zero, List.set_cons_succ, List.getElem_toArray, List.getElem_cons_zero, List.getElem_cons_succ]
      refine wpAnyH_take (i := 17) (v := ?vb16_17) rfl (by kernel_rfl) (by kernel_rfl) (by kernel_rfl) (fun _ _ _ h => h) (Or.inl ⟨by rfl, ?hyb16_17⟩) (by assumption) ?_
      case hyb16_17 =>
        intro w hSw
        try dsimp only at hSw
        go_simp
        try with_reducible rfl
      try simp only [Act.put, List.setIfInBounds_toArray, List.set_cons_zero, List.set_cons_succ, List.getElem_toArray, List.getElem_cons_zero, List.getElem_cons_succ]
      refine wpAnyH_take (i := 18) (v := ?vb17_18) rfl (by kernel_rfl) (by kernel_rfl) (by kernel_rfl) (fun _ _ _ h => h) (Or.inl ⟨by rfl, ?hyb17_18⟩) (by assumption) ?_
      case hyb17_18 =>
        intro w hSw
        try dsimp only at hSw
        go_simp
        try with_reducible rfl
      try simp only [Act.put, List.setIfInBounds_toArray, List.set_cons_zero, List.set_cons_succ, List.getElem_toArray, List.getElem_cons_zero, List.getElem_cons_succ]
      refine wpAnyH_take (i := 19) (v := ?vb18_19) rfl (by kernel_rfl) (by kernel_rfl) (by kernel_rfl) (fun _ _ _ h => h) (Or.inl ⟨by rfl, ?hyb18_19⟩) (by assumption) ?_
      case hyb18_19 =>
        intro w hSw
        try dsimp only at hSw
        go_simp
        try with_reducible rfl
      try simp only [Act.put, List.setIfInBounds_toArray, List.set_cons_zero, List.set_cons_succ, List.getElem_toArray, List.getElem_cons_zero, List.getElem_cons_succ]
      refine wpAnyH_take (i := 20) (v := ?vb19_20) rfl (by kernel_rfl) (by kernel_rfl) (by kernel_rfl) (fun _ _ _ h => h) (Or.inl ⟨by rfl, ?hyb19_20⟩) (by assumption) ?_
      case hyb19_20 =>
        intro w hSw
        try dsimp only at hSw
        go_simp
        try with_reducible rfl
      try simp only [Act.put, List.setIfInBounds_toArray, List.set_cons_zero, List.set_cons_succ, List.getElem_toArray, List.getElem_cons_zero, List.getElem_cons_succ]
      refine wpAnyH_take (i := 21) (v := ?vb20_21) rfl (by kernel_rfl) (by kernel_rfl) (by kernel_rfl) (fun _ _ _ h => h) (Or.inl ⟨by rfl, ?hyb20_21⟩) (by assumption) ?_
      case hyb20_21 =>
        intro w hSw
        try dsimp only at hSw
        go_simp
        try with_reducible rfl
      try simp only [Act.put, List.setIfInBounds_toArray, List.set_cons_zero, List.set_cons_succ, List.getElem_toArray, List.getElem_cons_zero, List.getElem_cons_succ]
      refine wpAnyH_take (i := 22) (v := ?vb21_22) rfl (by kernel_rfl) (by kernel_rfl) (by kernel_rfl) (fun _ _ _ h => h) (Or.inl ⟨by rfl, ?hyb21_22⟩) (by assumption) ?_
      case hyb21_22 =>
        intro w hSw
        try dsimp only at hSw
        go_simp
        try with_reducible rfl
      try simp only [Act.put, List.setIfInBounds_toArray, List.set_cons_zero, List.set_cons_succ, List.getElem_toArray, List.getElem_cons_zero, List.getElem_cons_succ]
      refine wpAnyH_take (i := 23) (v := ?vb22_23) rfl (by kernel_rfl) (by kernel_rfl) (by kernel_rfl) (fun _ _ _ h => h) (Or.inl ⟨by rfl, ?hyb22_23⟩) (by assumption) ?_
      case hyb22_23 =>
        intro w hSw
        try dsimp only at hSw
        go_simp
        try with_reducible rfl
      try simp only [Act.put, List.setIfInBounds_toArray, List.set_cons_zero, List.set_cons_succ, List.getElem_toArray, List.getElem_cons_zero, List.getElem_cons_succ]
      refine wpAnyH_take (i := 24) (v := ?vb23_24) rfl (by kernel_rfl) (by kernel_rfl) (by kernel_rfl) (fun _ _ _ h => h) (Or.inl ⟨by rfl, ?hyb23_24⟩) (by assumption) ?_
      case hyb23_24 =>
        intro w hSw
        try dsimp only at hSw
        go_simp
        try with_reducible rfl
      try simp only [Act.put, List.setIfInBounds_toArray, List.set_cons_zero, List.set_cons_succ, List.getElem_toArray, List.getElem_cons_zero, List.getElem_cons_succ]
      refine wpAnyH_take (i := 25) (v := ?vb24_25) rfl (by kernel_rfl) (by kernel_rfl) (by kernel_rfl) (fun _ _ _ h => h) (Or.inl ⟨by rfl, ?hyb24_25⟩) (by assumption) ?_
      case hyb24_25 =>
        intro w hSw
        try dsimp only at hSw
        go_simp
        try with_reducible rfl
      try simp only [Act.put, List.setIfInBounds_toArray, List.set_cons_zero, List.set_cons_succ, List.getElem_toArray, List.getElem_cons_zero, List.getElem_cons_succ]
      refine wpAnyH_take (i := 26) (v := ?vb25_26) rfl (by kernel_rfl) (by kernel_rfl) (by kernel_rfl) (fun _ _ _ h => h) (Or.inl ⟨by rfl, ?hyb25_26⟩) (by assumption) ?_
      case hyb25_26 =>
        intro w hSw
        try dsimp only at hSw
        go_simp
        try with_reducible rfl
      try simp only [Act.put, List.setIfInBounds_toArray, List.set_cons_zero, List.set_cons_succ, List.getElem_toArray, List.getElem_cons_zero, List.getElem_cons_succ]
      refine wpAnyH_take (i := 27) (v := ?vb26_27) rfl (by kernel_rfl) (by kernel_rfl) (by kernel_rfl) (fun _ _ _ h => h) (Or.inl ⟨by rfl, ?hyb26_27⟩) (by assumption) ?_
      case hyb26_27 =>
        intro w hSw
        try dsimp only at hSw
        go_simp
        try with_reducible rfl
      try simp only [Act.put, List.setIfInBounds_toArray, List.set_cons_zero, List.set_cons_succ, List.getElem_toArray, List.getElem_cons_zero, List.getElem_cons_succ]
      refine wpAnyH_take (i := 28) (v := ?vb27_28) rfl (by kernel_rfl) (by kernel_rfl) (by kernel_rfl) (fun _ _ _ h => h) (Or.inl ⟨by rfl, ?hyb27_28⟩) (by assumption) ?_
      case hyb27_28 =>
        intro w hSw
        try dsimp only at hSw
        go_simp
        try with_reducible rfl
      try simp only [Act.put, List.setIfInBounds_toArray, List.set_cons_zero, List.set_cons_succ, List.getElem_toArray, List.getElem_cons_zero, List.getElem_cons_succ]
      refine wpAnyH_take (i := 29) (v := ?vb28_29) rfl (by kernel_rfl) (by kernel_rfl) (by kernel_rfl) (fun _ _ _ h => h) (Or.inl ⟨by rfl, ?hyb28_29⟩) (by assumption) ?_
      case hyb28_29 =>
        intro w hSw
        try dsimp only at hSw
        go_simp
        try with_reducible rfl
      try simp only [Act.put, List.setIfInBounds_toArray, List.set_cons_zero, List.set_cons_succ, List.getElem_toArray, List.getElem_cons_zero, List.getElem_cons_succ]
      refine wpAnyH_take (i := 30) (v := ?vb29_30) rfl (by kernel_rfl) (by kernel_rfl) (by kernel_rfl) (fun _ _ _ h => h) (Or.inl ⟨by rfl, ?hyb29_30⟩) (by assumption) ?_
      case hyb29_30 =>
        intro w hSw
        try dsimp only at hSw
        go_simp
        try with_reducible rfl
      try simp only [Act.put, List.setIfInBounds_toArray, List.set_cons_zero, List.set_cons_succ, List.getElem_toArray, List.getElem_cons_zero, List.getElem_cons_succ]
      refine wpAnyH_take (i := 31) (v := ?vb30_31) rfl (by kernel_rfl) (by kernel_rfl) (by kernel_rfl) (fun _ _ _ h => h) (Or.inl ⟨by rfl, ?hyb30_31⟩) (by assumption) ?_
      case hyb30_31 =>
        intro w hSw
        try dsimp only at hSw
        go_simp
        try with_reducible rfl
      try simp only [Act.put, List.setIfInBounds_toArray, List.set_cons_zero, List.set_cons_succ, List.getElem_toArray, List.getElem_cons_zero, List.getElem_cons_succ]
      refine wpAnyH_done (by kernel_rfl) ?_ _
      go_wp2
      go_ret
      exact ⟨rfl, (unhide E42).1.b⟩
    · have hoc' : (oc == 0) = false := beq_eq_false_iff_ne.2 hoc
      have hoc2 : (oc != 0) = true := by simp [hoc]
      have SX : Hid (∀ y9, Zz w y9 B3 B5 la pa lc pc L P ⟨fq, bx, bf, tx⟩ X Y x1 x2 x3 u1 u2 u3 y1 y2 y3 v1 v2 v3 ⟨oL, oF, oG, ol, oc⟩ → (y9.cell? ⟨X, 4, none⟩ = some (.int .i64 oc))) := hide fun y9 hz => (row5b hz.2.1.x).2.2.2.2
      go_upto_region 8 with fail
      have E7 : Hid (Zz w wc.drew B3 B5 la pa lc pc L P ⟨fq, bx, bf, tx⟩ X Y x1 x2 x3 u1 u2 u3 y1 y2 y3 v1 v2 v3 ⟨oL, oF, oG, ol, oc⟩) := hide (Zz.step (unhide E6) ((Below.refl _ _).drew))
      refine wp_region_held_drew (S := fun y9 => y9.cell? ⟨X, 4, none⟩ = some (.int .i64 oc)) (by kernel_rfl) (unhide SX _ (unhide E7)) (fun hHeld => ?_)
      generalize wc.drew = yy at E7 hHeld ⊢
      refine wpAnyH_take (i := 0) (v := ?vc1_0) rfl (by kernel_rfl) (by kernel_rfl) (by kernel_rfl) (fun _ _ _ h => h) (Or.inl ⟨by rfl, ?hyc1_0⟩) (by assumption) ?_
      case hyc1_0 =>
        intro w hSw
        try dsimp only at hSw
        go_simp
        try with_reducible rfl
      try simp only [Act.put, List.setIfInBounds_toArray, List.set_cons_zero, List.set_cons_succ, List.getElem_toArray, List.getElem_cons_zero]
      refine wpAnyH_take (i := 1) (v := ?vc2_1) rfl (by kernel_rfl) (by kernel_rfl) (by kernel_rfl) (fun _ _ _ h => h) (Or.inl ⟨by rfl, ?hyc2_1⟩) (by assumption) ?_
      case hyc2_1 =>
        intro w hSw
        try dsimp only at hSw
        go_simp
        try with_reducible rfl
      try simp only [Act.put, List.setIfInBounds_toArray, List.set_cons_zero, List.set_cons_succ, List.getElem_toArray, List.getElem_cons_zero, List.getElem_cons_succ]
      refine wpAnyH_take (i := 2) (v := ?vc3_2) rfl (by kernel_rfl) (by kernel_rfl) (by kernel_rfl) (fun _ _ _ h => h) (Or.inl ⟨by rfl, ?hyc3_2⟩) (by assumption) ?_
      case hyc3_2 =>
        intro w hSw
        try dsimp only at hSw
        go_simp
        try with_reducible rfl
      try simp only [Act.put, List.setIfInBounds_toArray, List.set_cons_zero, List.set_cons_succ, List.getElem_toArray, List.getElem_cons_zero, List.getElem_cons_succ]
      refine wpAnyH_take (i := 3) (v := ?vc4_3) rfl (by kernel_rfl) (by kernel_rfl) (by kernel_rfl) (fun _ _ _ h => h) (Or.inl ⟨by rfl, ?hyc4_3⟩) (by assumption) ?_
      case hyc4_3 =>
        intro w hSw
        try dsimp only at hSw
        go_simp
        try with_reducible rfl
      try simp only [Act.put, List.setIfInBounds_toArray, List.set_cons_zero, List.set_cons_succ, List.getElem_toArray, List.getElem_cons_zero, List.getElem_cons_succ]
      refine wpAnyH_take (i := 4) (v := undef) rfl (by kernel_rfl) (by kernel_rfl) (by kernel_rfl) (fun _ _ _ h => h) (Or.inr ⟨by rfl, rfl⟩) (by assumption) ?_
      try simp only [Act.put, List.setIfInBounds_toArray, List.set_cons_zero, List.set_cons_succ, List.getElem_toArray, List.getElem_cons_zero, List.getElem_cons_succ]
      refine wpAnyH_take (i := 5) (v := undef) rfl (by kernel_rfl) (by kernel_rfl) (by kernel_rfl) (fun _ _ _ h => h) (Or.inr ⟨by rfl, rfl⟩) (by assumption) ?_
      try simp only [Act.put, List.setIfInBounds_toArray, List.set_cons_zero, List.set_cons_succ, List.getElem_toArray, List.getElem_cons_zero, List.getElem_cons_succ]
      refine wpAnyH_take (i := 6) (v := undef) rfl (by kernel_rfl) (by kernel_rfl) (by kernel_rfl) (fun _ _ _ h => h) (Or.inr ⟨by rfl, rfl⟩) (by assumption) ?_
      try simp only [Act.put, List.setIfInBounds_toArray, List.set_cons_zero, List.set_cons_succ, List.getElem_toArray, List.getElem_cons_zero, List.getElem_cons_succ]
      refine wpAnyH_take (i := 7) (v := undef) rfl (by kernel_rfl) (by kernel_rfl) (by kernel_rfl) (fun _ _ _ h => h) (Or.inr ⟨by rfl, rfl⟩) (by assumption) ?_
      try simp only [Act.put, List.setIfInBounds_toArray, List.set_cons_zero, List.set_cons_succ, List.getElem_toArray, List.getElem_cons_zero, List.getElem_cons_succ]
      refine wpAnyH_take (i := 8) (v := undef) rfl (by kernel_rfl) (by kernel_rfl) (by kernel_rfl) (fun _ _ _ h => h) (Or.inr ⟨by rfl, rfl⟩) (by assumption) ?_
      try simp only [Act.put, List.setIfInBounds_toArray, List.set_cons_zero, List.set_cons_succ, List.getElem_toArray, List.getElem_cons_zero, List.getElem_cons_succ]
      refine wpAnyH_take (i := 9) (v := undef) rfl (by kernel_rfl) (by kernel_rfl) (by kernel_rfl) (fun _ _ _ h => h) (Or.inr ⟨by rfl, rfl⟩) (by assumption) ?_
      try simp only [Act.put, List.setIfInBounds_toArray, List.set_cons_zero, List.set_cons_succ, List.getElem_toArray, List.getElem_cons_zero, List.getElem_cons_succ]
      refine wpAnyH_take (i := 10) (v := undef) rfl (by kernel_rfl) (by kernel_rfl) (by kernel_rfl) (fun _ _ _ h => h) (Or.inr ⟨by rfl, rfl⟩) (by assumption) ?_
      try simp only [Act.put, List.setIfInBounds_toArray, List.set_cons_zero, List.set_cons_succ, List.getElem_toArray, List.getElem_cons_zero, List.getElem_cons_succ]
      refine wpAnyH_take (i := 11) (v := undef) rfl (by kernel_rfl) (by kernel_rfl) (by kernel_rfl) (fun _ _ _ h => h) (Or.inr ⟨by rfl, rfl⟩) (by assumption) ?_
      try simp only [Act.put, List.setIfInBounds_toArray, List.set_cons_zero, List.set_cons_succ, List.getElem_toArray, List.getElem_cons_zero, List.getElem_cons_succ]
      refine wpAnyH_take (i := 12) (v := undef) rfl (by kernel_rfl) (by kernel_rfl) (by kernel_rfl) (fun _ _ _ h => h) (Or.inr ⟨by rfl, rfl⟩) (by assumption) ?_
      try simp only [Act.put, List.setIfInBounds_toArray, List.set_cons_zero, List.set_cons_succ, List.getElem_toArray, List.getElem_cons_zero, List.getElem_cons_succ]
      refine wpAnyH_take (i := 13) (v := undef) rfl (by kernel_rfl) (by kernel_rfl) (by kernel_rfl) (fun _ _ _ h => h) (Or.inr ⟨by rfl, rfl⟩) (by assumption) ?_
      try simp only [Act.put, List.setIfInBounds_toArray, List.set_cons_zero, List.set_cons_succ, List.getElem_toArray, List.getElem_cons_zero, List.getElem_cons_succ]
      refine wpAnyH_take (i := 14) (v := undef) rfl (by kernel_rfl) (by kernel_rfl) (by kernel_rfl) (fun _ _ _ h => h) (Or.inr ⟨by rfl, rfl⟩) (by assumption) ?_
      try simp only [Act.put, List.setIfInBounds_toArray, List.set_cons_zero, List.set_cons_succ, List.getElem_toArray, List.getElem_cons_zero, List.getElem_cons_succ]
      refine wpAnyH_take (i := 15) (v := undef) rfl (by kernel_rfl) (by kernel_rfl) (by kernel_rfl) (fun _ _ _ h => h) (Or.inr ⟨by rfl, rfl⟩) (by assumption) ?_
      try simp only [Act.put, List.setIfInBounds_toArray, List.set_cons_zero, List.set_cons_succ, List.getElem_toArray, List.getElem_cons_zero, List.getElem_cons_succ]
      refine wpAnyH_take (i := 16) (v := undef) rfl (by kernel_rfl) (by kernel_rfl) (by kernel_rfl) (fun _ _ _ h => h) (Or.inr ⟨by rfl, rfl⟩) (by assumption) ?_
      try simp only [Act.put, List.setIfInBounds_toArray, List.set_cons_zero, List.set_cons_succ, List.getElem_toArray, List.getElem_cons_zero, List.getElem_cons_succ]
      refine wpAnyH_take (i := 17) (v := undef) rfl (by kernel_rfl) (by kernel_rfl) (by kernel_rfl) (fun _ _ _ h => h) (Or.inr ⟨by rfl, rfl⟩) (by assumption) ?_
      try simp only [Act.put, List.setIfInBounds_toArray, List.set_cons_zero, List.set_cons_succ, List.getElem_toArray, List.getElem_cons_zero, List.getElem_cons_succ]
      refine wpAnyH_take (i := 18) (v := undef) rfl (by kernel_rfl) (by kernel_rfl) (by kernel_rfl) (fun _ _ _ h => h) (Or.inr ⟨by rfl, rfl⟩) (by assumption) ?_
      try simp only [Act.put, List.setIfInBounds_toArray, List.set_cons_zero, List.set_cons_succ, List.getElem_toArray, List.getElem_cons_zero, List.getElem_cons_succ]
      refine wpAnyH_take (i := 19) (v := undef) rfl (by kernel_rfl) (by kernel_rfl) (by kernel_rfl) (fun _ _ _ h => h) (Or.inr ⟨by rfl, rfl⟩) (by assumption) ?_
      try simp only [Act.put, List.setIfInBounds_toArray, List.set_cons_zero, List.set_cons_succ, List.getElem_toArray, List.getElem_cons_zero, List.getElem_cons_succ]
      refine wpAnyH_take (i := 20) (v := undef) rfl (by kernel_rfl) (by kernel_rfl) (by kernel_rfl) (fun _ _ _ h => h) (Or.inr ⟨by rfl, rfl⟩) (by assumption) ?_
      try simp only [Act.put, List.setIfInBounds_toArray, List.set_cons_zero, List.set_cons_succ, List.getElem_toArray, List.getElem_cons_zero, List.getElem_cons_succ]
      refine wpAnyH_take (i := 21) (v := undef) rfl (by kernel_rfl) (by kernel_rfl) (by kernel_rfl) (fun _ _ _ h => h) (Or.inr ⟨by rfl, rfl⟩) (by assumption) ?_
      try simp only [Act.put, List.setIfInBounds_toArray, List.set_cons_zero, List.set_cons_succ, List.getElem_toArray, List.getElem_cons_zero, List.getElem_cons_succ]
      refine wpAnyH_take (i := 22) (v := undef) rfl (by kernel_rfl) (by kernel_rfl) (by kernel_rfl) (fun _ _ _ h => h) (Or.inr ⟨by rfl, rfl⟩) (by assumption) ?_
      try simp only [Act.put, List.setIfInBounds_toArray, List.set_cons_zero, List.set_cons_succ, List.getElem_toArray, List.getElem_cons_zero, List.getElem_cons_succ]
      refine wpAnyH_take (i := 23) (v := undef) rfl (by kernel_rfl) (by kernel_rfl) (by kernel_rfl) (fun _ _ _ h => h) (Or.inr ⟨by rfl, rfl⟩) (by assumption) ?_
      try simp only [Act.put, List.setIfInBounds_toArray, List.set_cons_zero, List.set_cons_succ, List.getElem_toArray, List.getElem_cons_zero, List.getElem_cons_succ]
      refine wpAnyH_take (i := 24) (v := undef) rfl (by kernel_rfl) (by kernel_rfl) (by kernel_rfl) (fun _ _ _ h => h) (Or.inr ⟨by rfl, rfl⟩) (by assumption) ?_
      try simp only [Act.put, List.setIfInBounds_toArray, List.set_cons_zero, List.set_cons_succ, List.getElem_toArray, List.getElem_cons_zero, List.getElem_cons_succ]
      refine wpAnyH_take (i := 25) (v := undef) rfl (by kernel_rfl) (by kernel_rfl) (by kernel_rfl) (fun _ _ _ h => h) (Or.inr ⟨by rfl, rfl⟩) (by assumption) ?_
      try simp only [Act.put, List.setIfInBounds_toArray, List.set_cons_zero, List.set_cons_succ, List.getElem_toArray, List.getElem_cons_zero, List.getElem_cons_succ]
      refine wpAnyH_take (i := 26) (v := undef) rfl (by kernel_rfl) (by kernel_rfl) (by kernel_rfl) (fun _ _ _ h => h) (Or.inr ⟨by rfl, rfl⟩) (by assumption) ?_
      try simp only [Act.put, List.setIfInBounds_toArray, List.set_cons_zero, List.set_cons_succ, List.getElem_toArray, List.getElem_cons_zero, List.getElem_cons_succ]
      refine wpAnyH_take (i := 27) (v := undef) rfl (by kernel_rfl) (by kernel_rfl) (by kernel_rfl) (fun _ _ _ h => h) (Or.inr ⟨by rfl, rfl⟩) (by assumption) ?_
      try simp only [Act.put, List.setIfInBounds_toArray, List.set_cons_zero, List.set_cons_succ, List.getElem_toArray, List.getElem_cons_zero, List.getElem_cons_succ]
      refine wpAnyH_take (i := 28) (v := undef) rfl (by kernel_rfl) (by kernel_rfl) (by kernel_rfl) (fun _ _ _ h => h) (Or.inr ⟨by rfl, rfl⟩) (by assumption) ?_
      try simp only [Act.put, List.setIfInBounds_toArray, List.set_cons_zero, List.set_cons_succ, List.getElem_toArray, List.getElem_cons_zero, List.getElem_cons_succ]
      refine wpAnyH_take (i := 29) (v := undef) rfl (by kernel_rfl) (by kernel_rfl) (by kernel_rfl) (fun _ _ _ h => h) (Or.inr ⟨by rfl, rfl⟩) (by assumption) ?_
      try simp only [Act.put, List.setIfInBounds_toArray, List.set_cons_zero, List.set_cons_succ, List.getElem_toArray, List.getElem_cons_zero, List.getElem_cons_succ]
      refine wpAnyH_take (i := 30) (v := ?vc31_30) rfl (by kernel_rfl) (by kernel_rfl) (by kernel_rfl) (fun _ _ _ h => h) (Or.inl ⟨by rfl, ?hyc31_30⟩) (by assumption) ?_
      case hyc31_30 =>
        intro w hSw
        try dsimp only at hSw
        go_simp
        try with_reducible rfl
      try simp only [Act.put, List.setIfInBounds_toArray, List.set_cons_zero, List.set_cons_succ, List.getElem_toArray, List.getElem_cons_zero, List.getElem_cons_succ]
      refine wpAnyH_take (i := 31) (v := ?vc32_31) rfl (by kernel_rfl) (by kernel_rfl) (by kernel_rfl) (fun _ _ _ h => h) (Or.inl ⟨by rfl, ?hyc32_31⟩) (by assumption) ?_
      case hyc32_31 =>
        intro w hSw
        try dsimp only at hSw
        go_simp
        try with_reducible rfl
      try simp only [Act.put, List.setIfInBounds_toArray, List.set_cons_zero, List.set_cons_succ, List.getElem_toArray, List.getElem_cons_zero, List.getElem_cons_succ]
      refine wpAnyH_done (by kernel_rfl) ?_ _
      go_wp2
      go_ret
      exact ⟨rfl, (unhide E7).1.b⟩

end Go.Proofs.Ytfkeokfmancgiaa
