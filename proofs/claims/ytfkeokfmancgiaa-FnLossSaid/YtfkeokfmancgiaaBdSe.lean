/- The program's settleRuns: each run is taken, given up or kept; rows of numbers and of parts stand. -/
import Derived.Test.YtfkeokfmancgiaaBdTk
import Derived.Test.YtfkeokfmancgiaaBdWk
namespace Go.Proofs.Ytfkeokfmancgiaa
open Go.RowKit
/-- What is settled so far, and what is left. -/
structure Sm (m : Int) (F st l : List Fg) (G : List ByteArray) (c : Nat) (bf : Int) : Prop where
  s : (settleP m (-1) F).stay = st ++ (settleP m bf l).stay
  g : (settleP m (-1) F).got = G ++ (settleP m bf l).got
  t : (settleP m (-1) F).lost = c + (settleP m bf l).lost
  n1 : G.length + l.length ≤ F.length
  n2 : c + l.length ≤ F.length
  n3 : l.length ≤ F.length
  ok : ∀ f ∈ st ++ l, fgOk f = true
section
variable {m : Int} {F st l : List Fg} {G : List ByteArray} {c : Nat} {bf : Int} {a : Fg}
theorem Sm.ok' (h : Sm m F st (a :: l) G c bf) : ∀ f, f ∈ st ∨ f ∈ a :: (runP a l).1 ∨ f ∈ (runP a l).2 → fgOk f = true := fun f hf => h.ok f (by
  rw [List.mem_append, List.mem_cons, ← runP_app a l, List.mem_append]
  rcases hf with h1 | h1 | h1
  · exact Or.inl h1
  · rcases List.mem_cons.1 h1 with h2 | h2
    · exact Or.inr (Or.inl h2)
    · exact Or.inr (Or.inr (Or.inl h2))
  · exact Or.inr (Or.inr (Or.inr h1)))
theorem Sm.take (h : Sm m F st (a :: l) G c bf) (h1 : (a.beg && (lastP a (runP a l).1).fin) = true) : Sm m F st (runP a l).2 (G ++ [catP (a :: (runP a l).1)]) c (lastP a (runP a l).1).seq := by
  obtain ⟨k1, k2, k3, k4, k5, k6, k7⟩ := h
  have hl := runP_len a l
  have ok' := Sm.ok' ⟨k1, k2, k3, k4, k5, k6, k7⟩
  have hs : settleP m bf (a :: l) = _ := settle_cons m bf a l
  unfold soAdd at hs
  rw [if_pos h1] at hs
  rw [hs] at k1 k2 k3
  dsimp only at k1 k2 k3
  rw [List.length_cons] at k4 k5 k6
  refine ⟨k1, by rw [k2]; simp, k3, by rw [List.length_append, List.length_singleton]; omega, by omega, by omega, fun f hf => ok' f ?_⟩
  rcases List.mem_append.1 hf with h2 | h2
  · exact Or.inl h2
  · exact Or.inr (Or.inr h2)
theorem Sm.lose (h : Sm m F st (a :: l) G c bf) (h1 : (a.beg && (lastP a (runP a l).1).fin) = false) (h2 : deadP m bf a (lastP a (runP a l).1) (runP a l).2 = true) : Sm m F st (runP a l).2 G (c + ((runP a l).1.length + 1)) (lastP a (runP a l).1).seq := by
  obtain ⟨k1, k2, k3, k4, k5, k6, k7⟩ := h
  have hl := runP_len a l
  have ok' := Sm.ok' ⟨k1, k2, k3, k4, k5, k6, k7⟩
  have hs : settleP m bf (a :: l) = _ := settle_cons m bf a l
  unfold soAdd at hs
  rw [if_neg (by rw [h1]; simp), if_pos h2] at hs
  rw [hs] at k1 k2 k3
  dsimp only at k1 k2 k3
  rw [List.length_cons] at k4 k5 k6
  refine ⟨k1, k2, by rw [k3]; omega, by omega, by omega, by omega, fun f hf => ok' f ?_⟩
  rcases List.mem_append.1 hf with h2 | h2
  · exact Or.inl h2
  · exact Or.inr (Or.inr h2)
theorem Sm.keep (h : Sm m F st (a :: l) G c bf) (h1 : (a.beg && (lastP a (runP a l).1).fin) = false) (h2 : deadP m bf a (lastP a (runP a l).1) (runP a l).2 = false) : Sm m F (st ++ a :: (runP a l).1) (runP a l).2 G c (lastP a (runP a l).1).seq := by
  obtain ⟨k1, k2, k3, k4, k5, k6, k7⟩ := h
  have hl := runP_len a l
  have ok' := Sm.ok' ⟨k1, k2, k3, k4, k5, k6, k7⟩
  have hs : settleP m bf (a :: l) = _ := settle_cons m bf a l
  unfold soAdd at hs
  rw [if_neg (by rw [h1]; simp), if_neg (by rw [h2]; simp)] at hs
  rw [hs] at k1 k2 k3
  dsimp only at k1 k2 k3
  rw [List.length_cons] at k4 k5 k6
  refine ⟨by rw [k1]; simp, k2, k3, by omega, by omega, by omega, fun f hf => ok' f ?_⟩
  rcases List.mem_append.1 hf with h2 | h2
  · rcases List.mem_append.1 h2 with h3 | h3
    · exact Or.inl h3
    · exact Or.inr (Or.inl h3)
  · exact Or.inr (Or.inr h2)
end
/-- The part behind a run is there just where it is the first of the rest. -/
theorem has_rest {P l : List Fg} {a : Fg} (h : Ris (P ++ a :: l)) : hasP (P ++ a :: l) ((lastP a (runP a l).1).seq + 1) = (match (runP a l).2 with | [] => false | b :: _ => decide (b.seq = (lastP a (runP a l).1).seq + 1)) := by
  obtain ⟨P1, hP1⟩ := last_split a (runP a l).1
  have hF : P ++ a :: l = (P ++ P1) ++ lastP a (runP a l).1 :: (runP a l).2 := by
    have e : a :: l = (a :: (runP a l).1) ++ (runP a l).2 := by rw [List.cons_append, runP_app]
    rw [e, hP1]
    simp
  rw [hF] at h ⊢
  rcases look_next h with ⟨h1, l', e, h2⟩ | ⟨h1, h2⟩
  · rw [h1]
    generalize findP _ _ = y at e h2
    rw [e]
    simp [h2]
  · rw [h1]
    cases hr : (runP a l).2 with
    | nil => rfl
    | cons b l' => simp [h2 b l' hr]
/-- The numbers of the rest, in a row at any offset. -/
def Sq (z : World) (v : Value) (l : List Fg) : Prop := ∃ ad cp, v = .slice ad l.length cp ∧ l.length ≤ cp ∧ (l ≠ [] → ∃ g o cur, ad = some ⟨g, o, none⟩ ∧ z.heap[g]? = some (.cells cur 2) ∧ ∀ i (h : i < l.length), cur[o + i]? = some (.int .i64 l[i].seq))
theorem Sq.kp {z z' : World} {v : Value} {l : List Fg} (h : Sq z v l) (k : Kp z z') : Sq z' v l := by
  obtain ⟨ad, cp, e1, e2, e3⟩ := h
  exact ⟨ad, cp, e1, e2, fun hn => by obtain ⟨g, o, cur, h1, h2, h3⟩ := e3 hn; exact ⟨g, o, cur, h1, k.i g cur h2, h3⟩⟩
theorem Sq.own {z : World} {base : Nat} {v : Value} {F : List Fg} (h : z.ownsRow base 2 1 v F.length ((F.map (·.seq)).map encZ)) : Sq z v F := by
  rcases h.2 with ⟨h1, h2⟩ | ⟨g, cap, cur, h1, _, h3, h4, _, h6, h7⟩
  · have e := List.eq_nil_of_length_eq_zero h2
    subst e
    exact ⟨none, 0, h1, Nat.le_refl _, fun hn => absurd rfl hn⟩
  · refine ⟨_, cap, h1, h4, fun _ => ⟨g, 0, cur, rfl, h3, fun i hi => ?_⟩⟩
    have e : (cur.toList.take (F.length * 1))[i]? = some (.int .i64 F[i].seq) := by
      rw [h7]
      simp [encZ, List.getElem?_eq_getElem hi]
    rw [List.getElem?_take, if_pos (by omega), Array.getElem?_toList] at e
    rw [Nat.zero_add]
    exact e
/-- A slice behind a run. -/
theorem Sq.cut {z : World} {ad : Option Addr} {n cp : Nat} {R S : List Fg} (h : Sq z (.slice ad n cp) (R ++ S)) : Sq z (.slice (if cp = R.length then ad else ad.map (·.add (R.length * 1))) (n - R.length) (cp - R.length)) S := by
  obtain ⟨ad', cp', e1, e2, e3⟩ := h
  cases e1
  rw [List.length_append] at e2
  refine ⟨_, _, by rw [List.length_append, Nat.add_sub_cancel_left], by omega, fun hn => ?_⟩
  have hS : 0 < S.length := List.length_pos_iff.2 hn
  obtain ⟨g, o, cur, h1, h2, h3⟩ := e3 (by simp [hn])
  rw [if_neg (by omega), h1]
  refine ⟨g, o + R.length, cur, by simp [Addr.add], h2, fun i hi => ?_⟩
  have e := h3 (R.length + i) (by rw [List.length_append]; omega)
  rw [Nat.add_assoc, e]
  simp
theorem slice_i (z : World) (ad : Option Addr) (n cp r : Nat) (h : r ≤ n) : (Instr.slice 27 (.slice ad n cp) (some (.int .i64 (r : Nat))) none none).run Try.prog z = .ok (.slice (if cp = r then ad else ad.map (·.add (r * 1))) (n - r) (cp - r)) z := by
  have hs := Try.sizeOf2 z
  have he : Try.prog.elem 27 = 2 := by kernel_rfl
  rw [run_slice_l (P := Try.prog) (w := z) 27 ad n cp (by rw [he]; exact Try.underlying27) .i64 (r : Int) (by omega) (by omega), he, hs]
  simp [Result.andThen, sliced]
/-- At work on a run. -/
structure Sr (w q : World) (B M k : Nat) (lv gv : Value) (X : List Fg) (lost : Int) (G : List ByteArray) (v ys : Value) (R rest : List Fg) (z : World) : Prop where
  b : Bw w B M k lv gv X lost z
  k : Kp q z
  g : z.ownsRow w.heap.size 9 1 gv G.length (scells G)
  r : HoldsG z v R
  s : Sq z ys rest
theorem own_below {z z' : World} (hb : Below z.heap.size z z') {base n : Nat} {v : Value} {xs : List Value} {T : TypeId} {sz : Nat} (ho : z.ownsRow base T sz v n xs) : z'.ownsRow base T sz v n xs :=
  ⟨ho.1, ho.2.imp id fun ⟨g, cap, cur, e1, e2, e3, e4⟩ => ⟨g, cap, cur, e1, e2, (hb.block g (Array.getElem?_eq_some_iff.1 e3).1).trans e3, e4⟩⟩
theorem Sr.step {w q z z' : World} {B M k : Nat} {lv gv : Value} {X : List Fg} {lost : Int} {G : List ByteArray} {v ys : Value} {R rest : List Fg} (h : Sr w q B M k lv gv X lost G v ys R rest z) (hb : Below z.heap.size z z') : Sr w q B M k lv gv X lost G v ys R rest z' :=
  ⟨h.b.step hb, h.k.trans (Kp.below hb), own_below hb h.g, (Kp.below hb).holds h.r, h.s.kp (Kp.below hb)⟩
theorem Sr.cells {w q z : World} {B M k : Nat} {lv gv : Value} {X : List Fg} {lost : Int} {G : List ByteArray} {ys : Value} {rest : List Fg} {rg cr : Nat} {a : Fg} {r : List Fg} (h : Sr w q B M k lv gv X lost G (.slice (some ⟨rg, 0, none⟩) (r.length + 1) cr) ys (a :: r) rest z) :
    (z.cell? ⟨rg, 0, none⟩ = some (.int .i64 a.seq) ∧ z.cell? ⟨rg, 1, none⟩ = some (.bool a.beg) ∧ z.cell? ⟨rg, 2, none⟩ = some (.bool a.fin) ∧ z.cell? ⟨rg, 3, none⟩ = some (.string a.text)) ∧
    z.cell? ⟨rg, r.length * 4, none⟩ = some (.int .i64 (lastP a r).seq) ∧ z.cell? ⟨rg, r.length * 4 + 1, none⟩ = some (.bool (lastP a r).beg) ∧ z.cell? ⟨rg, r.length * 4 + 2, none⟩ = some (.bool (lastP a r).fin) ∧ z.cell? ⟨rg, r.length * 4 + 3, none⟩ = some (.string (lastP a r).text) := by
  obtain ⟨g, cp, ev, c0, c1, c2, c3⟩ := getG h.r 0 (by simp)
  cases ev
  obtain ⟨g, cp, ev, d0, d1, d2, d3⟩ := getG h.r r.length (by simp)
  cases ev
  have e : (a :: r)[r.length] = lastP a r := Option.some.inj ((List.getElem?_eq_getElem (by simp)).symm.trans (last_get a r))
  rw [e] at d0 d1 d2 d3
  rw [Nat.zero_mul] at c0 c1 c2 c3
  exact ⟨⟨c0, c1, c2, c3⟩, d0, d1, d2, d3⟩
theorem if_in {c : Prop} [Decidable c] {p q : Prop} (hc : c) (hp : p) : if c then p else q := by rw [if_pos hc]; exact hp
theorem setRow_otherB (w : World) (g k : Nat) (cs : Array Value) (h : k ≠ g) : (w.setRow g cs).heap[k]? = w.heap[k]? := by
  unfold World.setRow
  rw [Array.getElem?_modify, if_neg (fun e => h e.symm)]
theorem below_rowB {B g : Nat} {w0 w : World} (hb : Below B w0 w) (h : B ≤ g) (cs : Array Value) : Below B w0 (w.setRow g cs) :=
  ⟨hb.os, hb.tape, hb.output, by unfold World.setRow; simpa using hb.size, fun b hlt => (setRow_otherB w g b cs (by omega)).trans (hb.block b hlt)⟩
theorem info4B : (Try.prog.info? 33).map (·.size) = some 4 := by kernel_rfl
set_option linter.unusedSimpArgs false in
set_option maxHeartbeats 16000000 in
set_option maxRecDepth 100000 in
theorem iSettleB (w q : World) (B M k : Nat) (la : Option Addr) (lc : Nat) (L : List Int) (F : List Fg) (hB : Bw w B M k (.slice la L.length lc) (.slice none 0 0) F 0 q) (hL : HoldsI q (.slice la L.length lc) L) (h0 : 0 < L.length) (hl : L.length ≤ 1000) (hlen : F.length ≤ 1000) (hok : ∀ f ∈ F, fgOk f = true) :
    Calls Try.prog 45 #[.pointer (some ⟨B, 0, none⟩)] q fun e q' => e = .returned (.tuple #[]) ∧ ∃ gv, Bw w B M k (.slice la L.length lc) gv (settleP (minP L[0] L) (-1) F).stay ((settleP (minP L[0] L) (-1) F).lost : Nat) q' ∧ q'.ownsRow w.heap.size 9 1 gv (settleP (minP L[0] L) (-1) F).got.length (scells (settleP (minP L[0] L) (-1) F).got) ∧ Kp q q' := by
  have CM := iMinB q L la lc hL h0 hl
  have CS := iSeqsB w q B M k _ _ F 0 hB hlen
  have c0 := (row4g hB.c).1
  generalize minP L[0] L = m at CM ⊢
  generalize (.slice la L.length lc : Value) = lv at *
  have H0 := hide hB
  clear hL hB
  go_enter Try.func45, Try.ntmps45
  go_wp2_with fail
  refine CM.mono ?_
  rintro e q0 ⟨rfl, hq⟩
  replace hq := hq.symm
  subst hq
  go_wp2_with fail
  refine CS.mono ?_
  rintro e q1 ⟨v, rfl, hrow, hb1⟩
  have hS := Sq.own hrow
  obtain ⟨sa, sc, ev, _⟩ := hS
  subst ev
  have H1 := hide (And.intro ((unhide H0).step hb1) (And.intro (Sq.own hrow) (Kp.below hb1)))
  clear hrow hb1 H0 CM CS c0
  go_upto_region 3 with fail
  go_loopg [3, 4] F.length (fun gk x y wr => ∃ (st l : List Fg) (G : List ByteArray) (c : Nat) (bf : Int) (gv : Value), l.length = gk ∧ x = .int .i64 bf ∧ Sm m F st l G c bf ∧ Bw w B M k lv gv (st ++ l) (c : Int) wr ∧ wr.ownsRow w.heap.size 9 1 gv G.length (scells G) ∧ Sq wr y l ∧ Kp q wr)
  case atStart =>
    exact ⟨[], F, [], 0, -1, .slice none 0 0, rfl, rfl, ⟨rfl, rfl, by omega, by simp, by simp, Nat.le_refl _, fun f hf => hok f hf⟩, (unhide H1).1, World.ownsRow_nil _ _ _ _, (unhide H1).2.1, (unhide H1).2.2⟩
  case round =>
    obtain ⟨st, l, G, c, bf, gv, hgl, rfl, hsm, hb, hg, hsq, hkp⟩ := hrel
    clear H1
    cases l with
    | nil =>
      obtain ⟨sa2, sc2, ev, _⟩ := hsq
      subst ev
      have e1 : ¬ ((0 : Int) < (([] : List Fg).length : Int)) := by simp
      have HF : Hid (∃ gv, Bw w B M k lv gv (settleP m (-1) F).stay ((settleP m (-1) F).lost : Nat) wr ∧ wr.ownsRow w.heap.size 9 1 gv (settleP m (-1) F).got.length (scells (settleP m (-1) F).got) ∧ Kp q wr) := hide (by
        obtain ⟨k1, k2, k3, _⟩ := hsm
        rw [settle_nil] at k1 k2 k3
        dsimp only at k1 k2 k3
        rw [List.append_nil] at k1 k2
        rw [List.append_nil] at hb
        exact ⟨gv, by rw [k1, k3, Nat.add_zero]; exact hb, by rw [k2]; exact hg, hkp⟩)
      clear hsm hb hg hkp
      go_wp2_with fail
      exact bodyPost_end (results_none rfl _ _ _) rfl ⟨rfl, unhide HF⟩
    | cons a l1 =>
      have hn0 : (a :: l1).length = l1.length + 1 := rfl
      have hl1 : l1.length ≤ 1000 := by have := hsm.n3; omega
      have hokB : ∀ f ∈ st ++ a :: l1, 0 ≤ f.seq ∧ f.seq ≤ 16777215 := fun f hf => (of_decide_eq_true (hsm.ok f hf)).1
      have CR := iRunB w wr B M k lv gv st l1 a (c : Int) hb hokB hl1
      have hok1 := hsm.ok'
      have hrn := runP_len a l1
      have hap : a :: l1 = (a :: (runP a l1).1) ++ (runP a l1).2 := by rw [List.cons_append, runP_app]
      have hhas := has_rest hb.r
      have hris := hb.r
      obtain ⟨sa2, sc2, ev, hcp, hsx⟩ := hsq
      have hsq2 : Sq wr (.slice sa2 (a :: l1).length sc2) (a :: l1) := ⟨sa2, sc2, rfl, hcp, hsx⟩
      subst ev
      obtain ⟨sg, so, cur, esa, hsg, hcur⟩ := hsx (by simp)
      subst esa
      have cs0 : wr.cell? ⟨sg, so, none⟩ = some (.int .i64 a.seq) := by
        rw [cell_of_row _ _ _ _ _ _ hsg]
        exact hcur 0 (by simp)
      rw [hap] at hsq2
      have hsq3 := hsq2.cut
      have hdead : deadP m bf a (lastP a (runP a l1).1) (runP a l1).2 = ((!a.beg && (decide (a.seq - 1 ≤ m) || decide (a.seq - 1 = bf))) || (!(lastP a (runP a l1).1).fin && (decide ((lastP a (runP a l1).1).seq + 1 ≤ m) || hasP (st ++ a :: l1) ((lastP a (runP a l1).1).seq + 1)))) := by rw [hhas]; rfl
      have hmid1 : dels (a :: (runP a l1).1) (st ++ a :: l1) = st ++ (runP a l1).2 := by
        rw [hap, ← List.append_assoc]
        refine dels_mid ?_
        rw [List.append_assoc, ← hap]
        exact hris
      have hkeep : st ++ a :: l1 = (st ++ a :: (runP a l1).1) ++ (runP a l1).2 := by rw [List.append_assoc, ← hap]
      have hT := hide fun h1 => hsm.take h1
      have hLo := hide fun h1 h2 => hsm.lose h1 h2
      have hKe := hide fun h1 h2 => hsm.keep h1 h2
      have hg1 := hsm.n1
      have hc1 := hsm.n2
      rw [← hap] at hsq3
      generalize hr : (runP a l1).1 = r at *
      generalize hrest : (runP a l1).2 = rest at *
      have hz := hok1 (lastP a r) (Or.inr (Or.inl (by obtain ⟨P, e⟩ := last_split a r; rw [e]; simp)))
      have hz1 := (of_decide_eq_true hz).1
      have ha1 := (of_decide_eq_true (hok1 a (Or.inr (Or.inl List.mem_cons_self)))).1
      have hokR : ∀ f ∈ a :: r, fgOk f = true := fun f hf => hok1 f (Or.inr (Or.inl hf))
      generalize hzz : lastP a r = zz at *
      obtain ⟨a1, a2, a3, a4⟩ := a
      obtain ⟨z1, z2, z3, z4⟩ := zz
      dsimp only at hdead hz1 ha1 cs0 CR
      have HA := hide (And.intro hsq3 (And.intro hb (And.intro hg hkp)))
      have HD := hide hdead
      have HM := hide hmid1
      have HK := hide hkeep
      have HZ := hide hzz
      have hn1 : (0 : Int) < ((l1.length + 1 : Nat) : Int) := by omega
      have HGK := hide hgl
      rw [hn0] at *
      clear hsm hb hg hsq2 hkp hdead hmid1 hkeep hap hsq3 hhas hris hsx hsg hcur hok1 hgl hokB hr hrest hz hn0
      go_wp2_with fail
      refine CR.mono ?_
      rintro e w1 ⟨v, rfl, hro, hb1, hbl1⟩
      have hRG := HoldsG.own (F := ⟨a1, a2, a3, a4⟩ :: r) (by rw [List.length_cons]; exact hro)
      obtain ⟨rg, cr, ev⟩ : ∃ rg cr, v = .slice (some ⟨rg, 0, none⟩) (r.length + 1) cr := by
        rcases hRG with ⟨_, _, _, e⟩ | ⟨g, cap, cur, e1, _⟩
        · cases e
        · exact ⟨g, cap, e1⟩
      subst ev
      have hsl := slice_i w1 (some ⟨sg, so, none⟩) (l1.length + 1) sc2 (r.length + 1) (by omega)
      rw [show ((r.length + 1 : Nat) : Int) = (r.length : Int) + 1 by omega] at hsl
      obtain ⟨ys, hys⟩ : ∃ ys : Value, ys = .slice (if sc2 = r.length + 1 then some ⟨sg, so, none⟩ else (some (⟨sg, so, none⟩ : Addr)).map (·.add ((r.length + 1) * 1))) (l1.length + 1 - (r.length + 1)) (sc2 - (r.length + 1)) := ⟨_, rfl⟩
      rw [← hys] at hsl
      have H2 : Hid (Sr w q B M k lv gv (st ++ ⟨a1, a2, a3, a4⟩ :: l1) (c : Int) G (.slice (some ⟨rg, 0, none⟩) (r.length + 1) cr) ys (⟨a1, a2, a3, a4⟩ :: r) rest w1) := hide ⟨hb1, (unhide HA).2.2.2.trans (Kp.below hbl1), own_below hbl1 (unhide HA).2.2.1, hRG, by rw [hys]; exact (unhide HA).1.kp (Kp.below hbl1)⟩
      have HY := hide hys
      clear hro hb1 hbl1 hRG CR cs0 HA hys
      go_upto_region 6 with fail
      have HS : Hid (∀ z : World, Sr w q B M k lv gv (st ++ ⟨a1, a2, a3, a4⟩ :: l1) (c : Int) G (.slice (some ⟨rg, 0, none⟩) (r.length + 1) cr) ys (⟨a1, a2, a3, a4⟩ :: r) rest z → (fun z => (z.cell? ⟨rg, 0, none⟩ = some (.int .i64 a1) ∧ z.cell? ⟨rg, 1, none⟩ = some (.bool a2) ∧ z.cell? ⟨rg, 2, none⟩ = some (.bool a3) ∧ z.cell? ⟨rg, 3, none⟩ = some (.string a4)) ∧ z.cell? ⟨rg, r.length * 4, none⟩ = some (.int .i64 z1) ∧ z.cell? ⟨rg, r.length * 4 + 1, none⟩ = some (.bool z2) ∧ z.cell? ⟨rg, r.length * 4 + 2, none⟩ = some (.bool z3) ∧ z.cell? ⟨rg, r.length * 4 + 3, none⟩ = some (.string z4)) z) := hide fun z h => by
        have := h.cells
        rw [unhide HZ] at this
        exact this
      have hw1 : IntKind.i64.wrap ((r.length : Int) + 1 - 1) = (r.length : Int) := by rw [Int.add_sub_cancel]; exact wrapT _ (by omega) (by omega)
      have hw2 : IntKind.i64.wrap (r.length : Int) = (r.length : Int) := wrapT _ (by omega) (by omega)
      have hix1 : (r.length : Int) < (r.length : Int) + 1 := by omega
      have hix2 : r.length < r.length + 1 := by omega
      have hix3 : ((r.length + 1 : Nat) : Int) - 1 = (r.length : Int) := by omega
      have hix4 : (r.length : Int) < ((r.length + 1 : Nat) : Int) := by omega
      go_cut [6, 7] (fun x6 x7 wx => ∃ A6 A7, x6 = .pointer (some ⟨A6, 0, none⟩) ∧ x7 = .pointer (some ⟨A7, 0, none⟩) ∧ Sr w q B M k lv gv (st ++ ⟨a1, a2, a3, a4⟩ :: l1) (c : Int) G (.slice (some ⟨rg, 0, none⟩) (r.length + 1) cr) ys (⟨a1, a2, a3, a4⟩ :: r) rest wx ∧ wx.heap[A6]? = some (.cells #[.int .i64 a1, .bool a2, .bool a3, .string a4] 33) ∧ wx.heap[A7]? = some (.cells #[.int .i64 z1, .bool z2, .bool z3, .string z4] 33))
      case first =>
        refine wp_region_held_drew (S := fun z => (z.cell? ⟨rg, 0, none⟩ = some (.int .i64 a1) ∧ z.cell? ⟨rg, 1, none⟩ = some (.bool a2) ∧ z.cell? ⟨rg, 2, none⟩ = some (.bool a3) ∧ z.cell? ⟨rg, 3, none⟩ = some (.string a4)) ∧ z.cell? ⟨rg, r.length * 4, none⟩ = some (.int .i64 z1) ∧ z.cell? ⟨rg, r.length * 4 + 1, none⟩ = some (.bool z2) ∧ z.cell? ⟨rg, r.length * 4 + 2, none⟩ = some (.bool z3) ∧ z.cell? ⟨rg, r.length * 4 + 3, none⟩ = some (.string z4)) (by kernel_rfl) (unhide HS _ ((unhide H2).step ((Below.refl _ _).drew))) (fun hHeld => ?_)
        have D0 := hide ((unhide H2).step ((Below.refl _ _).drew))
        generalize w1.drew = yy at D0 hHeld ⊢
        refine wpAnyH_take (i := 0) (v := ?vsr1_0) rfl (by kernel_rfl) (by kernel_rfl) (by kernel_rfl) (fun _ _ _ h => h) (Or.inl ⟨by rfl, ?hysr1_0⟩) (by assumption) ?_
        case hysr1_0 =>
          intro w hSw
          try dsimp only at hSw
          go_simp
          try with_reducible rfl
        try simp only [Act.put, List.setIfInBounds_toArray, List.set_cons_zero, List.set_cons_succ, List.getElem_toArray, List.getElem_cons_zero]
        refine wpAnyH_take (i := 1) (v := ?vsr2_1) rfl (by kernel_rfl) (by kernel_rfl) (by kernel_rfl) (fun _ _ _ h => h) (Or.inl ⟨by rfl, ?hysr2_1⟩) (by assumption) ?_
        case hysr2_1 =>
          intro w hSw
          try dsimp only at hSw
          go_simp
          try with_reducible rfl
        try simp only [Act.put, List.setIfInBounds_toArray, List.set_cons_zero, List.set_cons_succ, List.getElem_toArray, List.getElem_cons_zero, List.getElem_cons_succ]
        refine wpAnyH_take (i := 2) (v := ?vsr3_2) rfl (by kernel_rfl) (by kernel_rfl) (by kernel_rfl) (fun _ _ _ h => h) (Or.inl ⟨by rfl, ?hysr3_2⟩) (by assumption) ?_
        case hysr3_2 =>
          intro w hSw
          try dsimp only at hSw
          go_simp
          try with_reducible rfl
        try simp only [Act.put, List.setIfInBounds_toArray, List.set_cons_zero, List.set_cons_succ, List.getElem_toArray, List.getElem_cons_zero, List.getElem_cons_succ]
        refine wpAnyH_take (i := 3) (v := ?vsr4_3) rfl (by kernel_rfl) (by kernel_rfl) (by kernel_rfl) (fun _ _ _ h => h) (Or.inl ⟨by rfl, ?hysr4_3⟩) (by assumption) ?_
        case hysr4_3 =>
          intro w hSw
          try dsimp only at hSw
          go_simp
          try with_reducible rfl
        try simp only [Act.put, List.setIfInBounds_toArray, List.set_cons_zero, List.set_cons_succ, List.getElem_toArray, List.getElem_cons_zero, List.getElem_cons_succ]
        refine wpAnyH_take (i := 4) (v := ?vsr5_4) rfl (by kernel_rfl) (by kernel_rfl) (by kernel_rfl) (fun _ _ _ h => h) (Or.inl ⟨by rfl, ?hysr5_4⟩) (by assumption) ?_
        case hysr5_4 =>
          intro w hSw
          try dsimp only at hSw
          go_simp
          try with_reducible rfl
        try simp only [Act.put, List.setIfInBounds_toArray, List.set_cons_zero, List.set_cons_succ, List.getElem_toArray, List.getElem_cons_zero, List.getElem_cons_succ]
        refine wpAnyH_take (i := 5) (v := ?vsr6_5) rfl (by kernel_rfl) (by kernel_rfl) (by kernel_rfl) (fun _ _ _ h => h) (Or.inl ⟨by rfl, ?hysr6_5⟩) (by assumption) ?_
        case hysr6_5 =>
          intro w hSw
          try dsimp only at hSw
          go_simp
          try with_reducible rfl
        try simp only [Act.put, List.setIfInBounds_toArray, List.set_cons_zero, List.set_cons_succ, List.getElem_toArray, List.getElem_cons_zero, List.getElem_cons_succ]
        refine wpAnyH_take (i := 6) (v := ?vsr7_6) rfl (by kernel_rfl) (by kernel_rfl) (by kernel_rfl) (fun _ _ _ h => h) (Or.inl ⟨by rfl, ?hysr7_6⟩) (by assumption) ?_
        case hysr7_6 =>
          intro w hSw
          try dsimp only at hSw
          go_simp
          try with_reducible rfl
        try simp only [Act.put, List.setIfInBounds_toArray, List.set_cons_zero, List.set_cons_succ, List.getElem_toArray, List.getElem_cons_zero, List.getElem_cons_succ]
        refine wpAnyH_take (i := 7) (v := ?vsr8_7) rfl (by kernel_rfl) (by kernel_rfl) (by kernel_rfl) (fun _ _ _ h => h) (Or.inl ⟨by rfl, ?hysr8_7⟩) (by assumption) ?_
        case hysr8_7 =>
          intro w hSw
          try dsimp only at hSw
          go_simp
          try with_reducible rfl
        try simp only [Act.put, List.setIfInBounds_toArray, List.set_cons_zero, List.set_cons_succ, List.getElem_toArray, List.getElem_cons_zero, List.getElem_cons_succ]
        refine wpAnyH_take (i := 8) (v := ?vsr9_8) rfl (by kernel_rfl) (by kernel_rfl) (by kernel_rfl) (fun _ _ _ h => h) (Or.inl ⟨by rfl, ?hysr9_8⟩) (by assumption) ?_
        case hysr9_8 =>
          intro w hSw
          try dsimp only at hSw
          go_simp
          try with_reducible rfl
        try simp only [Act.put, List.setIfInBounds_toArray, List.set_cons_zero, List.set_cons_succ, List.getElem_toArray, List.getElem_cons_zero, List.getElem_cons_succ]
        refine wpAnyH_ready (rs := [9, 10]) (by kernel_rfl) (by simp) ?_
        refine AllReadyH.cons rfl (fun K hK => ?_) (AllReadyH.cons rfl (fun K hK => ?_) (AllReadyH.nil))
        · have BA := hide ((Below.refl yy.heap.size yy).alloc (Nat.le_refl _) (.cells #[.int .i64 0, .bool false, .bool false, .string ⟨#[]⟩] 33))
          go_simp
          refine hK.out _ _ (unhide HS _ ((unhide D0).step (unhide BA))) (fun _ => ?_)
          clear hK K
          try simp only [Act.put, List.setIfInBounds_toArray, List.set_cons_zero, List.set_cons_succ, List.getElem_toArray, List.getElem_cons_zero, List.getElem_cons_succ]
          refine wpAnyH_ready (rs := [10]) (by kernel_rfl) (by simp) ?_
          refine AllReadyH.cons rfl (fun K hK => ?_) (AllReadyH.nil)
          have BB := hide (new2w yy (.cells #[.int .i64 0, .bool false, .bool false, .string ⟨#[]⟩] 33) (.cells #[.int .i64 0, .bool false, .bool false, .string ⟨#[]⟩] 33))
          have BC := hide (unhide BB).2.2.1
          go_simp
          refine hK.out _ _ (unhide HS _ ((unhide D0).step (unhide BC))) (fun _ => ?_)
          clear hK K
          try simp only [Act.put, List.setIfInBounds_toArray, List.set_cons_zero, List.set_cons_succ, List.getElem_toArray, List.getElem_cons_zero, List.getElem_cons_succ]
          refine wpAnyH_ready (rs := [11]) (by kernel_rfl) (by simp) ?_
          refine AllReadyH.cons rfl (fun K hK => ?_) (AllReadyH.nil)
          refine if_in (by rfl) ?_
          refine wp_store_row 33 (.tmp 6) (.tmp 29) rfl yy.heap.size #[.int .i64 a1, .bool a2, .bool a3, .string a4] rfl rfl 33 #[.int .i64 0, .bool false, .bool false, .string ⟨#[]⟩] (unhide BB).1 info4B rfl (by kernel_rfl) ?_
          have BD := hide (below_rowB (unhide BC) (g := yy.heap.size) (by omega) #[.int .i64 a1, .bool a2, .bool a3, .string a4])
          have H7a := hide ((setRow_otherB ((yy.alloc (.cells #[.int .i64 0, .bool false, .bool false, .string ⟨#[]⟩] 33)).alloc (.cells #[.int .i64 0, .bool false, .bool false, .string ⟨#[]⟩] 33)) yy.heap.size (yy.heap.size + 1) #[.int .i64 a1, .bool a2, .bool a3, .string a4] (by omega)).trans (unhide BB).2.1)
          have H6a := hide (setRow_heap _ _ #[.int .i64 0, .bool false, .bool false, .string ⟨#[]⟩] #[.int .i64 a1, .bool a2, .bool a3, .string a4] 33 (0, 0) (unhide BB).1)
          refine hK.out _ _ (unhide HS _ ((unhide D0).step (unhide BD))) (fun _ => ?_)
          clear hK K
          try simp only [Act.put, List.setIfInBounds_toArray, List.set_cons_zero, List.set_cons_succ, List.getElem_toArray, List.getElem_cons_zero, List.getElem_cons_succ]
          refine wpAnyH_ready (rs := [12]) (by kernel_rfl) (by simp) ?_
          refine AllReadyH.cons rfl (fun K hK => ?_) (AllReadyH.nil)
          refine if_in (by rfl) ?_
          refine wp_store_row 33 (.tmp 7) (.tmp 35) rfl (yy.heap.size + 1) #[.int .i64 z1, .bool z2, .bool z3, .string z4] rfl rfl 33 #[.int .i64 0, .bool false, .bool false, .string ⟨#[]⟩] (unhide H7a) info4B rfl (by kernel_rfl) ?_
          have BE := hide (below_rowB (unhide BD) (g := (yy.heap.size + 1)) (by omega) #[.int .i64 z1, .bool z2, .bool z3, .string z4])
          have H6b := hide ((setRow_otherB _ (yy.heap.size + 1) yy.heap.size #[.int .i64 z1, .bool z2, .bool z3, .string z4] (by omega)).trans (unhide H6a))
          have H7b := hide (setRow_heap _ _ #[.int .i64 0, .bool false, .bool false, .string ⟨#[]⟩] #[.int .i64 z1, .bool z2, .bool z3, .string z4] 33 (0, 0) (unhide H7a))
          refine hK.out _ _ (unhide HS _ ((unhide D0).step (unhide BE))) (fun _ => ?_)
          clear hK K
          try simp only [Act.put, List.setIfInBounds_toArray, List.set_cons_zero, List.set_cons_succ, List.getElem_toArray, List.getElem_cons_zero, List.getElem_cons_succ]
          refine wpAnyH_done (by kernel_rfl) ?_ _
          go_wp2_with fail
          go_meet
          exact ⟨yy.heap.size, (yy.heap.size + 1), rfl, rfl, (unhide D0).step (unhide BE), unhide H6b, unhide H7b⟩
        · have BA := hide ((Below.refl yy.heap.size yy).alloc (Nat.le_refl _) (.cells #[.int .i64 0, .bool false, .bool false, .string ⟨#[]⟩] 33))
          go_simp
          refine hK.out _ _ (unhide HS _ ((unhide D0).step (unhide BA))) (fun _ => ?_)
          clear hK K
          try simp only [Act.put, List.setIfInBounds_toArray, List.set_cons_zero, List.set_cons_succ, List.getElem_toArray, List.getElem_cons_zero, List.getElem_cons_succ]
          refine wpAnyH_ready (rs := [9]) (by kernel_rfl) (by simp) ?_
          refine AllReadyH.cons rfl (fun K hK => ?_) (AllReadyH.nil)
          have BB := hide (new2w yy (.cells #[.int .i64 0, .bool false, .bool false, .string ⟨#[]⟩] 33) (.cells #[.int .i64 0, .bool false, .bool false, .string ⟨#[]⟩] 33))
          have BC := hide (unhide BB).2.2.1
          go_simp
          refine hK.out _ _ (unhide HS _ ((unhide D0).step (unhide BC))) (fun _ => ?_)
          clear hK K
          try simp only [Act.put, List.setIfInBounds_toArray, List.set_cons_zero, List.set_cons_succ, List.getElem_toArray, List.getElem_cons_zero, List.getElem_cons_succ]
          refine wpAnyH_ready (rs := [11]) (by kernel_rfl) (by simp) ?_
          refine AllReadyH.cons rfl (fun K hK => ?_) (AllReadyH.nil)
          refine if_in (by rfl) ?_
          refine wp_store_row 33 (.tmp 6) (.tmp 29) rfl (yy.heap.size + 1) #[.int .i64 a1, .bool a2, .bool a3, .string a4] rfl rfl 33 #[.int .i64 0, .bool false, .bool false, .string ⟨#[]⟩] (unhide BB).2.1 info4B rfl (by kernel_rfl) ?_
          have BD := hide (below_rowB (unhide BC) (g := (yy.heap.size + 1)) (by omega) #[.int .i64 a1, .bool a2, .bool a3, .string a4])
          have H7a := hide ((setRow_otherB ((yy.alloc (.cells #[.int .i64 0, .bool false, .bool false, .string ⟨#[]⟩] 33)).alloc (.cells #[.int .i64 0, .bool false, .bool false, .string ⟨#[]⟩] 33)) (yy.heap.size + 1) yy.heap.size #[.int .i64 a1, .bool a2, .bool a3, .string a4] (by omega)).trans (unhide BB).1)
          have H6a := hide (setRow_heap _ _ #[.int .i64 0, .bool false, .bool false, .string ⟨#[]⟩] #[.int .i64 a1, .bool a2, .bool a3, .string a4] 33 (0, 0) (unhide BB).2.1)
          refine hK.out _ _ (unhide HS _ ((unhide D0).step (unhide BD))) (fun _ => ?_)
          clear hK K
          try simp only [Act.put, List.setIfInBounds_toArray, List.set_cons_zero, List.set_cons_succ, List.getElem_toArray, List.getElem_cons_zero, List.getElem_cons_succ]
          refine wpAnyH_ready (rs := [12]) (by kernel_rfl) (by simp) ?_
          refine AllReadyH.cons rfl (fun K hK => ?_) (AllReadyH.nil)
          refine if_in (by rfl) ?_
          refine wp_store_row 33 (.tmp 7) (.tmp 35) rfl yy.heap.size #[.int .i64 z1, .bool z2, .bool z3, .string z4] rfl rfl 33 #[.int .i64 0, .bool false, .bool false, .string ⟨#[]⟩] (unhide H7a) info4B rfl (by kernel_rfl) ?_
          have BE := hide (below_rowB (unhide BD) (g := yy.heap.size) (by omega) #[.int .i64 z1, .bool z2, .bool z3, .string z4])
          have H6b := hide ((setRow_otherB _ yy.heap.size (yy.heap.size + 1) #[.int .i64 z1, .bool z2, .bool z3, .string z4] (by omega)).trans (unhide H6a))
          have H7b := hide (setRow_heap _ _ #[.int .i64 0, .bool false, .bool false, .string ⟨#[]⟩] #[.int .i64 z1, .bool z2, .bool z3, .string z4] 33 (0, 0) (unhide H7a))
          refine hK.out _ _ (unhide HS _ ((unhide D0).step (unhide BE))) (fun _ => ?_)
          clear hK K
          try simp only [Act.put, List.setIfInBounds_toArray, List.set_cons_zero, List.set_cons_succ, List.getElem_toArray, List.getElem_cons_zero, List.getElem_cons_succ]
          refine wpAnyH_done (by kernel_rfl) ?_ _
          go_wp2_with fail
          go_meet
          exact ⟨(yy.heap.size + 1), yy.heap.size, rfl, rfl, (unhide D0).step (unhide BE), unhide H6b, unhide H7b⟩
      case rest =>
        obtain ⟨A6, A7, e6, e7, hs6, h6, h7⟩ := hcut
        subst e6 e7
        obtain ⟨k0, k1, k2, k3⟩ := row4g h6
        obtain ⟨m0, m1, m2, m3⟩ := row4g h7
        have H7 : Hid (Sr w q B M k lv gv (st ++ ⟨a1, a2, a3, a4⟩ :: l1) (c : Int) G (.slice (some ⟨rg, 0, none⟩) (r.length + 1) cr) ys (⟨a1, a2, a3, a4⟩ :: r) rest wc ∧ wc.heap[A6]? = some (.cells #[.int .i64 a1, .bool a2, .bool a3, .string a4] 33) ∧ wc.heap[A7]? = some (.cells #[.int .i64 z1, .bool z2, .bool z3, .string z4] 33)) := hide ⟨hs6, h6, h7⟩
        have hme : rest.length < gk := by have h := unhide HGK; omega
        clear hs6 h6 h7 H2 HS hsl HGK hw1 hw2 hix1 hix2 hix3 hix4 hn1
        obtain ⟨dA, hdA⟩ : ∃ d : Bool, d = (!a2 && (decide (a1 - 1 ≤ m) || decide (a1 - 1 = bf))) := ⟨_, rfl⟩
        obtain ⟨dB, hdB⟩ : ∃ d : Bool, d = (!z3 && (decide (z1 + 1 ≤ m) || hasP (st ++ ⟨a1, a2, a3, a4⟩ :: l1) (z1 + 1))) := ⟨_, rfl⟩
        have C1 : Hid (∀ z, Calls Try.prog 65 #[.agg #[.int .i64 a1, .bool a2, .bool a3, .string a4], .int .i64 m, .int .i64 bf] z fun e z' => e = .returned (.bool dA) ∧ Below z.heap.size z z') := hide fun z => by rw [hdA]; exact iAheadB ⟨a1, a2, a3, a4⟩ m bf z ha1
        have C2 : Hid (∀ z, Bw w B M k lv gv (st ++ ⟨a1, a2, a3, a4⟩ :: l1) (c : Int) z → Calls Try.prog 66 #[.pointer (some ⟨B, 0, none⟩), .agg #[.int .i64 z1, .bool z2, .bool z3, .string z4], .int .i64 m] z fun e z' => e = .returned (.bool dB) ∧ Below z.heap.size z z') := hide fun z hb => by rw [hdB]; exact iBehindB w z B M k lv gv _ (c : Int) ⟨z1, z2, z3, z4⟩ m hb hz1
        rw [← hdA, ← hdB] at HD
        have CT : Hid (∀ z, Sr w q B M k lv gv (st ++ ⟨a1, a2, a3, a4⟩ :: l1) (c : Int) G (.slice (some ⟨rg, 0, none⟩) (r.length + 1) cr) ys (⟨a1, a2, a3, a4⟩ :: r) rest z → Calls Try.prog 64 #[.pointer (some ⟨B, 0, none⟩), .slice (some ⟨rg, 0, none⟩) (r.length + 1) cr] z fun e z' => e = .returned (.tuple #[]) ∧ ∃ gv', Bw w B M k lv gv' (st ++ rest) (c : Int) z' ∧ z'.ownsRow w.heap.size 9 1 gv' (G ++ [catP (⟨a1, a2, a3, a4⟩ :: r)]).length (scells (G ++ [catP (⟨a1, a2, a3, a4⟩ :: r)])) ∧ Kp z z') := hide fun z h => by
          rw [← unhide HM]
          exact iTakeB w z B M k lv gv _ (⟨a1, a2, a3, a4⟩ :: r) (c : Int) G (some ⟨rg, 0, none⟩) cr h.b h.r h.g hokR (by rw [List.length_cons]; omega) (by omega)
        have CL : Hid (∀ z, Sr w q B M k lv gv (st ++ ⟨a1, a2, a3, a4⟩ :: l1) (c : Int) G (.slice (some ⟨rg, 0, none⟩) (r.length + 1) cr) ys (⟨a1, a2, a3, a4⟩ :: r) rest z → Calls Try.prog 67 #[.pointer (some ⟨B, 0, none⟩), .slice (some ⟨rg, 0, none⟩) (r.length + 1) cr] z fun e z' => e = .returned (.tuple #[]) ∧ Bw w B M k lv gv (st ++ rest) ((c + (r.length + 1) : Nat) : Int) z' ∧ z'.ownsRow w.heap.size 9 1 gv G.length (scells G) ∧ Kp z z') := hide fun z h => by
          refine (iLoseB w z B M k lv gv _ (⟨a1, a2, a3, a4⟩ :: r) (c : Int) (some ⟨rg, 0, none⟩) cr h.b h.r (fun f hf => (of_decide_eq_true (hokR f hf)).1) (by rw [List.length_cons]; omega) (by omega)).mono ?_
          rintro e z' ⟨e1, e2, e3⟩
          refine ⟨e1, ?_, own_tn h.b e3 h.g, Kp.tn h.b e3⟩
          rw [unhide HM] at e2
          rw [show ((c + (r.length + 1) : Nat) : Int) = (c : Int) + ((⟨a1, a2, a3, a4⟩ :: r : List Fg).length : Nat) by rw [List.length_cons]; omega]
          exact e2
        clear hdA hdB hokR
        cases a2
        · cases dA
          · go_wp2_with fail
            refine (unhide C1 _).mono ?_
            rintro e w8 ⟨rfl, hb8⟩
            have H8 := hide (And.intro ((unhide H7).1.step hb8) (And.intro ((hb8.block _ (Array.getElem?_eq_some_iff.1 (unhide H7).2.1).1).trans (unhide H7).2.1) ((hb8.block _ (Array.getElem?_eq_some_iff.1 (unhide H7).2.2).1).trans (unhide H7).2.2)))
            clear hb8 k0 k1 k2 k3 m0 m1 m2 m3
            obtain ⟨m0, m1, m2, m3⟩ := row4g (unhide H8).2.2
            go_wp2_with fail
            refine (unhide C2 _ (unhide H8).1.b).mono ?_
            rintro e w10 ⟨rfl, hb10⟩
            have H10 := hide (And.intro ((unhide H8).1.step hb10) (And.intro ((hb10.block _ (Array.getElem?_eq_some_iff.1 (unhide H8).2.1).1).trans (unhide H8).2.1) ((hb10.block _ (Array.getElem?_eq_some_iff.1 (unhide H8).2.2).1).trans (unhide H8).2.2)))
            clear hb10 m0 m1 m2 m3
            cases dB
            · have n0 := (row4g (unhide H10).2.2).1
              go_wp2_with fail
              go_roundg rest.length
              case measure => exact hme
              case rel => exact ⟨st ++ ⟨a1, false, a3, a4⟩ :: r, rest, G, c, z1, gv, rfl, rfl, unhide hKe rfl (unhide HD), by rw [← unhide HK]; exact (unhide H10).1.b, (unhide H10).1.g, (unhide H10).1.s, (unhide H10).1.k⟩
            · go_wp2_with fail
              refine (unhide CL _ (unhide H10).1).mono ?_
              rintro e w4 ⟨rfl, hb4, hg4, hk4⟩
              have h74 := hk4.f _ _ (unhide H10).2.2
              have n0 := (row4g h74).1
              have H9 := hide (And.intro hb4 (And.intro hg4 (And.intro ((unhide H10).1.s.kp hk4) ((unhide H10).1.k.trans hk4))))
              clear hb4 hg4 hk4 h74
              go_wp2_with fail
              go_roundg rest.length
              case measure => exact hme
              case rel => exact ⟨st, rest, G, _, z1, gv, rfl, rfl, unhide hLo rfl (unhide HD), (unhide H9).1, (unhide H9).2.1, (unhide H9).2.2.1, (unhide H9).2.2.2⟩
          · go_wp2_with fail
            refine (unhide C1 _).mono ?_
            rintro e w8 ⟨rfl, hb8⟩
            have H8 := hide (And.intro ((unhide H7).1.step hb8) (And.intro ((hb8.block _ (Array.getElem?_eq_some_iff.1 (unhide H7).2.1).1).trans (unhide H7).2.1) ((hb8.block _ (Array.getElem?_eq_some_iff.1 (unhide H7).2.2).1).trans (unhide H7).2.2)))
            clear hb8 k0 k1 k2 k3 m0 m1 m2 m3
            go_wp2_with fail
            refine (unhide CL _ (unhide H8).1).mono ?_
            rintro e w4 ⟨rfl, hb4, hg4, hk4⟩
            have h74 := hk4.f _ _ (unhide H8).2.2
            have n0 := (row4g h74).1
            have H9 := hide (And.intro hb4 (And.intro hg4 (And.intro ((unhide H8).1.s.kp hk4) ((unhide H8).1.k.trans hk4))))
            clear hb4 hg4 hk4 h74
            go_wp2_with fail
            go_roundg rest.length
            case measure => exact hme
            case rel => exact ⟨st, rest, G, _, z1, gv, rfl, rfl, unhide hLo rfl (by rw [unhide HD]; rfl), (unhide H9).1, (unhide H9).2.1, (unhide H9).2.2.1, (unhide H9).2.2.2⟩
        · cases z3
          · cases dA
            · go_wp2_with fail
              refine (unhide C1 _).mono ?_
              rintro e w8 ⟨rfl, hb8⟩
              have H8 := hide (And.intro ((unhide H7).1.step hb8) (And.intro ((hb8.block _ (Array.getElem?_eq_some_iff.1 (unhide H7).2.1).1).trans (unhide H7).2.1) ((hb8.block _ (Array.getElem?_eq_some_iff.1 (unhide H7).2.2).1).trans (unhide H7).2.2)))
              clear hb8 k0 k1 k2 k3 m0 m1 m2 m3
              obtain ⟨m0, m1, m2, m3⟩ := row4g (unhide H8).2.2
              go_wp2_with fail
              refine (unhide C2 _ (unhide H8).1.b).mono ?_
              rintro e w10 ⟨rfl, hb10⟩
              have H10 := hide (And.intro ((unhide H8).1.step hb10) (And.intro ((hb10.block _ (Array.getElem?_eq_some_iff.1 (unhide H8).2.1).1).trans (unhide H8).2.1) ((hb10.block _ (Array.getElem?_eq_some_iff.1 (unhide H8).2.2).1).trans (unhide H8).2.2)))
              clear hb10 m0 m1 m2 m3
              cases dB
              · have n0 := (row4g (unhide H10).2.2).1
                go_wp2_with fail
                go_roundg rest.length
                case measure => exact hme
                case rel => exact ⟨st ++ ⟨a1, true, a3, a4⟩ :: r, rest, G, c, z1, gv, rfl, rfl, unhide hKe rfl (unhide HD), by rw [← unhide HK]; exact (unhide H10).1.b, (unhide H10).1.g, (unhide H10).1.s, (unhide H10).1.k⟩
              · go_wp2_with fail
                refine (unhide CL _ (unhide H10).1).mono ?_
                rintro e w4 ⟨rfl, hb4, hg4, hk4⟩
                have h74 := hk4.f _ _ (unhide H10).2.2
                have n0 := (row4g h74).1
                have H9 := hide (And.intro hb4 (And.intro hg4 (And.intro ((unhide H10).1.s.kp hk4) ((unhide H10).1.k.trans hk4))))
                clear hb4 hg4 hk4 h74
                go_wp2_with fail
                go_roundg rest.length
                case measure => exact hme
                case rel => exact ⟨st, rest, G, _, z1, gv, rfl, rfl, unhide hLo rfl (unhide HD), (unhide H9).1, (unhide H9).2.1, (unhide H9).2.2.1, (unhide H9).2.2.2⟩
            · go_wp2_with fail
              refine (unhide C1 _).mono ?_
              rintro e w8 ⟨rfl, hb8⟩
              have H8 := hide (And.intro ((unhide H7).1.step hb8) (And.intro ((hb8.block _ (Array.getElem?_eq_some_iff.1 (unhide H7).2.1).1).trans (unhide H7).2.1) ((hb8.block _ (Array.getElem?_eq_some_iff.1 (unhide H7).2.2).1).trans (unhide H7).2.2)))
              clear hb8 k0 k1 k2 k3 m0 m1 m2 m3
              go_wp2_with fail
              refine (unhide CL _ (unhide H8).1).mono ?_
              rintro e w4 ⟨rfl, hb4, hg4, hk4⟩
              have h74 := hk4.f _ _ (unhide H8).2.2
              have n0 := (row4g h74).1
              have H9 := hide (And.intro hb4 (And.intro hg4 (And.intro ((unhide H8).1.s.kp hk4) ((unhide H8).1.k.trans hk4))))
              clear hb4 hg4 hk4 h74
              go_wp2_with fail
              go_roundg rest.length
              case measure => exact hme
              case rel => exact ⟨st, rest, G, _, z1, gv, rfl, rfl, unhide hLo rfl (by rw [unhide HD]; rfl), (unhide H9).1, (unhide H9).2.1, (unhide H9).2.2.1, (unhide H9).2.2.2⟩
          · go_wp2_with fail
            refine (unhide CT _ (unhide H7).1).mono ?_
            rintro e w3 ⟨rfl, gv3, hb3, hg3, hk3⟩
            have h73 := hk3.f _ _ (unhide H7).2.2
            have n0 := (row4g h73).1
            have H8 := hide (And.intro hb3 (And.intro hg3 (And.intro ((unhide H7).1.s.kp hk3) ((unhide H7).1.k.trans hk3))))
            clear hb3 hg3 hk3 h73 k0 k1 k2 k3 m0 m1 m2 m3 C1 C2 CT CL
            go_wp2_with fail
            go_roundg rest.length
            case measure => exact hme
            case rel => exact ⟨st, rest, _, c, z1, gv3, rfl, rfl, unhide hT rfl, (unhide H8).1, (unhide H8).2.1, (unhide H8).2.2.1, (unhide H8).2.2.2⟩
end Go.Proofs.Ytfkeokfmancgiaa
