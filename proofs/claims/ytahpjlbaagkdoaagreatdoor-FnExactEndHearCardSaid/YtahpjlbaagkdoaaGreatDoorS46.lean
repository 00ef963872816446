/- The marks that the law lays in an answer's rows, and whether they are held; what else lay in memory stands. How great an End's rows are, by the law's szEnd; what lay in memory stands. What the laws of an end's answers share: answers and Ends in memory, in ranges of blocks; marked, held, compared; what lay in memory stands but for a range. Words for the law FnExactEndHear: what is laid, and that it stands; no condition. -/
import Derived.Test.YtahpjlbaagkdoaaGreatDoorS15
import Derived.Test.YtahpjlbaagkdoaaGreatDoorS23
import Derived.Test.YtahpjlbaagkdoaaGreatDoorS16
import Derived.Test.YtahpjlbaagkdoaaGreatDoorS19
import Derived.Test.YtahpjlbaagkdoaaGreatDoorS45
import Derived.Deep.DeepCutAuto
import Derived.Deep.RegionHeld3
import Derived.Test.YtahpjlbaagkdoaaGreatDoorShW
namespace Go.Proofs.YtahpjlbaagkdoaaGreatDoor
open Go.RowKit
def Df (o1 o2 : Option Nat) : Prop := ∀ g, o1 = some g → o2 ≠ some g
theorem Df.symm {o1 o2 : Option Nat} (h : Df o1 o2) : Df o2 o1 := fun g e1 e2 => h g e2 e1
theorem But.trans {w w' w'' : World} {o : Option Nat} (h : But o w w') (k : But o w' w'') : But o w w'' :=
 ⟨k.os.trans h.os, k.tape.trans h.tape, k.output.trans h.output, Nat.le_trans h.size k.size, fun b hb hne => (k.block b (Nat.lt_of_lt_of_le hb h.size) hne).trans (h.block b hb hne)⟩
theorem But.nb {w w' : World} {v : Value} {n : Nat} (h : But v.ownBlock w w') (h0 : n = 0 → Below w.heap.size w w') : But (nb n v) w w' := by
 by_cases hn : n = 0
 ·subst hn
  rw [nb_none]
  exact But.of_below (h0 rfl)
 ·rw [nb_some hn]
  exact h
theorem HoldsO.keep {w w' : World} {v : Value} {F : List Op.Opt} {o : Option Nat} (h : HoldsO w v F) (hb : But o w w') (hd : Df (nb F.length v) o) : HoldsO w' v F := by
 rcases h with ⟨ad, cp, e, e0⟩ | ⟨g, cp, cur, e, q1, q2⟩
 ·exact Or.inl ⟨ad, cp, e, e0⟩
 ·by_cases hn : F.length = 0
  ·have : F = [] := List.eq_nil_of_length_eq_zero hn
   subst this
   exact Or.inl ⟨_, _, e, rfl⟩
  ·exact Or.inr ⟨g, cp, cur, e, (hb.block g (Array.getElem?_eq_some_iff.1 q1).1 (hd g (by rw [nb_some hn, e]; rfl))).trans q1, q2⟩
theorem HoldsP.keep {w w' : World} {v : Value} {F : List Op.Pk} {o : Option Nat} (h : HoldsP w v F) (hb : But o w w') (hd : Df (nb F.length v) o) : HoldsP w' v F := by
 rcases h with ⟨ad, cp, e, e0⟩ | ⟨g, cp, cur, e, q1, q2⟩
 ·exact Or.inl ⟨ad, cp, e, e0⟩
 ·by_cases hn : F.length = 0
  ·have : F = [] := List.eq_nil_of_length_eq_zero hn
   subst this
   exact Or.inl ⟨_, _, e, rfl⟩
  ·exact Or.inr ⟨g, cp, cur, e, (hb.block g (Array.getElem?_eq_some_iff.1 q1).1 (hd g (by rw [nb_some hn, e]; rfl))).trans q1, q2⟩
theorem HoldsT.keep {w w' : World} {v : Value} {F : List ByteArray} {o : Option Nat} (h : HoldsT w v F) (hb : But o w w') (hd : Df (nb F.length v) o) : HoldsT w' v F := by
 rcases h with ⟨ad, cp, e, e0⟩ | ⟨g, cp, cur, e, q1, q2⟩
 ·exact Or.inl ⟨ad, cp, e, e0⟩
 ·by_cases hn : F.length = 0
  ·have : F = [] := List.eq_nil_of_length_eq_zero hn
   subst this
   exact Or.inl ⟨_, _, e, rfl⟩
  ·exact Or.inr ⟨g, cp, cur, e, (hb.block g (Array.getElem?_eq_some_iff.1 q1).1 (hd g (by rw [nb_some hn, e]; rfl))).trans q1, q2⟩
set_option maxHeartbeats 4000000 in
set_option maxRecDepth 100000 in
theorem heldOutE (e : En) (cd : Int) (x1 x2 x5 x7 : Option Addr) (n1 n2 n3 n4 y1 y2 y5 y7 : Nat) (k : Nat) (w : World) (hk : 0 < k) (hl : k + 2 * n1 + 2 * n2 + 3 * n3 + n4 < 9000000)
  (h1 : HoldsO w (.slice x1 n1 y1) (mfd k n1)) (h2 : HoldsO w (.slice x2 n2 y2) (mfd (k + 2 * n1) n2)) (h3 : HoldsP w (.slice x5 n3 y5) (mpk (k + 2 * n1 + 2 * n2) n3)) (h4 : HoldsT w (.slice x7 n4 y7) (mtl (k + 2 * n1 + 2 * n2 + 3 * n3) n4)) :
  Calls Tryz.prog 23 #[.agg (eoC e (.slice x1 n1 y1) (.slice x2 n2 y2) (.slice x5 n3 y5) (.slice x7 n4 y7) cd), .int .i64 k] w fun r w' => r = .returned (.int .i64 ((k + 2 * n1 + 2 * n2 + 3 * n3 + n4 : Nat) : Int)) ∧ Below w.heap.size w w' := by
 have C1 := hide fun W (hb : Below w.heap.size w W) => heldEndE e x1 x2 n1 n2 y1 y2 k W hk (by omega) (h1.below hb rfl) (h2.below hb rfl)
 have C2 := hide fun W (hb : Below w.heap.size w W) => heldPkK _ n3 (k + 2 * n1 + 2 * n2) W (by omega) (by omega) (h3.below hb rfl)
 have C3 := hide fun W (hb : Below w.heap.size w W) => heldTF _ n4 (k + 2 * n1 + 2 * n2 + 3 * n3) W (by omega) (by omega) (h4.below hb rfl)
 obtain ⟨m1, a1, g1, p1, c1, d1, m2, a2, g2, p2, c2, d2, st, tr, du, id, fl, up, i1, i2, i3, i4, i5, o1, o2, o3, o4, o5⟩ := e
 have hA := heap_alloc_new w (.cells (eoC ⟨m1, a1, g1, p1, c1, d1, m2, a2, g2, p2, c2, d2, st, tr, du, id, fl, up, i1, i2, i3, i4, i5, o1, o2, o3, o4, o5⟩ (.slice x1 n1 y1) (.slice x2 n2 y2) (.slice x5 n3 y5) (.slice x7 n4 y7) cd) 42)
 have hbA : Below w.heap.size w (w.alloc (.cells (eoC ⟨m1, a1, g1, p1, c1, d1, m2, a2, g2, p2, c2, d2, st, tr, du, id, fl, up, i1, i2, i3, i4, i5, o1, o2, o3, o4, o5⟩ (.slice x1 n1 y1) (.slice x2 n2 y2) (.slice x5 n3 y5) (.slice x7 n4 y7) cd) 42)) := (Below.refl _ _).alloc (Nat.le_refl _) _
 have ng1 : ¬ (((k + 2 * n1 + 2 * n2 : Nat) : Int) < 0) := by omega
 have ng2 : ¬ (((k + 2 * n1 + 2 * n2 + 3 * n3 : Nat) : Int) < 0) := by omega
 have ng3 : ¬ (((k + 2 * n1 + 2 * n2 + 3 * n3 + n4 : Nat) : Int) < 0) := by omega
 unfold eoC at hA hbA ⊢
 unfold enC at C1
 dsimp only at hA hbA C1 ⊢
 have HA := hide (And.intro hA hbA)
 clear hA hbA h1 h2 h3 h4
 generalize k + 2 * n1 + 2 * n2 = K1 at *
 generalize K1 + 3 * n3 = K2 at *
 generalize K2 + n4 = K3 at *
 go_enter Tryz.func23, Tryz.ntmps23
 go_upto_region 1 with fail
 refine gen_world (fun q => q.heap[w.heap.size]? = some (.cells #[.int .i64 m1, .int .i64 a1, .int .i64 g1, .bool p1, .bool c1, .bool d1, .int .i64 m2, .int .i64 a2, .int .i64 g2, .bool p2, .bool c2, .bool d2, .int .i64 st, .int .i64 tr, .int .i64 du, .int .i64 id, .int .i64 fl, .slice x1 n1 y1, .slice x2 n2 y2, .bool up, .int .i64 i1, .int .i64 i2, .bool i3, .bool i4, .bool i5, .int .i64 o1, .int .i64 o2, .bool o3, .bool o4, .bool o5, .slice x5 n3 y5, .slice x7 n4 y7, .int .i64 cd] 42) ∧ Below w.heap.size w q) (unhide HA) ?_
 clear HA
 rintro q hq
 have rA := range30 hq.1
 have HI := hide hq
 clear hq
 apply wp_region_lit
 refine Great.wpList_readTo rfl (some 5) rfl (.pointer (some ⟨w.heap.size, 0, none⟩)) (by kernel_rfl) ?_
 refine wpList_load_mid rfl 29 (.tmp 5) rfl w.heap.size 0 rfl _ _ rA Tryz.underlying29 rfl infoE ?_
 simp only [Act.put, List.setIfInBounds_toArray, List.set_cons_zero, List.set_cons_succ]
 clear rA
 go_wp2_with fail
 refine (unhide C1 _ (unhide HI).2).mono ?_
 rintro r w1 ⟨rfl, hb1⟩
 have hr1 := (hb1.block w.heap.size (Array.getElem?_eq_some_iff.1 (unhide HI).1).1).trans (unhide HI).1
 have hB1 := (unhide HI).2.trans (hb1.mono (unhide HI).2.size)
 have c30 : w1.cell? ⟨w.heap.size, 30, none⟩ = some (.slice x5 n3 y5) := by rw [cell_of_row _ _ _ _ _ _ hr1]; rfl
 have H1 := hide (And.intro hr1 hB1)
 clear hr1 hB1 hb1 HI C1
 go_wp2_with fail
 refine (unhide C2 _ (unhide H1).2).mono ?_
 rintro r w2 ⟨rfl, hb2⟩
 have hr2 := (hb2.block w.heap.size (Array.getElem?_eq_some_iff.1 (unhide H1).1).1).trans (unhide H1).1
 have hB2 := (unhide H1).2.trans (hb2.mono (unhide H1).2.size)
 have c31 : w2.cell? ⟨w.heap.size, 31, none⟩ = some (.slice x7 n4 y7) := by rw [cell_of_row _ _ _ _ _ _ hr2]; rfl
 have H2 := hide hB2
 clear hr2 hB2 hb2 H1 C2 c30
 go_wp2_with fail
 refine (unhide C3 _ (unhide H2)).mono ?_
 rintro r w3 ⟨rfl, hb3⟩
 have H3 := hide ((unhide H2).trans (hb3.mono (unhide H2).size))
 clear hb3 H2 C3 c31
 go_wp2
 go_ret
 exact ⟨rfl, unhide H3⟩
structure But4 (o1 o2 o3 o4 : Option Nat) (w w' : World) : Prop where
 os : w'.os = w.os
 tape : w'.tape = w.tape
 output : w'.output = w.output
 size : w.heap.size ≤ w'.heap.size
 block : ∀ b, b < w.heap.size → o1 ≠ some b → o2 ≠ some b → o3 ≠ some b → o4 ≠ some b → w'.heap[b]? = w.heap[b]?
theorem HoldsP.keep2 {w w' : World} {v : Value} {F : List Op.Pk} {o1 o2 : Option Nat} (h : HoldsP w v F) (hb : But2 o1 o2 w w') (hd1 : Df (nb F.length v) o1) (hd2 : Df (nb F.length v) o2) : HoldsP w' v F := by
 rcases h with ⟨ad, cp, e, e0⟩ | ⟨g, cp, cur, e, q1, q2⟩
 ·exact Or.inl ⟨ad, cp, e, e0⟩
 ·by_cases hn : F.length = 0
  ·have : F = [] := List.eq_nil_of_length_eq_zero hn
   subst this
   exact Or.inl ⟨_, _, e, rfl⟩
  ·have hg : nb F.length v = some g := by rw [nb_some hn, e]; rfl
   exact Or.inr ⟨g, cp, cur, e, (hb.block g (Array.getElem?_eq_some_iff.1 q1).1 (hd1 g hg) (hd2 g hg)).trans q1, q2⟩
theorem HoldsT.keep2 {w w' : World} {v : Value} {F : List ByteArray} {o1 o2 : Option Nat} (h : HoldsT w v F) (hb : But2 o1 o2 w w') (hd1 : Df (nb F.length v) o1) (hd2 : Df (nb F.length v) o2) : HoldsT w' v F := by
 rcases h with ⟨ad, cp, e, e0⟩ | ⟨g, cp, cur, e, q1, q2⟩
 ·exact Or.inl ⟨ad, cp, e, e0⟩
 ·by_cases hn : F.length = 0
  ·have : F = [] := List.eq_nil_of_length_eq_zero hn
   subst this
   exact Or.inl ⟨_, _, e, rfl⟩
  ·have hg : nb F.length v = some g := by rw [nb_some hn, e]; rfl
   exact Or.inr ⟨g, cp, cur, e, (hb.block g (Array.getElem?_eq_some_iff.1 q1).1 (hd1 g hg) (hd2 g hg)).trans q1, q2⟩
theorem nb_lt {w : World} {v : Value} {F : List Op.Opt} (h : HoldsO w v F) (g : Nat) (hg : nb F.length v = some g) : g < w.heap.size := by
 by_cases hn : F.length = 0
 ·rw [hn, nb_none] at hg; cases hg
 ·rw [nb_some hn] at hg
  exact h.lt (fun e => hn (by rw [e]; rfl)) g hg
theorem nb_ltP {w : World} {v : Value} {F : List Op.Pk} (h : HoldsP w v F) (g : Nat) (hg : nb F.length v = some g) : g < w.heap.size := by
 by_cases hn : F.length = 0
 ·rw [hn, nb_none] at hg; cases hg
 ·rw [nb_some hn] at hg
  exact h.lt (fun e => hn (by rw [e]; rfl)) g hg
set_option maxHeartbeats 4000000 in
set_option maxRecDepth 100000 in
theorem markOutE (e : En) (cd : Int) (x1 x2 x5 x7 : Option Addr) (y1 y2 y5 y7 : Nat) (F1 F2 : List Op.Opt) (S : List Op.Pk) (D : List ByteArray) (n1 n2 n3 n4 : Nat) (l1 : F1.length = n1) (l2 : F2.length = n2) (l3 : S.length = n3) (l4 : D.length = n4) (k : Nat) (w : World) (hk : 0 < k) (hl : k + 2 * n1 + 2 * n2 + 3 * n3 + n4 < 9000000)
  (h1 : HoldsO w (.slice x1 n1 y1) F1) (h2 : HoldsO w (.slice x2 n2 y2) F2) (h3 : HoldsP w (.slice x5 n3 y5) S) (h4 : HoldsT w (.slice x7 n4 y7) D)
  (h12 : Df (nb n1 (.slice x1 n1 y1)) (nb n2 (.slice x2 n2 y2))) (h31 : Df (nb n3 (.slice x5 n3 y5)) (nb n1 (.slice x1 n1 y1))) (h32 : Df (nb n3 (.slice x5 n3 y5)) (nb n2 (.slice x2 n2 y2)))
  (h41 : Df (nb n4 (.slice x7 n4 y7)) (nb n1 (.slice x1 n1 y1))) (h42 : Df (nb n4 (.slice x7 n4 y7)) (nb n2 (.slice x2 n2 y2))) (h43 : Df (nb n4 (.slice x7 n4 y7)) (nb n3 (.slice x5 n3 y5))) :
  Calls Tryz.prog 22 #[.agg (eoC e (.slice x1 n1 y1) (.slice x2 n2 y2) (.slice x5 n3 y5) (.slice x7 n4 y7) cd), .int .i64 k] w fun r w' => r = .returned (.int .i64 ((k + 2 * n1 + 2 * n2 + 3 * n3 + n4 : Nat) : Int)) ∧
   HoldsO w' (.slice x1 n1 y1) (mfd k n1) ∧ HoldsO w' (.slice x2 n2 y2) (mfd (k + 2 * n1) n2) ∧ HoldsP w' (.slice x5 n3 y5) (mpk (k + 2 * n1 + 2 * n2) n3) ∧ HoldsT w' (.slice x7 n4 y7) (mtl (k + 2 * n1 + 2 * n2 + 3 * n3) n4) ∧
   But4 (nb n1 (.slice x1 n1 y1)) (nb n2 (.slice x2 n2 y2)) (nb n3 (.slice x5 n3 y5)) (nb n4 (.slice x7 n4 y7)) w w' := by
 subst l1 l2 l3 l4
 have hd : F1 ≠ [] → F2 ≠ [] → (Value.slice x1 F1.length y1).ownBlock ≠ (Value.slice x2 F2.length y2).ownBlock := by
  intro a b e
  have na : F1.length ≠ 0 := fun h => a (List.eq_nil_of_length_eq_zero h)
  have nc : F2.length ≠ 0 := fun h => b (List.eq_nil_of_length_eq_zero h)
  rcases h1 with ⟨_, _, _, e0⟩ | ⟨g, cp, cur, e1, _⟩
  ·exact a e0
  ·have hg : (Value.slice x1 F1.length y1).ownBlock = some g := by rw [e1]; rfl
   exact h12 g (by rw [nb_some na]; exact hg) (by rw [nb_some nc, ← e]; exact hg)
 have hA := heap_alloc_new w (.cells (eoC e (.slice x1 F1.length y1) (.slice x2 F2.length y2) (.slice x5 S.length y5) (.slice x7 D.length y7) cd) 42)
 have hbA : Below w.heap.size w (w.alloc (.cells (eoC e (.slice x1 F1.length y1) (.slice x2 F2.length y2) (.slice x5 S.length y5) (.slice x7 D.length y7) cd) 42)) := (Below.refl _ _).alloc (Nat.le_refl _) _
 have hsA : (w.alloc (.cells (eoC e (.slice x1 F1.length y1) (.slice x2 F2.length y2) (.slice x5 S.length y5) (.slice x7 D.length y7) cd) 42)).heap.size = w.heap.size + 1 := by simp
 have C1 := hide (markEndE e x1 x2 y1 y2 F1 F2 k (w.alloc (.cells (eoC e (.slice x1 F1.length y1) (.slice x2 F2.length y2) (.slice x5 S.length y5) (.slice x7 D.length y7) cd) 42)) hk (by omega) (h1.below hbA rfl) (h2.below hbA rfl) hd)
 have HK := hide (And.intro (nb_lt h1) (And.intro (nb_lt h2) (And.intro (nb_ltP h3) (And.intro (h3.below hbA rfl) (h4.below hbA rfl)))))
 have HD := hide (And.intro h31 (And.intro h32 (And.intro h41 (And.intro h42 h43))))
 have HA := hide (And.intro hA (And.intro hbA hsA))
 clear hA hbA hsA h1 h2 h3 h4 h12 h31 h32 h41 h42 h43 hd
 obtain ⟨m1, a1, g1, p1, c1, d1, m2, a2, g2, p2, c2, d2, st, tr, du, id, fl, up, i1, i2, i3, i4, i5, o1, o2, o3, o4, o5⟩ := e
 unfold eoC at HA C1 HK ⊢
 unfold enC at C1
 dsimp only at HA C1 HK ⊢
 obtain ⟨n1, hn1⟩ : ∃ n1, F1.length = n1 := ⟨_, rfl⟩
 obtain ⟨n2, hn2⟩ : ∃ n2, F2.length = n2 := ⟨_, rfl⟩
 obtain ⟨n3, hn3⟩ : ∃ n3, S.length = n3 := ⟨_, rfl⟩
 obtain ⟨n4, hn4⟩ : ∃ n4, D.length = n4 := ⟨_, rfl⟩
 rw [hn1, hn2, hn3, hn4] at HA C1 HK HD hl ⊢
 go_enter Tryz.func22, Tryz.ntmps22
 go_upto_region 1 with fail
 have rA := range30 (unhide HA).1
 apply wp_region_lit
 refine Great.wpList_readTo rfl (some 5) rfl (.pointer (some ⟨w.heap.size, 0, none⟩)) (by kernel_rfl) ?_
 refine wpList_load_mid rfl 29 (.tmp 5) rfl w.heap.size 0 rfl _ _ rA Tryz.underlying29 rfl infoE ?_
 simp only [Act.put, List.setIfInBounds_toArray, List.set_cons_zero, List.set_cons_succ]
 clear rA
 go_wp2_with fail
 refine (unhide C1).mono ?_
 rintro r w1 ⟨rfl, G1, G2, b12⟩
 obtain ⟨lt1, lt2, lt3, hp0, ht0⟩ := unhide HK
 obtain ⟨h31, h32, h41, h42, h43⟩ := unhide HD
 have hr1 : w1.heap[w.heap.size]? = some (.cells #[.int .i64 m1, .int .i64 a1, .int .i64 g1, .bool p1, .bool c1, .bool d1, .int .i64 m2, .int .i64 a2, .int .i64 g2, .bool p2, .bool c2, .bool d2, .int .i64 st, .int .i64 tr, .int .i64 du, .int .i64 id, .int .i64 fl, .slice x1 n1 y1, .slice x2 n2 y2, .bool up, .int .i64 i1, .int .i64 i2, .bool i3, .bool i4, .bool i5, .int .i64 o1, .int .i64 o2, .bool o3, .bool o4, .bool o5, .slice x5 n3 y5, .slice x7 n4 y7, .int .i64 cd] 42) := (b12.block w.heap.size (by rw [(unhide HA).2.2]; omega) (fun e => by have := lt1 _ e; omega) (fun e => by have := lt2 _ e; omega)).trans (unhide HA).1
 have hp1 := hp0.keep2 b12 (by rw [hn3]; exact h31) (by rw [hn3]; exact h32)
 have ht1 := ht0.keep2 b12 (by rw [hn4]; exact h41) (by rw [hn4]; exact h42)
 have C2 := hide (markPkK _ S (k + 2 * n1 + 2 * n2) w1 (by omega) (by omega) hp1)
 rw [hn3] at C2
 have c30 : w1.cell? ⟨w.heap.size, 30, none⟩ = some (.slice x5 n3 y5) := by rw [cell_of_row _ _ _ _ _ _ hr1]; rfl
 have hz1 := b12.size
 rw [(unhide HA).2.2] at hz1
 have H1 := hide (And.intro G1 (And.intro G2 (And.intro b12 (And.intro hr1 (And.intro ht1 hz1)))))
 clear G1 G2 b12 hr1 hp1 ht1 hp0 ht0 lt1 lt2 lt3 h31 h32 h41 h42 h43 C1 hz1
 go_wp2_with fail
 refine (unhide C2).mono ?_
 rintro r w2 ⟨rfl, G3, b3', s3⟩
 obtain ⟨lt1, lt2, lt3, hp0, ht0⟩ := unhide HK
 obtain ⟨h31, h32, h41, h42, h43⟩ := unhide HD
 obtain ⟨G1, G2, b12, hr1, ht1, hz1⟩ := unhide H1
 have b3 : But (nb n3 (.slice x5 n3 y5)) w1 w2 := b3'.nb fun h0 => (s3 (List.eq_nil_of_length_eq_zero (hn3.trans h0))) ▸ Below.refl _ _
 have hr2 := (b3.block w.heap.size (by omega) (fun e => by have := lt3 _ e; omega)).trans hr1
 have q1 := G1.keep b3 (by rw [mfd_len]; exact h31.symm)
 have q2 := G2.keep b3 (by rw [mfd_len]; exact h32.symm)
 have ht2 := ht1.keep b3 (by rw [hn4]; exact h43)
 have C3 := hide (markTF _ D (k + 2 * n1 + 2 * n2 + 3 * n3) w2 (by omega) (by omega) ht2)
 rw [hn4] at C3
 have c31 : w2.cell? ⟨w.heap.size, 31, none⟩ = some (.slice x7 n4 y7) := by rw [cell_of_row _ _ _ _ _ _ hr2]; rfl
 have H2 := hide (And.intro q1 (And.intro q2 (And.intro G3 b3)))
 clear G1 G2 G3 b12 hr1 hr2 ht1 ht2 hp0 ht0 lt1 lt2 lt3 h31 h32 h41 h42 h43 C2 hz1 b3 b3' s3 q1 q2 c30
 go_wp2_with fail
 refine (unhide C3).mono ?_
 rintro r w3 ⟨rfl, G4, b4', s4⟩
 have H3 := hide (And.intro G4 (b4'.nb fun h0 => s4 (List.eq_nil_of_length_eq_zero (hn4.trans h0))))
 clear G4 b4' s4 C3 c31
 go_wp2
 go_ret
 obtain ⟨h31, h32, h41, h42, h43⟩ := unhide HD
 obtain ⟨_, _, b12, _, _, hz1⟩ := unhide H1
 obtain ⟨q1, q2, G3, b3⟩ := unhide H2
 obtain ⟨G4, b4⟩ := unhide H3
 have hz3 := b3.size
 refine ⟨rfl, q1.keep b4 (by rw [mfd_len]; exact h41.symm), q2.keep b4 (by rw [mfd_len]; exact h42.symm), G3.keep b4 (by rw [mpk_len]; exact h43.symm), G4, ⟨(b4.os.trans b3.os).trans b12.os, (b4.tape.trans b3.tape).trans b12.tape, (b4.output.trans b3.output).trans b12.output, by have := b4.size; omega, fun b hb e1 e2 e3 e4 => ?_⟩⟩
 exact (((b4.block b (by omega) e4).trans (b3.block b (by omega) e3)).trans (b12.block b (by rw [(unhide HA).2.2]; omega) e1 e2)).trans (Below.heap_alloc _ _ _ hb)
set_option maxHeartbeats 2000000 in
theorem szOsM (v : Value) (F : List Op.Opt) (k : Nat) (w : World) (hk : k ≤ 1048576) (hn : F.length ≤ maxLen) (h : ArgO w v F) :
  Calls Tryz.prog 50 #[v, .int .i64 k] w fun e w' => ∃ z : Int, e = .returned (.int .i64 z) ∧ (z = -1 ∨ (F.length ≤ 1048576 ∧ ∃ m : Nat, z = (m : Int) ∧ m ≤ 1048576)) ∧ Below w.heap.size w w' := by
 unfold maxLen at hn
 obtain ⟨va, vc, rfl⟩ := h.1
 have HA := hide h
 clear h
 obtain ⟨n, hnn⟩ : ∃ n, F.length = n := ⟨_, rfl⟩
 rw [hnn] at hn ⊢
 by_cases h1 : n ≤ k
 ·have d1 : ¬ ((k : Int) - (n : Int) < 0) := by omega
  go_enter Tryz.func50, Tryz.ntmps50
  go_wp2_with fail
  have hst : (k : Int) - (n : Int) = ((k - n : Nat) : Int) := by omega
  have HST := hide hst
  clear hst
  go_loopw [1, 5] (fun x y wr => ∃ (m i : Nat), m ≤ 1048576 ∧ i ≤ n ∧ x = .int .i64 m ∧ y = .int .i64 i ∧ Below w.heap.size w wr) (fun _ y _ => n - (intOf y).toNat)
  case atStart => exact ⟨k - n, 0, by omega, Nat.zero_le _, by rw [unhide HST], rfl, Below.refl _ _⟩
  case round =>
   obtain ⟨m, i, hm, hi, rfl, rfl, hb⟩ := hrel
   have hbs := hb.size
   by_cases hlt : i < n
   ·have e1 : (i : Int) < (n : Int) := by omega
    obtain ⟨b, o, cap, hvf, hbl, k0, k1, hsz⟩ := (unhide HA).2 i (by omega)
    have hvf' : va = some ⟨b, o, none⟩ := by
     simp only [Value.slice.injEq] at hvf
     exact hvf.1
    subst hvf'
    generalize hO : F[i]'(by omega) = op at *
    obtain ⟨kd, dt⟩ := op
    dsimp only at k0 k1 hsz
    have c0 := (hb.cell (p := ⟨b, o + i * 2, none⟩) hbl).trans k0
    have c1 := (hb.cell (p := ⟨b, o + i * 2 + 1, none⟩) hbl).trans k1
    have C := hide fun v => szO kd dt m v hsz hm
    clear k0 k1 hvf hO HST
    by_cases hd : dt.size ≤ m
    ·rw [if_pos hd] at C
     have e2 : ¬ (((m - dt.size : Nat) : Int) < 0) := by omega
     go_wp2_with fail
     refine (unhide C _).mono ?_
     rintro e w2 ⟨rfl, hb2⟩
     go_wp2
     go_roundw
     case rel => exact ⟨m - dt.size, i + 1, by omega, by omega, rfl, by go_num, hb.trans (hb2.mono hbs)⟩
     case measure => simp [intOf]; omega
    ·rw [if_neg hd] at C
     have e2 : (-1 : Int) < 0 := by decide
     go_wp2_with fail
     refine (unhide C _).mono ?_
     rintro e w2 ⟨rfl, hb2⟩
     go_wp2
     go_ret
     exact ⟨-1, rfl, Or.inl rfl, hb.trans (hb2.mono hbs)⟩
   ·have e1 : ¬ ((i : Int) < (n : Int)) := by omega
    go_wp2
    go_ret
    exact ⟨_, rfl, Or.inr ⟨by omega, m, rfl, hm⟩, hb⟩
 ·have d1 : (k : Int) - (n : Int) < 0 := by omega
  go_enter Tryz.func50, Tryz.ntmps50
  go_wp2
  go_ret
  exact ⟨-1, rfl, Or.inl rfl, Below.refl _ _⟩
set_option maxHeartbeats 2000000 in
set_option maxRecDepth 100000 in
theorem szEndE (e : En) (x1 x2 : Option Addr) (y1 y2 : Nat) (F1 F2 : List Op.Opt) (w : World) (l1 : F1.length ≤ maxLen) (l2 : F2.length ≤ maxLen)
  (h1 : ArgO w (.slice x1 F1.length y1) F1) (h2 : ArgO w (.slice x2 F2.length y2) F2) :
  Calls Tryz.prog 15 #[.agg (enC e (.slice x1 F1.length y1) (.slice x2 F2.length y2)), .int .i64 1048576] w fun r w' => ∃ z : Int, r = .returned (.int .i64 z) ∧ (z = -1 ∨ (F1.length ≤ 1048576 ∧ F2.length ≤ 1048576 ∧ ∃ m : Nat, z = (m : Int) ∧ m ≤ 1048576)) ∧ Below w.heap.size w w' := by
 obtain ⟨m1, a1, g1, p1, c1, d1, m2, a2, g2, p2, c2, d2, st, tr, du, id, fl, up, i1, i2, i3, i4, i5, o1, o2, o3, o4, o5⟩ := e
 have hA := heap_alloc_new w (.cells (enC ⟨m1, a1, g1, p1, c1, d1, m2, a2, g2, p2, c2, d2, st, tr, du, id, fl, up, i1, i2, i3, i4, i5, o1, o2, o3, o4, o5⟩ (.slice x1 F1.length y1) (.slice x2 F2.length y2)) 51)
 have hbA : Below w.heap.size w (w.alloc (.cells (enC ⟨m1, a1, g1, p1, c1, d1, m2, a2, g2, p2, c2, d2, st, tr, du, id, fl, up, i1, i2, i3, i4, i5, o1, o2, o3, o4, o5⟩ (.slice x1 F1.length y1) (.slice x2 F2.length y2)) 51)) := (Below.refl _ _).alloc (Nat.le_refl _) _
 have C1 := hide fun W (hb : Below w.heap.size w W) => szOsM _ F1 1048576 W (Nat.le_refl _) l1 (h1.below hb)
 have C2 := hide fun (k : Nat) (hk : k ≤ 1048576) W (hb : Below w.heap.size w W) => szOsM _ F2 k W hk l2 (h2.below hb)
 unfold enC at hA hbA ⊢
 dsimp only at hA hbA ⊢
 have HA := hide (And.intro hA hbA)
 clear hA hbA h1 h2 l1 l2
 generalize F1.length = n1 at *
 generalize F2.length = n2 at *
 go_enter Tryz.func15, Tryz.ntmps15
 go_wp2_with fail
 refine (unhide C1 _ (unhide HA).2).mono ?_
 rintro r w1 ⟨z, rfl, hz, hb1⟩
 have hr1 := (hb1.block w.heap.size (by simp)).trans (unhide HA).1
 have hB1 := (unhide HA).2.trans (hb1.mono (unhide HA).2.size)
 have c18 : w1.cell? ⟨w.heap.size, 18, none⟩ = some (.slice x2 n2 y2) := by rw [cell_of_row _ _ _ _ _ _ hr1]; rfl
 have H1 := hide hB1
 clear hr1 hB1 hb1 HA C1
 rcases hz with rfl | ⟨hz1, k, rfl, hk⟩
 ·have e1 : (-1 : Int) < 0 := by decide
  go_wp2
  go_ret
  exact ⟨-1, rfl, Or.inl rfl, unhide H1⟩
 ·have e1 : ¬ ((k : Int) < 0) := by omega
  go_wp2_with fail
  refine (unhide C2 k hk _ (unhide H1)).mono ?_
  rintro r w2 ⟨z, rfl, hz, hb2⟩
  have H2 := hide ((unhide H1).trans (hb2.mono (unhide H1).size))
  clear hb2 H1 C2 c18 e1
  rcases hz with rfl | ⟨hz2, k2, rfl, hk2⟩
  ·have e1 : (-1 : Int) < 0 := by decide
   go_wp2
   go_ret
   exact ⟨-1, rfl, Or.inl rfl, unhide H2⟩
  ·have e1 : ¬ ((k2 : Int) < 0) := by omega
   go_wp2
   go_ret
   exact ⟨_, rfl, Or.inr ⟨hz1, hz2, k2, rfl, hk2⟩, unhide H2⟩
structure Rg (lo hi : Nat) (w w' : World) : Prop where
 os : w'.os = w.os
 tape : w'.tape = w.tape
 output : w'.output = w.output
 size : w.heap.size ≤ w'.heap.size
 block : ∀ b, b < w.heap.size → ¬ (lo ≤ b ∧ b < hi) → w'.heap[b]? = w.heap[b]?
theorem Rg.below {lo hi n : Nat} {w0 w w' : World} (h : Rg lo hi w w') (hb : Below n w0 w) (hn : n ≤ lo) (h0 : n ≤ w0.heap.size) : Below n w0 w' :=
 ⟨h.os.trans hb.os, h.tape.trans hb.tape, h.output.trans hb.output, Nat.le_trans hb.size h.size, fun b hlt => (h.block b (Nat.lt_of_lt_of_le hlt (Nat.le_trans h0 hb.size)) (fun e => by omega)).trans (hb.block b hlt)⟩
def InR (lo hi : Nat) (n : Nat) (v : Value) : Prop := ∀ g, nb n v = some g → lo ≤ g ∧ g < hi
structure Four (lo hi n1 n2 n3 n4 : Nat) (v1 v2 vs vt : Value) : Prop where
 r1 : InR lo hi n1 v1
 r2 : InR lo hi n2 v2
 r3 : InR lo hi n3 vs
 r4 : InR lo hi n4 vt
 d12 : Df (nb n1 v1) (nb n2 v2)
 d31 : Df (nb n3 vs) (nb n1 v1)
 d32 : Df (nb n3 vs) (nb n2 v2)
 d41 : Df (nb n4 vt) (nb n1 v1)
 d42 : Df (nb n4 vt) (nb n2 v2)
 d43 : Df (nb n4 vt) (nb n3 vs)
def AnD (o : EO) (lo hi : Nat) (cs : Array Value) (q : World) : Prop :=
 ∃ x1 x2 x5 x7 y1 y2 y5 y7, cs = eoC o.e (.slice x1 o.F1.length y1) (.slice x2 o.F2.length y2) (.slice x5 o.sn.length y5) (.slice x7 o.tl.length y7) o.cd ∧ HoldsO q (.slice x1 o.F1.length y1) o.F1 ∧ HoldsO q (.slice x2 o.F2.length y2) o.F2 ∧ HoldsP q (.slice x5 o.sn.length y5) o.sn ∧ HoldsT q (.slice x7 o.tl.length y7) o.tl ∧
  Four lo hi o.F1.length o.F2.length o.sn.length o.tl.length (.slice x1 o.F1.length y1) (.slice x2 o.F2.length y2) (.slice x5 o.sn.length y5) (.slice x7 o.tl.length y7)
def MkD (o : EO) (cs : Array Value) (q : World) : Prop :=
 ∃ x1 x2 x5 x7 y1 y2 y5 y7, cs = eoC o.e (.slice x1 o.F1.length y1) (.slice x2 o.F2.length y2) (.slice x5 o.sn.length y5) (.slice x7 o.tl.length y7) o.cd ∧ HoldsO q (.slice x1 o.F1.length y1) (mfd 1 o.F1.length) ∧ HoldsO q (.slice x2 o.F2.length y2) (mfd (1 + 2 * o.F1.length) o.F2.length) ∧ HoldsP q (.slice x5 o.sn.length y5) (mpk (1 + 2 * o.F1.length + 2 * o.F2.length) o.sn.length) ∧ HoldsT q (.slice x7 o.tl.length y7) (mtl (1 + 2 * o.F1.length + 2 * o.F2.length + 3 * o.sn.length) o.tl.length)
structure EoB (o : EO) : Prop where
 l1 : o.F1.length ≤ 100000
 l2 : o.F2.length ≤ 100000
 l3 : o.sn.length ≤ 100000
 l4 : o.tl.length ≤ 100000
theorem nb_own {n : Nat} {v : Value} {g : Nat} (h : nb n v = some g) : v.ownBlock = some g := by
 unfold nb at h
 split at h
 ·cases h
 ·exact h
theorem Df.ap {n n' : Nat} {v v' : Value} (h : Ap v v') : Df (nb n v) (nb n' v') := fun g h1 h2 => h g (nb_own h1) (nb_own h2)
theorem AnD.of {w q : World} {o : EO} {cs : Array Value} (h : EvA w o (.returned (.agg cs)) q) : AnD o w.heap.size q.heap.size cs q ∧ Below w.heap.size w q ∧ cs.size = 33 ∧ cs.all (·.oneCell') = true := by
 obtain ⟨v1, v2, vs, vt, e, o1, o2, os, ot, ap, lo⟩ := h
 have e' : cs = eoC o.e v1 v2 vs vt o.cd := by injection e with e; injection e
 obtain ⟨a1, p1, e1⟩ := own_form o1
 obtain ⟨a2, p2, e2⟩ := own_form o2
 obtain ⟨a3, p3, e3⟩ := own_form os
 obtain ⟨a4, p4, e4⟩ := own_form ot
 subst e1 e2 e3 e4 e'
 refine ⟨⟨a1, a2, a3, a4, p1, p2, p3, p4, rfl, HoldsO.own o1, HoldsO.own o2, HoldsP.own os, HoldsT.own ot, ?_⟩, lo, rfl, eoC_all _ _ _ _ _ _ _ _ _ _ _ _ _ _⟩
 exact ⟨fun g hg => o1.lt g (nb_own hg), fun g hg => o2.lt g (nb_own hg), fun g hg => os.lt g (nb_own hg), fun g hg => ot.lt g (nb_own hg), Df.ap ap, Df.ap (own_ap os o1 (by decide)), Df.ap (own_ap os o2 (by decide)), Df.ap (own_ap ot o1 (by decide)), Df.ap (own_ap ot o2 (by decide)), Df.ap (own_ap ot os (by decide))⟩
theorem AnD.step {o : EO} {lo hi : Nat} {cs : Array Value} {q q' : World} (h : AnD o lo hi cs q) (hb : Below q.heap.size q q') : AnD o lo hi cs q' := by
 obtain ⟨x1, x2, x5, x7, y1, y2, y5, y7, e, h1, h2, h3, h4, f⟩ := h
 exact ⟨x1, x2, x5, x7, y1, y2, y5, y7, e, h1.below hb rfl, h2.below hb rfl, h3.below hb rfl, h4.below hb rfl, f⟩
theorem MkD.step {o : EO} {cs : Array Value} {q q' : World} (h : MkD o cs q) (hb : Below q.heap.size q q') : MkD o cs q' := by
 obtain ⟨x1, x2, x5, x7, y1, y2, y5, y7, e, h1, h2, h3, h4⟩ := h
 exact ⟨x1, x2, x5, x7, y1, y2, y5, y7, e, h1.below hb rfl, h2.below hb rfl, h3.below hb rfl, h4.below hb rfl⟩
theorem HoldsO.rg {w w' : World} {v : Value} {F : List Op.Opt} {lo hi a b : Nat} (h : HoldsO w v F) (hr : Rg lo hi w w') (hi' : InR a b F.length v) (hd : b ≤ lo ∨ hi ≤ a) : HoldsO w' v F := by
 rcases h with ⟨ad, cp, e, e0⟩ | ⟨g, cp, cur, e, q1, q2⟩
 ·exact Or.inl ⟨ad, cp, e, e0⟩
 ·by_cases hz : F.length = 0
  ·have : F = [] := List.eq_nil_of_length_eq_zero hz
   subst this
   exact Or.inl ⟨_, _, e, rfl⟩
  ·have hg := hi' g (by rw [nb_some hz, e]; rfl)
   exact Or.inr ⟨g, cp, cur, e, (hr.block g (Array.getElem?_eq_some_iff.1 q1).1 (fun e => by omega)).trans q1, q2⟩
theorem HoldsP.rg {w w' : World} {v : Value} {F : List Op.Pk} {lo hi a b : Nat} (h : HoldsP w v F) (hr : Rg lo hi w w') (hi' : InR a b F.length v) (hd : b ≤ lo ∨ hi ≤ a) : HoldsP w' v F := by
 rcases h with ⟨ad, cp, e, e0⟩ | ⟨g, cp, cur, e, q1, q2⟩
 ·exact Or.inl ⟨ad, cp, e, e0⟩
 ·by_cases hz : F.length = 0
  ·have : F = [] := List.eq_nil_of_length_eq_zero hz
   subst this
   exact Or.inl ⟨_, _, e, rfl⟩
  ·have hg := hi' g (by rw [nb_some hz, e]; rfl)
   exact Or.inr ⟨g, cp, cur, e, (hr.block g (Array.getElem?_eq_some_iff.1 q1).1 (fun e => by omega)).trans q1, q2⟩
theorem HoldsT.rg {w w' : World} {v : Value} {F : List ByteArray} {lo hi a b : Nat} (h : HoldsT w v F) (hr : Rg lo hi w w') (hi' : InR a b F.length v) (hd : b ≤ lo ∨ hi ≤ a) : HoldsT w' v F := by
 rcases h with ⟨ad, cp, e, e0⟩ | ⟨g, cp, cur, e, q1, q2⟩
 ·exact Or.inl ⟨ad, cp, e, e0⟩
 ·by_cases hz : F.length = 0
  ·have : F = [] := List.eq_nil_of_length_eq_zero hz
   subst this
   exact Or.inl ⟨_, _, e, rfl⟩
  ·have hg := hi' g (by rw [nb_some hz, e]; rfl)
   exact Or.inr ⟨g, cp, cur, e, (hr.block g (Array.getElem?_eq_some_iff.1 q1).1 (fun e => by omega)).trans q1, q2⟩
theorem AnD.rg {o : EO} {lo hi a b : Nat} {cs : Array Value} {q q' : World} (h : AnD o a b cs q) (hr : Rg lo hi q q') (hd : b ≤ lo ∨ hi ≤ a) : AnD o a b cs q' := by
 obtain ⟨x1, x2, x5, x7, y1, y2, y5, y7, e, h1, h2, h3, h4, f⟩ := h
 exact ⟨x1, x2, x5, x7, y1, y2, y5, y7, e, h1.rg hr f.r1 hd, h2.rg hr f.r2 hd, h3.rg hr f.r3 hd, h4.rg hr f.r4 hd, f⟩
theorem eqD {o : EO} (hB : EoB o) {a b c d : Nat} {cs ds : Array Value} {W : World} (h : AnD o a b cs W) (k : AnD o c d ds W) : Calls Tryz.prog 19 #[.agg cs, .agg ds] W fun r w' => r = .returned (.bool true) ∧ Below W.heap.size W w' := by
 obtain ⟨x1, x2, x5, x7, y1, y2, y5, y7, rfl, h1, h2, h3, h4, _⟩ := h
 obtain ⟨x3, x4, x6, x8, y3, y4, y6, y8, rfl, k1, k2, k3, k4, _⟩ := k
 have := hB.l1
 have := hB.l2
 have := hB.l3
 have := hB.l4
 exact eqOutE o.e o.cd x1 x2 x3 x4 x5 x6 x7 x8 y1 y2 y3 y4 y5 y6 y7 y8 o.F1 o.F2 o.sn o.tl W (by omega) (by omega) (by omega) (by omega) h1 h2 k1 k2 h3 k3 h4 k4
theorem markD {o : EO} (hB : EoB o) {a b : Nat} {cs : Array Value} {W : World} (h : AnD o a b cs W) : Calls Tryz.prog 22 #[.agg cs, .int .i64 1] W fun r w' => r = .returned (.int .i64 ((1 + 2 * o.F1.length + 2 * o.F2.length + 3 * o.sn.length + o.tl.length : Nat) : Int)) ∧ MkD o cs w' ∧ Rg a b W w' := by
 obtain ⟨x1, x2, x5, x7, y1, y2, y5, y7, rfl, h1, h2, h3, h4, f⟩ := h
 have := hB.l1
 have := hB.l2
 have := hB.l3
 have := hB.l4
 refine (markOutE o.e o.cd x1 x2 x5 x7 y1 y2 y5 y7 o.F1 o.F2 o.sn o.tl _ _ _ _ rfl rfl rfl rfl 1 W (by decide) (by omega) h1 h2 h3 h4 f.d12 f.d31 f.d32 f.d41 f.d42 f.d43).mono ?_
 rintro r w' ⟨hr, k1, k2, k3, k4, hb⟩
 refine ⟨hr, ⟨x1, x2, x5, x7, y1, y2, y5, y7, rfl, k1, k2, k3, k4⟩, ⟨hb.os, hb.tape, hb.output, hb.size, fun g hg hn => hb.block g hg (fun e => hn (f.r1 g e)) (fun e => hn (f.r2 g e)) (fun e => hn (f.r3 g e)) (fun e => hn (f.r4 g e))⟩⟩
theorem heldD {o : EO} (hB : EoB o) {cs : Array Value} {W : World} (h : MkD o cs W) : Calls Tryz.prog 23 #[.agg cs, .int .i64 1] W fun r w' => r = .returned (.int .i64 ((1 + 2 * o.F1.length + 2 * o.F2.length + 3 * o.sn.length + o.tl.length : Nat) : Int)) ∧ Below W.heap.size W w' := by
 obtain ⟨x1, x2, x5, x7, y1, y2, y5, y7, rfl, h1, h2, h3, h4⟩ := h
 have := hB.l1
 have := hB.l2
 have := hB.l3
 have := hB.l4
 exact heldOutE o.e o.cd x1 x2 x5 x7 _ _ _ _ y1 y2 y5 y7 1 W (by decide) (by omega) h1 h2 h3 h4
def ToX (e : En) (F1 F2 : List Op.Opt) (lo hi : Nat) (cl : List Value) (q : World) : Prop :=
 ∃ u1 z1 u2 z2, cl = (enC e (.slice u1 F1.length z1) (.slice u2 F2.length z2)).toList ∧ HoldsO q (.slice u1 F1.length z1) F1 ∧ HoldsO q (.slice u2 F2.length z2) F2 ∧ InR lo hi F1.length (.slice u1 F1.length z1) ∧ InR lo hi F2.length (.slice u2 F2.length z2) ∧ (F1 ≠ [] → F2 ≠ [] → (Value.slice u1 F1.length z1).ownBlock ≠ (Value.slice u2 F2.length z2).ownBlock)
theorem ToX.step {e : En} {F1 F2 : List Op.Opt} {lo hi : Nat} {cl : List Value} {q q' : World} (h : ToX e F1 F2 lo hi cl q) (hb : Below q.heap.size q q') : ToX e F1 F2 lo hi cl q' := by
 obtain ⟨u1, z1, u2, z2, h1, h2, h3, f⟩ := h
 exact ⟨u1, z1, u2, z2, h1, h2.below hb rfl, h3.below hb rfl, f⟩
theorem ToX.len {e : En} {F1 F2 : List Op.Opt} {lo hi : Nat} {cl : List Value} {q : World} (h : ToX e F1 F2 lo hi cl q) : cl.length = 30 := by
 obtain ⟨u1, z1, u2, z2, h1, _⟩ := h
 rw [h1]
 rfl
theorem ToX.one {e : En} {F1 F2 : List Op.Opt} {lo hi : Nat} {cl : List Value} {q : World} (h : ToX e F1 F2 lo hi cl q) : cl.toArray.all (·.oneCell') = true := by
 obtain ⟨u1, z1, u2, z2, h1, _⟩ := h
 rw [h1]
 kernel_rfl
theorem toX (e : En) (x1 x2 : Option Addr) (y1 y2 : Nat) (F1 F2 : List Op.Opt) (w : World) (l1 : F1.length ≤ 1048576) (l2 : F2.length ≤ 1048576) (h1 : ArgO w (.slice x1 F1.length y1) F1) (h2 : ArgO w (.slice x2 F2.length y2) F2) :
  Calls Tryz.prog 17 #[.agg (enC e (.slice x1 F1.length y1) (.slice x2 F2.length y2))] w fun r w' => ∃ cl : List Value, r = .returned (.agg cl.toArray) ∧ ToX e F1 F2 w.heap.size w'.heap.size cl w' ∧ Below w.heap.size w w' := by
 refine (toEnd e x1 x2 y1 y2 F1 F2 w l1 l2 h1 h2).mono ?_
 rintro r w' ⟨u1, z1, u2, z2, hr, k1, k2, r1, r2, hb⟩
 refine ⟨_, hr, ⟨u1, z1, u2, z2, rfl, k1, k2, fun g hg => ⟨r1 g (nb_own hg), nb_lt k1 g hg⟩, fun g hg => ⟨(r2 g (nb_own hg)).1, nb_lt k2 g hg⟩, fun f1 f2 e => ?_⟩, hb⟩
 cases hq : (Value.slice u2 F2.length z2).ownBlock with
 | none =>
  rcases k2 with ⟨_, _, _, e0⟩ | ⟨g, cp, cur, ev, _⟩
  ·exact f2 e0
  ·rw [ev] at hq; cases hq
 | some g =>
  rw [hq] at e
  exact (r2 g hq).2.resolve_left f1 e
theorem eqX {e : En} {F1 F2 : List Op.Opt} (l1 : F1.length ≤ 1048576) (l2 : F2.length ≤ 1048576) {a b c d : Nat} {cl cm : List Value} {W : World} (h : ToX e F1 F2 a b cl W) (k : ToX e F1 F2 c d cm W) : Calls Tryz.prog 20 #[.agg cl.toArray, .agg cm.toArray] W fun r w' => r = .returned (.bool true) ∧ Below W.heap.size W w' := by
 obtain ⟨u1, z1, u2, z2, rfl, h1, h2, _⟩ := h
 obtain ⟨u3, z3, u4, z4, rfl, k1, k2, _⟩ := k
 exact eqEndE e u1 u2 u3 u4 z1 z2 z3 z4 F1 F2 W (by omega) (by omega) h1 h2 k1 k2
theorem markX {e : En} {F1 F2 : List Op.Opt} (l1 : F1.length ≤ 1048576) (l2 : F2.length ≤ 1048576) {a b : Nat} {cl : List Value} {W : World} (h : ToX e F1 F2 a b cl W) : Calls Tryz.prog 21 #[.agg cl.toArray, .int .i64 1] W fun r w' => (∃ k : Nat, r = .returned (.int .i64 (k : Int))) ∧ Rg a b W w' := by
 obtain ⟨u1, z1, u2, z2, rfl, h1, h2, r1, r2, hd⟩ := h
 refine (markEndE e u1 u2 z1 z2 F1 F2 1 W (by decide) (by omega) h1 h2 hd).mono ?_
 rintro r w' ⟨hr, _, _, hb⟩
 exact ⟨⟨_, hr⟩, hb.os, hb.tape, hb.output, hb.size, fun g hg hn => hb.block g hg (fun e => hn (r1 g e)) (fun e => hn (r2 g e))⟩
end Go.Proofs.YtahpjlbaagkdoaaGreatDoor
namespace Go.Proofs.YtahpjlbaagkdoaaGreatDoor
open Go.RowKit
theorem infoLE : (Tryz.prog.info? 51).map (·.size) = some 30 := by kernel_rfl
theorem rangeRow {W : World} {E : Nat} {cl : List Value} {T : TypeId} (h : W.heap[E]? = some (.cells cl.toArray T)) : W.rangeAt E 0 cl := by
 intro j u hu
 rw [cell_of_row _ _ _ _ _ _ h, Nat.zero_add, List.getElem?_toArray]
 exact hu
theorem load_rowG {ops : Array Oper} {rest : List Oper} {o : Oper} {a : Act} {w : World} {Q : Exit → Act → World → Prop} (hw : Region.wanted o (yielded ops a.tmps) = true) (v : Value) (hrun : ∀ K : Act → World → Prop, K (a.put o.dst v) w → Oper.wp Tryz.prog o a w K Q)
  (h : wpList Tryz.prog ops Q rest (a.put o.dst v) w) : wpList Tryz.prog ops Q (o :: rest) a w :=
 wpList_step fun K hK => by rw [if_pos hw]; exact hrun K (hK _ _ h)
theorem setRow_size (w : World) (g : Nat) (cs : Array Value) : (w.setRow g cs).heap.size = w.heap.size := by
 unfold World.setRow
 simp
theorem size_put (w : World) (o : Obj) (g : Nat) (cs : Array Value) : ((w.alloc o).setRow g cs).heap.size = w.heap.size + 1 := by
 rw [setRow_size]
 simp
theorem eoErr_len (k : Int) : EoB (eoErr k) := ⟨Nat.zero_le _, Nat.zero_le _, Nat.zero_le _, Nat.zero_le _⟩
theorem evF_len {c : Cx} {s : St} {t : ByteArray} (hf : Fit 0 c s) (hl : (fsmF s.e.st t).2.1.length ≤ 30) : EoB (evF c s t) := by
 unfold evF
 generalize fsmF s.e.st t = R at *
 obtain ⟨st, A, cd⟩ := R
 dsimp only at hl ⊢
 split
 ·have h := hf.fold A A.length
  rw [List.take_length] at h
  have l20 : ∀ F, opOk F = true → F.length ≤ 100000 := fun F hF => by
   have := opOk_right hF
   unfold Op.right at this
   rw [Bool.and_eq_true] at this
   have := of_decide_eq_true this.1
   omega
  exact ⟨l20 _ h.f1, l20 _ h.f2, Nat.le_trans h.sn (by omega), Nat.le_trans h.tl (by omega)⟩
 ·exact eoErr_len _
theorem hearF_len (e : En) (F1 F2 : List Op.Opt) (p : Op.Pk) (now : Int) : EoB (hearF e F1 F2 p now) := by
 unfold hearF
 split
 ·rename_i h
  obtain ⟨hf, hs, _⟩ := fit0 h.1
  have hd : p.data.size ≤ 250 := by
   have := h.2
   unfold Op.pok at this
   exact (of_decide_eq_true this).2.2.2.2
  have hf2 : Fit 0 (cxP now p [] (0, []) nilS nilS) ⟨e, F1, F2, [], []⟩ := hf.came p h.2 rfl rfl _ _
  have key : ∀ k, k < 16 → k ≠ 6 → k ≠ 7 → EoB (evF (cxP now p [] (0, []) nilS nilS) ⟨e, F1, F2, [], []⟩ (evT k)) := fun k hk h6 h7 => evF_len hf2 (fsmAll (c := cxP now p [] (0, []) nilS nilS) (evT_at hk) hs.1 hs.2 (fun h => absurd h h6) (fun h => absurd h h7)).2
  split
  ·exact eoErr_len _
  unfold hearP
  split
  ·split
   ·have hfx := hf.came p h.2 (oread_ok hd) (ansF_ok e (oread_ok hd)) nilS nilS
    by_cases ha : (ansF e (oread p.data).1).1 = 2
    ·rw [if_pos ha]
     exact evF_len hfx (fsmAll (i := 6) (c := cxP now p (oread p.data).1 (ansF e (oread p.data).1) nilS nilS) (evT_at (by decide)) hs.1 hs.2 (fun _ => ha) (fun h => absurd h (by decide))).2
    ·rw [if_neg ha]
     exact evF_len hfx (fsmAll (i := 7) (c := cxP now p (oread p.data).1 (ansF e (oread p.data).1) nilS nilS) (evT_at (by decide)) hs.1 hs.2 (fun h => absurd h (by decide)) (fun _ => ha)).2
   ·exact eoErr_len _
  split
  ·split
   ·exact key 8 (by decide) (by decide) (by decide)
   ·exact eoErr_len _
  split
  ·split
   ·split
    ·refine evF_len (hf2.asks ?_) (fsmAll (i := 9) (c := cxP now p [] (0, []) nilS nilS) (evT_at (by decide)) hs.1 hs.2 (fun h => absurd h (by decide)) (fun h => absurd h (by decide))).2
     split
     ·exact lessF_ok (cfA_ok hf.ask) _
     ·exact woF_ok (cfA_ok hf.ask) _
    ·exact eoErr_len _
   ·exact eoErr_len _
  split
  ·exact eoErr_len _
  ·apply key
   ·split
    ·decide
    split
    ·decide
    split
    ·split <;> decide
    split <;> decide
   ·split
    ·decide
    split
    ·decide
    split
    ·split <;> decide
    split <;> decide
   ·split
    ·decide
    split
    ·decide
    split
    ·split <;> decide
    split <;> decide
 ·exact eoErr_len _
section
variable {z : World} {N : Nat} {c : Array Value}
theorem HoldsO.sw {v : Value} {F : List Op.Opt} (h : HoldsO z v F) (hN : z.heap[N]? = some (.cells c 42)) (cs : Array Value) : HoldsO (z.setRow N cs) v F :=
 hold_ty h hN (by decide) fun k _ hk => setRow_ne z N k cs hk
theorem ne_eo {k : Nat} {T : TypeId} {d : Array Value} (hN : z.heap[N]? = some (.cells c 42)) (hk : z.heap[k]? = some (.cells d T)) (hT : T ≠ 42) : k ≠ N := fun e => by
 rw [e, hN] at hk
 injection hk with hk
 injection hk with _ hk
 exact hT hk.symm
theorem HoldsP.sw {v : Value} {F : List Op.Pk} (h : HoldsP z v F) (hN : z.heap[N]? = some (.cells c 42)) (cs : Array Value) : HoldsP (z.setRow N cs) v F :=
 h.imp id fun ⟨g, cp, cur, e, q1, q2⟩ => ⟨g, cp, cur, e, (setRow_ne z N g cs (ne_eo hN q1 (by decide))).trans q1, q2⟩
theorem HoldsT.sw {v : Value} {F : List ByteArray} (h : HoldsT z v F) (hN : z.heap[N]? = some (.cells c 42)) (cs : Array Value) : HoldsT (z.setRow N cs) v F :=
 h.imp id fun ⟨g, cp, cur, e, q1, q2⟩ => ⟨g, cp, cur, e, (setRow_ne z N g cs (ne_eo hN q1 (by decide))).trans q1, q2⟩
theorem AnD.sw {o : EO} {lo hi : Nat} {d : Array Value} (h : AnD o lo hi d z) (hN : z.heap[N]? = some (.cells c 42)) {cs : Array Value} : AnD o lo hi d (z.setRow N cs) := by
 obtain ⟨x1, x2, x5, x7, y1, y2, y5, y7, e, h1, h2, h3, h4, f⟩ := h
 exact ⟨x1, x2, x5, x7, y1, y2, y5, y7, e, h1.sw hN cs, h2.sw hN cs, h3.sw hN cs, h4.sw hN cs, f⟩
theorem MkD.sw {o : EO} {d : Array Value} (h : MkD o d z) (hN : z.heap[N]? = some (.cells c 42)) {cs : Array Value} : MkD o d (z.setRow N cs) := by
 obtain ⟨x1, x2, x5, x7, y1, y2, y5, y7, e, h1, h2, h3, h4⟩ := h
 exact ⟨x1, x2, x5, x7, y1, y2, y5, y7, e, h1.sw hN cs, h2.sw hN cs, h3.sw hN cs, h4.sw hN cs⟩
theorem ToX.sw {e : En} {F1 F2 : List Op.Opt} {lo hi : Nat} {cl : List Value} (h : ToX e F1 F2 lo hi cl z) (hN : z.heap[N]? = some (.cells c 42)) {cs : Array Value} : ToX e F1 F2 lo hi cl (z.setRow N cs) := by
 obtain ⟨u1, z1, u2, z2, h1, h2, h3, f⟩ := h
 exact ⟨u1, z1, u2, z2, h1, h2.sw hN cs, h3.sw hN cs, f⟩
end
structure J1 (w : World) (A : Nat) (ca : List Value) (x y : Int) (t : ByteArray) (q : World) : Prop where
 a : q.heap[A]? = some (.cells ca.toArray 51)
 p : q.heap[A + 1]? = some (.cells #[.int .i64 x, .int .i64 y, .string t] 52)
 low : Below w.heap.size w q
theorem J1.step {w : World} {A : Nat} {ca : List Value} {x y : Int} {t : ByteArray} {q q' : World} (h : J1 w A ca x y t q) (hb : Below q.heap.size q q') : J1 w A ca x y t q' :=
 ⟨(hb.block _ (Array.getElem?_eq_some_iff.1 h.a).1).trans h.a, (hb.block _ (Array.getElem?_eq_some_iff.1 h.p).1).trans h.p, h.low.trans (hb.mono h.low.size)⟩
theorem J1.sw {w : World} {A N : Nat} {ca : List Value} {x y : Int} {t : ByteArray} {q : World} {c cs : Array Value} (h : J1 w A ca x y t q) (hN : q.heap[N]? = some (.cells c 42)) (hw : w.heap.size ≤ N) : J1 w A ca x y t (q.setRow N cs) :=
 ⟨(setRow_ne q N A cs (ne_eo hN h.a (by decide))).trans h.a, (setRow_ne q N (A + 1) cs (ne_eo hN h.p (by decide))).trans h.p, below_row h.low hw _⟩
theorem J1.rg {w : World} {A : Nat} {ca : List Value} {x y : Int} {t : ByteArray} {q q' : World} {lo hi : Nat} (h : J1 w A ca x y t q) (hr : Rg lo hi q q') (hA : A + 1 < lo) (hw : w.heap.size ≤ lo) : J1 w A ca x y t q' :=
 ⟨(hr.block _ (Array.getElem?_eq_some_iff.1 h.a).1 (fun e => by omega)).trans h.a, (hr.block _ (Array.getElem?_eq_some_iff.1 h.p).1 (fun e => by omega)).trans h.p, hr.below h.low hw (Nat.le_refl _)⟩
structure J2 (w : World) (A : Nat) (ca : List Value) (x y : Int) (t : ByteArray) (o : EO) (bw lo1 hi1 : Nat) (cw : Array Value) (bx lo2 hi2 : Nat) (e : En) (F1 F2 : List Op.Opt) (cl : List Value) (q : World) : Prop where
 j : J1 w A ca x y t q
 m : q.heap[bw]? = some (.cells cw 42)
 d : AnD o lo1 hi1 cw q
 xx : q.heap[bx]? = some (.cells cl.toArray 29)
 tx : ToX e F1 F2 lo2 hi2 cl q
section
variable {w : World} {A : Nat} {ca : List Value} {x y : Int} {t : ByteArray} {o : EO} {bw lo1 hi1 : Nat} {cw : Array Value} {bx lo2 hi2 : Nat} {e : En} {F1 F2 : List Op.Opt} {cl : List Value} {q q' : World} {bg : Nat} {cg : Array Value}
theorem J2.low (h : J2 w A ca x y t o bw lo1 hi1 cw bx lo2 hi2 e F1 F2 cl q) : Below w.heap.size w q := h.j.low
theorem J2.step (h : J2 w A ca x y t o bw lo1 hi1 cw bx lo2 hi2 e F1 F2 cl q) (hb : Below q.heap.size q q') : J2 w A ca x y t o bw lo1 hi1 cw bx lo2 hi2 e F1 F2 cl q' :=
 ⟨h.j.step hb, (hb.block _ (Array.getElem?_eq_some_iff.1 h.m).1).trans h.m, h.d.step hb, (hb.block _ (Array.getElem?_eq_some_iff.1 h.xx).1).trans h.xx, h.tx.step hb⟩
theorem J2.sw {N : Nat} {c cs : Array Value} (h : J2 w A ca x y t o bw lo1 hi1 cw bx lo2 hi2 e F1 F2 cl q) (hN : q.heap[N]? = some (.cells c 42)) (hw : w.heap.size ≤ N ∧ bw < N) : J2 w A ca x y t o bw lo1 hi1 cw bx lo2 hi2 e F1 F2 cl (q.setRow N cs) :=
 ⟨h.j.sw hN hw.1, (setRow_ne q N bw cs (by omega)).trans h.m, h.d.sw hN, (setRow_ne q N bx cs (ne_eo hN h.xx (by decide))).trans h.xx, h.tx.sw hN⟩
structure J3 (w : World) (A : Nat) (ca : List Value) (x y : Int) (t : ByteArray) (o : EO) (bw lo1 hi1 : Nat) (cw : Array Value) (bg : Nat) (cg : Array Value) (q : World) : Prop where
 j : J1 w A ca x y t q
 m : q.heap[bw]? = some (.cells cw 42)
 d : AnD o lo1 hi1 cw q
 g : q.heap[bg]? = some (.cells cg 42)
 k : MkD o cg q
theorem J3.low (h : J3 w A ca x y t o bw lo1 hi1 cw bg cg q) : Below w.heap.size w q := h.j.low
theorem J3.step (h : J3 w A ca x y t o bw lo1 hi1 cw bg cg q) (hb : Below q.heap.size q q') : J3 w A ca x y t o bw lo1 hi1 cw bg cg q' :=
 ⟨h.j.step hb, (hb.block _ (Array.getElem?_eq_some_iff.1 h.m).1).trans h.m, h.d.step hb, (hb.block _ (Array.getElem?_eq_some_iff.1 h.g).1).trans h.g, h.k.step hb⟩
theorem J3.sw {N : Nat} {c cs : Array Value} (h : J3 w A ca x y t o bw lo1 hi1 cw bg cg q) (hN : q.heap[N]? = some (.cells c 42)) (hw : w.heap.size ≤ N ∧ bw < N ∧ bg < N) : J3 w A ca x y t o bw lo1 hi1 cw bg cg (q.setRow N cs) :=
 ⟨h.j.sw hN hw.1, (setRow_ne q N bw cs (by omega)).trans h.m, h.d.sw hN, (setRow_ne q N bg cs (by omega)).trans h.g, h.k.sw hN⟩
end
structure Jo (J : World → Prop) (base : Nat) (o : EO) (cs : Array Value) (q : World) (bb lo hi : Nat) : Prop where
 j : J q
 m : q.heap[bb]? = some (.cells cs 42)
 d : AnD o lo hi cs q
 sz : cs.size = 33
 one : cs.all (·.oneCell') = true
 b1 : base ≤ bb
 b2 : base ≤ lo
 b3 : bb < lo ∨ hi ≤ bb
 b4 : bb < q.heap.size
 b5 : hi ≤ q.heap.size
theorem row3l {w : World} {B : Nat} {x0 x1 x2 : Value} {T : TypeId} (h : w.heap[B]? = some (.cells #[x0, x1, x2] T)) : w.cell? ⟨B, 0, none⟩ = some x0 ∧ w.cell? ⟨B, 1, none⟩ = some x1 ∧ w.cell? ⟨B, 2, none⟩ = some x2 :=
 ⟨by rw [cell_of_row _ _ 0 _ _ (0, 0) h]; rfl, by rw [cell_of_row _ _ 1 _ _ (0, 0) h]; rfl, by rw [cell_of_row _ _ 2 _ _ (0, 0) h]; rfl⟩
set_option maxHeartbeats 1000000 in
theorem toPkE (x y : Int) (t : ByteArray) (w : World) :
  Calls Tryz.prog 18 #[.agg #[.int .i64 x, .int .i64 y, .string t]] w fun e w' => e = .returned (.agg #[.int .i64 x, .int .i64 y, .string t]) ∧ Below w.heap.size w w' := by
 go_enter Tryz.func18, Tryz.ntmps18
 go_wp2
 refine bodyPost_ret (v := .agg #[.int .i64 x, .int .i64 y, .string t]) (by simp [results, Tryz.results18, go_sem]) rfl ⟨rfl, ?_⟩
 exact (((Below.refl _ _).alloc (Nat.le_refl _) _).alloc (by simp) _).alloc (by simp; omega) _
set_option maxHeartbeats 400000 in
theorem szPkE (x y : Int) (t : ByteArray) (m : Nat) (w : World) (ht : t.size ≤ maxLen) (hm : m ≤ 1048576) :
  Calls Tryz.prog 16 #[.agg #[.int .i64 x, .int .i64 y, .string t], .int .i64 (m : Int)] w fun e w' => ∃ z : Int, e = .returned (.int .i64 z) ∧ Below w.heap.size w w' := by
 unfold maxLen at ht
 by_cases h : t.size ≤ m
 ·have d1 : ¬ ((m : Int) - (t.size : Int) < 0) := by omega
  go_enter Tryz.func16, Tryz.ntmps16
  go_wp2
  all_goals first | (exfalso; omega) | (go_ret; first | exact ⟨_, rfl, (Below.refl _ _).alloc (Nat.le_refl _) _⟩ | exact ⟨⟨_, rfl⟩, (Below.refl _ _).alloc (Nat.le_refl _) _⟩ | exact (Below.refl _ _).alloc (Nat.le_refl _) _)
 ·have d1 : (m : Int) - (t.size : Int) < 0 := by omega
  go_enter Tryz.func16, Tryz.ntmps16
  go_wp2
  all_goals first | (exfalso; omega) | (go_ret; first | exact ⟨_, rfl, (Below.refl _ _).alloc (Nat.le_refl _) _⟩ | exact ⟨⟨_, rfl⟩, (Below.refl _ _).alloc (Nat.le_refl _) _⟩ | exact (Below.refl _ _).alloc (Nat.le_refl _) _)
end Go.Proofs.YtahpjlbaagkdoaaGreatDoor
