/- Rows of packets in memory; one put behind others; two rows held against each other by the law; what lay in memory stands. The law's text of a mark; what lay in memory stands. The law's marks of packets: packets marked by numbers, and whether the marks are there; what lay in memory stands but for the marked row. The law's words on rows of texts: two held against each other, marked by numbers, and whether the marks are there; what lay in memory stands but for the marked row. The law's own copies of options that were handed in, and their bytes counted; what lay in memory stands. -/
import Derived.Test.YtahpjlbaagkdoaaGreatDoorS00
import Derived.Test.YtahpjlbaagkdoaaGreatDoorS02
import Derived.Test.YtahpjlbaagkdoaaGreatDoorS04
import Derived.Deep.WholeRow
import Derived.Test.YtahpjlbaagkdoaaGreatDoorShW
namespace Go.Proofs.YtahpjlbaagkdoaaGreatDoor
open Go.RowKit
def pkcells (fs : List Op.Pk) : List Value := fs.flatMap fun f => [.int .i64 f.code, .int .i64 f.id, .string f.data]
theorem pkcells_append (fs gs : List Op.Pk) : pkcells (fs ++ gs) = pkcells fs ++ pkcells gs := by simp [pkcells]
theorem pkcells_get (fs : List Op.Pk) (i : Nat) (f : Op.Pk) (h : fs[i]? = some f) : (pkcells fs)[i * 3]? = some (.int .i64 f.code) ∧ (pkcells fs)[i * 3 + 1]? = some (.int .i64 f.id) ∧ (pkcells fs)[i * 3 + 2]? = some (.string f.data) := by
 induction fs generalizing i with
 | nil => simp at h
 | cons d fs ih =>
  cases i with
  | zero =>
   simp at h
   subst h
   exact ⟨rfl, rfl, rfl⟩
  | succ i =>
   have := ih i (by simpa using h)
   have e : pkcells (d :: fs) = .int .i64 d.code :: .int .i64 d.id :: .string d.data :: pkcells fs := rfl
   rw [e, show (i + 1) * 3 = i * 3 + 3 by omega]
   exact this
theorem pkinfo : ∃ i, Tryz.prog.info? 35 = some i ∧ i.zero = some (.agg #[.int .i64 0, .int .i64 0, .string ⟨#[]⟩]) ∧ i.size = 3 ∧ i.bytes = 32 := by
 have h : (Tryz.prog.info? 35).map (fun i => (i.zero, i.size, i.bytes)) = some (some (.agg #[.int .i64 0, .int .i64 0, .string ⟨#[]⟩]), 3, 32) := by kernel_rfl
 obtain ⟨i, hi, hzz⟩ := Option.map_eq_some_iff.1 h
 simp only [Prod.mk.injEq] at hzz
 exact ⟨i, hi, hzz.1, hzz.2.1, hzz.2.2⟩
def HoldsP (w : World) (v : Value) (F : List Op.Pk) : Prop :=
 (∃ ad cp, v = .slice ad 0 cp ∧ F = []) ∨ ∃ g cp cur, v = .slice (some ⟨g, 0, none⟩) F.length cp ∧ w.heap[g]? = some (.cells cur 35) ∧ F.length * 3 ≤ cur.size ∧ ∀ j, j < F.length * 3 → cur[j]? = (pkcells F)[j]?
theorem HoldsP.own {w : World} {base : Nat} {v : Value} {F : List Op.Pk} (h : w.ownsRow base 35 3 v F.length (pkcells F)) : HoldsP w v F := by
 rcases h.2 with ⟨h1, h2⟩ | ⟨g, cap, cur, h1, _, h3, h4, _, h6, h7⟩
 ·exact Or.inl ⟨_, _, h1, List.eq_nil_of_length_eq_zero h2⟩
 ·refine Or.inr ⟨g, cap, cur, h1, h3, by rw [h6]; omega, fun j hj => ?_⟩
  rw [← h7, List.getElem?_take, if_pos hj, Array.getElem?_toList]
theorem HoldsP.below {n : Nat} {w w' : World} {v : Value} {F : List Op.Pk} (h : HoldsP w v F) (hb : Below n w w') (hn : n = w.heap.size) : HoldsP w' v F := by
 subst hn
 exact h.imp id fun ⟨g, cp, cur, h1, h2, h3⟩ => ⟨g, cp, cur, h1, (hb.block g (Array.getElem?_eq_some_iff.1 h2).1).trans h2, h3⟩
theorem HoldsP.form {w : World} {v : Value} {F : List Op.Pk} (h : HoldsP w v F) : ∃ ad cp, v = .slice ad F.length cp := by
 rcases h with ⟨ad, cp, h1, h2⟩ | ⟨g, cp, cur, h1, _⟩
 ·exact ⟨ad, cp, by rw [h1, h2]; rfl⟩
 ·exact ⟨_, _, h1⟩
theorem holdsP_nil (w : World) (ad : Option Addr) (cp : Nat) : HoldsP w (.slice ad 0 cp) [] := Or.inl ⟨ad, cp, rfl, rfl⟩
theorem HoldsP.other {w w' : World} {v : Value} {F : List Op.Pk} (h : HoldsP w v F) (hw : ∀ g, v.ownBlock = some g → w'.heap[g]? = w.heap[g]?) : HoldsP w' v F := by
 rcases h with ⟨ad, cp, e, e0⟩ | ⟨g, cp, cur, e, q1, q2⟩
 ·exact Or.inl ⟨ad, cp, e, e0⟩
 ·exact Or.inr ⟨g, cp, cur, e, (hw g (by rw [e]; rfl)).trans q1, q2⟩
theorem HoldsP.lt {w : World} {v : Value} {F : List Op.Pk} (h : HoldsP w v F) (hF : F ≠ []) (g : Nat) (hg : v.ownBlock = some g) : g < w.heap.size := by
 rcases h with ⟨_, _, _, e⟩ | ⟨g', cp, cur, e, q1, _⟩
 ·exact absurd e hF
 ·rw [e] at hg
  cases hg
  exact (Array.getElem?_eq_some_iff.1 q1).1
theorem append_pk {wr : World} {ops : Array Oper} {rest : List Oper} {o : Oper} {a : Act} {Q : Exit → Act → World → Prop} (hgd : o.guard = none) (s x : Operand)
  (ho : o.op = .call { callee := .builtin .append, args := #[s, x], argTypes := #[39, 39] })
  (base : Nat) (v : Value) (F : List Op.Pk) (n : Nat) (hn : F.length = n) (hs : a.eval s = v) (hown : wr.ownsRow base 35 3 v n (pkcells F)) (cd id : Int) (dt : ByteArray) (hx : a.eval x = .slice (some ⟨wr.heap.size, 0, none⟩) 1 1) (hlen : n ≤ 1000) (hbase : base ≤ wr.heap.size)
  (h : ∀ v' w', w'.ownsRow base 35 3 v' (n + 1) (pkcells (F ++ [⟨cd, id, dt⟩])) → (wr.alloc (.cells #[.int .i64 cd, .int .i64 id, .string dt] 35)).grownBy w' v.ownBlock → wpList Tryz.prog ops Q rest (a.put o.dst v') w') : wpList Tryz.prog ops Q (o :: rest) a (wr.alloc (.cells #[.int .i64 cd, .int .i64 id, .string dt] 35)) := by
 obtain ⟨i0, hi0, hz0, hz1, hz2⟩ := pkinfo
 refine wpList_append_own _ hgd s x 39 ho base 35 i0 _ 3 32 Tryz.underlying39 hi0 hz0 hz1 hz2 rfl (by decide) v n (pkcells F) hs (hown.alloc _) ⟨wr.heap.size, 0, none⟩ 1 1 [.int .i64 cd, .int .i64 id, .string dt] hx rfl ?_ ?_ ?_ ?_ ?_ ?_
 ·intro i u hu
  rw [Addr.add_lit, Nat.zero_add, World.cell?_alloc_at _ _ _ _ rfl, ← hu]
  simp
 ·intro u hu
  simp only [List.mem_cons, List.not_mem_nil, or_false] at hu
  rcases hu with rfl | rfl | rfl <;> rfl
 ·unfold maxLen; omega
 ·omega
 ·simp; omega
 ·intro v' w2 hown2 hg2 _
  refine h v' w2 ?_ hg2
  rw [pkcells_append]
  exact hown2
set_option maxHeartbeats 400000 in
theorem eqPk1 (x y : Int) (t : ByteArray) (w : World) :
  Calls Tryz.prog 101 #[.agg #[.int .i64 x, .int .i64 y, .string t], .agg #[.int .i64 x, .int .i64 y, .string t]] w fun e w' => e = .returned (.bool true) ∧ Below w.heap.size w w' := by
 go_enter Tryz.func101, Tryz.ntmps101
 go_wp2
 go_ret
 exact ⟨rfl, ((Below.refl _ _).alloc (Nat.le_refl _) _).alloc (by simp) _⟩
set_option maxHeartbeats 2000000 in
theorem eqPk0 (a1 a2 : Option Addr) (c1 c2 : Nat) (w : World) :
  Calls Tryz.prog 54 #[.slice a1 0 c1, .slice a2 0 c2] w fun e w' => e = .returned (.bool true) ∧ Below w.heap.size w w' := by
 go_enter Tryz.func54, Tryz.ntmps54
 go_wp2_with fail
 go_loopw [5] (fun y wr => y = .int .i64 0 ∧ wr = w) (fun _ _ => 0)
 case atStart => exact ⟨rfl, rfl⟩
 case round =>
  obtain ⟨rfl, rfl⟩ := hrel
  go_wp2
  go_ret
  exact ⟨rfl, Below.refl _ _⟩
set_option maxHeartbeats 2000000 in
theorem eqPkG (g1 g2 c1 c2 : Nat) (F : List Op.Pk) (cur1 cur2 : Array Value) (w : World) (hF : F.length ≤ 2000000) (h1 : w.heap[g1]? = some (.cells cur1 35)) (h2 : w.heap[g2]? = some (.cells cur2 35))
  (a1 : ∀ j, j < F.length * 3 → cur1[j]? = (pkcells F)[j]?) (a2 : ∀ j, j < F.length * 3 → cur2[j]? = (pkcells F)[j]?) :
  Calls Tryz.prog 54 #[.slice (some ⟨g1, 0, none⟩) F.length c1, .slice (some ⟨g2, 0, none⟩) F.length c2] w fun e w' => e = .returned (.bool true) ∧ Below w.heap.size w w' := by
 have hl1 : g1 < w.heap.size := (Array.getElem?_eq_some_iff.1 h1).1
 have hl2 : g2 < w.heap.size := (Array.getElem?_eq_some_iff.1 h2).1
 obtain ⟨n, hn⟩ : ∃ n, F.length = n := ⟨_, rfl⟩
 have HA : Hid (∀ i, i < n → ∃ x y t, cur1[i * 3]? = some (.int .i64 x) ∧ cur1[i * 3 + 1]? = some (.int .i64 y) ∧ cur1[i * 3 + 2]? = some (.string t) ∧ cur2[i * 3]? = some (.int .i64 x) ∧ cur2[i * 3 + 1]? = some (.int .i64 y) ∧ cur2[i * 3 + 2]? = some (.string t)) := by
  refine hide fun i hi => ?_
  have g := pkcells_get F i (F[i]'(by omega)) (List.getElem?_eq_getElem (by omega))
  exact ⟨_, _, _, (a1 _ (by omega)).trans g.1, (a1 _ (by omega)).trans g.2.1, (a1 _ (by omega)).trans g.2.2, (a2 _ (by omega)).trans g.1, (a2 _ (by omega)).trans g.2.1, (a2 _ (by omega)).trans g.2.2⟩
 rw [hn] at hF ⊢
 clear a1 a2 hn
 go_enter Tryz.func54, Tryz.ntmps54
 go_wp2_with fail
 go_loopw [5] (fun y wr => ∃ (i : Nat), i ≤ n ∧ y = .int .i64 i ∧ Below w.heap.size w wr) (fun y _ => n - (intOf y).toNat)
 case atStart => exact ⟨0, Nat.zero_le _, rfl, Below.refl _ _⟩
 case round =>
  obtain ⟨i, hi, rfl, hb⟩ := hrel
  have hbs := hb.size
  by_cases hlt : i < n
  ·have d1 : (i : Int) < (n : Int) := by omega
   obtain ⟨x, y, t, q1, q2, q3, q4, q5, q6⟩ := unhide HA i hlt
   have e1 := (hb.block g1 hl1).trans h1
   have e2 := (hb.block g2 hl2).trans h2
   have k0 : wr.cell? ⟨g1, i * 3, none⟩ = some (.int .i64 x) := by rw [cell_of_row _ _ _ _ _ _ e1]; exact q1
   have k1 : wr.cell? ⟨g1, i * 3 + 1, none⟩ = some (.int .i64 y) := by rw [cell_of_row _ _ _ _ _ _ e1]; exact q2
   have k2 : wr.cell? ⟨g1, i * 3 + 2, none⟩ = some (.string t) := by rw [cell_of_row _ _ _ _ _ _ e1]; exact q3
   have k3 : wr.cell? ⟨g2, i * 3, none⟩ = some (.int .i64 x) := by rw [cell_of_row _ _ _ _ _ _ e2]; exact q4
   have k4 : wr.cell? ⟨g2, i * 3 + 1, none⟩ = some (.int .i64 y) := by rw [cell_of_row _ _ _ _ _ _ e2]; exact q5
   have k5 : wr.cell? ⟨g2, i * 3 + 2, none⟩ = some (.string t) := by rw [cell_of_row _ _ _ _ _ _ e2]; exact q6
   have C := hide fun v => eqPk1 x y t v
   clear e1 e2 q1 q2 q3 q4 q5 q6 h1 h2
   go_wp2_with fail
   go_region_with (first
    | (go_at_call 101; refine (unhide C _).mono ?_; rintro e w2 ⟨rfl, hb2⟩))
   all_goals
    go_wp2_with fail
    go_roundw
    case rel => exact ⟨i + 1, by omega, by go_num, hb.trans (((Below.refl _ _).drew.trans hb2).mono hbs)⟩
    case measure => simp [intOf]; omega
  ·have e : i = n := by omega
   subst e
   have d1 : ¬ ((i : Int) < (i : Int)) := by omega
   go_wp2
   go_ret
   exact ⟨rfl, hb⟩
theorem eqPkS (v1 v2 : Value) (F : List Op.Pk) (w : World) (hF : F.length ≤ 2000000) (h1 : HoldsP w v1 F) (h2 : HoldsP w v2 F) :
  Calls Tryz.prog 54 #[v1, v2] w fun e w' => e = .returned (.bool true) ∧ Below w.heap.size w w' := by
 rcases h1 with ⟨ad1, cp1, rfl, e⟩ | ⟨g1, cp1, cur1, rfl, q1, q2, q3⟩
 ·subst e
  rcases h2 with ⟨ad2, cp2, rfl, _⟩ | ⟨g2, cp2, cur2, rfl, _⟩
  ·exact eqPk0 _ _ _ _ w
  ·exact eqPk0 _ _ _ _ w
 ·rcases h2 with ⟨ad2, cp2, rfl, e⟩ | ⟨g2, cp2, cur2, rfl, r1, r2, r3⟩
  ·subst e
   exact eqPk0 _ _ _ _ w
  ·exact eqPkG g1 g2 cp1 cp2 F cur1 cur2 w hF q1 r1 q3 r3
def dgf : Nat → Nat → ByteArray → ByteArray
 | 0, _, o => o
 | f + 1, k, o => if k = 0 then o else dgf f (k / 10) (strOfNums [((48 + k % 10 : Nat) : Int)] ++ o)
theorem dgf_zero (f : Nat) (o : ByteArray) : dgf f 0 o = o := by cases f <;> rfl
theorem dgf_step {f k : Nat} (o : ByteArray) (h : 0 < k) (hf : k ≤ f) : ∃ f', k / 10 ≤ f' ∧ dgf f k o = dgf f' (k / 10) (strOfNums [((48 + k % 10 : Nat) : Int)] ++ o) := by
 cases f with
 | zero => omega
 | succ f => exact ⟨f, by omega, by simp only [dgf]; rw [if_neg (by omega)]⟩
def mtx (k : Nat) : ByteArray := ⟨#[109]⟩ ++ dgf k k ⟨#[]⟩
set_option maxHeartbeats 100000000 in
theorem markText (k : Nat) (w : World) (hk : 0 < k) (hk2 : k < 10000000) :
  Calls Tryz.prog 103 #[.int .i64 k] w fun e w' => e = .returned (.string (mtx k)) ∧ Below w.heap.size w w' := by
 have d1 : ¬ ((k : Int) ≤ 0) := by omega
 go_enter Tryz.func103, Tryz.ntmps103
 go_wp2_with fail
 go_loopw [0, 3] (fun x o wr => ∃ (j f : Nat) (out : ByteArray), x = .int .i64 j ∧ o = .string out ∧ j ≤ f ∧ dgf f j out = dgf k k ⟨#[]⟩ ∧ out.size + j ≤ 10000000 ∧ Below w.heap.size w wr) (fun x _ _ => (intOf x).toNat)
 case atStart => exact ⟨k, k, ⟨#[]⟩, rfl, rfl, Nat.le_refl _, rfl, by simp [ByteArray.size]; omega, Below.refl _ _⟩
 case round =>
  obtain ⟨j, f, out, rfl, rfl, hf, hd, hs, hb⟩ := hrel
  have hs2 := hb.size
  by_cases h0 : 0 < j
  ·obtain ⟨f', hf', hd'⟩ := dgf_step out h0 hf
   have HD : Hid (dgf f' (j / 10) (strOfNums [((48 + j % 10 : Nat) : Int)] ++ out) = dgf k k ⟨#[]⟩) := hide (hd'.symm.trans hd)
   have hsz : (strOfNums [((48 + j % 10 : Nat) : Int)]).size = 1 := strOfNums_size _
   have hcv : (convert 22 9 (.slice (some ⟨wr.heap.size, 0, none⟩) 1 1)).run Tryz.prog (wr.alloc (.cells #[.int .u8 (48 + (j : Int) % 10)] 5)) = .ok (.string (strOfNums [((48 + j % 10 : Nat) : Int)])) (wr.alloc (.cells #[.int .u8 (48 + (j : Int) % 10)] 5)) := by
    have h := conv_own (xs := [((48 + j % 10 : Nat) : Int)]) (World.ownsRow_lit (base := wr.heap.size) wr #[.int .u8 ((48 + j % 10 : Nat) : Int)] 1 (by omega) (by decide) rfl)
    rw [show ((48 + j % 10 : Nat) : Int) = 48 + (j : Int) % 10 by omega] at h ⊢
    exact h
   generalize strOfNums [((48 + j % 10 : Nat) : Int)] = c at *
   have hcat : ¬ (9223372036854775807 < c.size + out.size) := by omega
   have d2 : (0 : Int) < (j : Int) := by omega
   clear hd hd'
   go_wp2_with fail
   go_roundw
   case rel => exact ⟨j / 10, f', c ++ out, by go_num, rfl, hf', unhide HD, by rw [ByteArray.size_append]; omega, hb.alloc hs2 _⟩
   case measure => simp [intOf]; omega
  ·have h0' : j = 0 := by omega
   subst h0'
   rw [dgf_zero] at hd
   have hcat : ¬ (9223372036854775807 < (ByteArray.mk #[109]).size + out.size) := by rw [show (ByteArray.mk #[109]).size = 1 from rfl]; omega
   have HD := hide hd
   clear hd
   go_wp2
   go_ret
   exact ⟨by unfold mtx; rw [← unhide HD]; rfl, hb⟩
def mpk (k n : Nat) : List Op.Pk := (List.range n).map fun i => ⟨((k + 3 * i : Nat) : Int), ((k + 3 * i + 1 : Nat) : Int), mtx (k + 3 * i + 2)⟩
theorem mpk_len (k n : Nat) : (mpk k n).length = n := by simp [mpk]
theorem mpk_get (k n i K : Nat) (h : i < n) (hK : k + 3 * i = K) : (pkcells (mpk k n))[i * 3]? = some (.int .i64 (K : Int)) ∧ (pkcells (mpk k n))[i * 3 + 1]? = some (.int .i64 ((K : Int) + 1)) ∧ (pkcells (mpk k n))[i * 3 + 2]? = some (.string (mtx (K + 2))) := by
 subst hK
 exact pkcells_get (mpk k n) i ⟨((k + 3 * i : Nat) : Int), ((k + 3 * i + 1 : Nat) : Int), mtx (k + 3 * i + 2)⟩ (by simp [mpk, h])
theorem set_three (cur' : Array Value) (L : List Value) (i : Nat) (A B C : Value) (hi : i * 3 + 2 < cur'.size) (h1 : L[i * 3]? = some A) (h2 : L[i * 3 + 1]? = some B) (h3 : L[i * 3 + 2]? = some C) (ha : ∀ j, j < i * 3 → cur'[j]? = L[j]?) :
  ∀ j, j < (i + 1) * 3 → (((cur'.setIfInBounds (i * 3) A).setIfInBounds (i * 3 + 1) B).setIfInBounds (i * 3 + 2) C)[j]? = L[j]? := by
 intro j hj
 rw [Array.getElem?_setIfInBounds]
 by_cases e0 : i * 3 + 2 = j
 ·rw [if_pos e0, if_pos (by simpa using hi), ← e0, h3]
 ·rw [if_neg e0, Array.getElem?_setIfInBounds]
  by_cases e1 : i * 3 + 1 = j
  ·rw [if_pos e1, if_pos (by simp; omega), ← e1, h2]
  ·rw [if_neg e1, Array.getElem?_setIfInBounds]
   by_cases e2 : i * 3 = j
   ·rw [if_pos e2, if_pos (by omega), ← e2, h1]
   ·rw [if_neg e2]
    exact ha j (by omega)
set_option maxHeartbeats 2000000 in
theorem markPkG (g cap n k : Nat) (cur : Array Value) (w : World) (hk : 0 < k) (hn : k + 3 * n < 9000000) (hc : n * 3 ≤ cur.size) (hg : w.heap[g]? = some (.cells cur 35)) :
  Calls Tryz.prog 60 #[.slice (some ⟨g, 0, none⟩) n cap, .int .i64 k] w fun e w' => e = .returned (.int .i64 ((k + 3 * n : Nat) : Int)) ∧
   (∃ cur', w'.heap[g]? = some (.cells cur' 35) ∧ cur'.size = cur.size ∧ ∀ j, j < n * 3 → cur'[j]? = (pkcells (mpk k n))[j]?) ∧ Nr g w w' := by
 have hgl : g < w.heap.size := (Array.getElem?_eq_some_iff.1 hg).1
 go_enter Tryz.func60, Tryz.ntmps60
 go_wp2_with fail
 go_loopw [1, 5] (fun x y wr => ∃ (i : Nat), i ≤ n ∧ y = .int .i64 i ∧ x = .int .i64 ((k + 3 * i : Nat) : Int) ∧ (∃ cur', wr.heap[g]? = some (.cells cur' 35) ∧ cur'.size = cur.size ∧ ∀ j, j < i * 3 → cur'[j]? = (pkcells (mpk k n))[j]?) ∧ Nr g w wr) (fun _ y _ => n - (intOf y).toNat)
 case atStart => exact ⟨0, Nat.zero_le _, rfl, rfl, ⟨cur, hg, rfl, fun j hj => by omega⟩, Nr.refl _ _⟩
 case round =>
  obtain ⟨i, hi, rfl, rfl, ⟨cur', hg', hs', ha'⟩, hnr⟩ := hrel
  by_cases hlt : i < n
  ·have d1 : (i : Int) < (n : Int) := by omega
   have hgl' : g < wr.heap.size := Nat.lt_of_lt_of_le hgl hnr.size
   obtain ⟨K, hK⟩ : ∃ K : Nat, k + 3 * i = K := ⟨_, rfl⟩
   rw [hK]
   have hMg := mpk_get k n i K hlt hK
   have HMg := hide hMg
   have HKe : Hid ((K : Int) + 1 + 1 + 1 = ((k + 3 * (i + 1) : Nat) : Int)) := hide (by omega)
   have hK9 : K + 2 < 9000000 := by omega
   have HI : Hid (i * 3 + 2 < cur'.size) := hide (by omega)
   have C := hide fun v => markText (K + 2) v (by omega) (by omega)
   rw [show ((K + 2 : Nat) : Int) = (K : Int) + 1 + 1 from by omega] at C
   clear hK hMg
   obtain ⟨y0, hy0⟩ : ∃ y, wr.cell? ⟨g, i * 3, none⟩ = some y := ⟨cur'[i * 3]'(by have := unhide HI; omega), by rw [cell_of_row _ _ _ _ _ _ hg', Array.getElem?_eq_getElem (by have := unhide HI; omega)]⟩
   have hf0 : wr.frozen? ⟨g, i * 3, none⟩ = false := frz hg' _
   obtain ⟨y1, hy1⟩ : ∃ y, wr.cell? ⟨g, i * 3 + 1, none⟩ = some y := ⟨cur'[i * 3 + 1]'(by have := unhide HI; omega), by rw [cell_of_row _ _ _ _ _ _ hg', Array.getElem?_eq_getElem (by have := unhide HI; omega)]⟩
   have hf1 : wr.frozen? ⟨g, i * 3 + 1, none⟩ = false := frz hg' _
   have HG1 : Hid (((wr.setCell ⟨g, i * 3, none⟩ (.int .i64 (K : Int))).setCell ⟨g, i * 3 + 1, none⟩ (.int .i64 ((K : Int) + 1))).heap[g]? = some (.cells ((cur'.setIfInBounds (i * 3) (.int .i64 (K : Int))).setIfInBounds (i * 3 + 1) (.int .i64 ((K : Int) + 1))) 35)) := hide (heap_setCell_same _ _ (i * 3 + 1) _ _ _ (heap_setCell_same _ _ (i * 3) _ _ _ hg'))
   have HN1 := hide ((hnr.setCell (i * 3) (.int .i64 (K : Int))).setCell (i * 3 + 1) (.int .i64 ((K : Int) + 1)))
   have hsz1 : ((wr.setCell ⟨g, i * 3, none⟩ (.int .i64 (K : Int))).setCell ⟨g, i * 3 + 1, none⟩ (.int .i64 ((K : Int) + 1))).heap.size = wr.heap.size := by simp [World.setCell]
   generalize mtx (K + 2) = M at *
   have HA := hide ha'
   clear ha' hnr
   go_wp2_with fail
   refine (unhide C _).mono ?_
   rintro e w2 ⟨rfl, hb2⟩
   have hg2 := (hb2.block g (by rw [hsz1]; exact hgl')).trans (unhide HG1)
   have HN2 := hide ((unhide HN1).of_below hb2)
   obtain ⟨y2, hy2⟩ : ∃ y, w2.cell? ⟨g, i * 3 + 2, none⟩ = some y := ⟨((cur'.setIfInBounds (i * 3) (.int .i64 (K : Int))).setIfInBounds (i * 3 + 1) (.int .i64 ((K : Int) + 1)))[i * 3 + 2]'(by have := unhide HI; simpa using this), by rw [cell_of_row _ _ _ _ _ _ hg2, Array.getElem?_eq_getElem (by have := unhide HI; simpa using this)]⟩
   have hf2 : w2.frozen? ⟨g, i * 3 + 2, none⟩ = false := frz hg2 _
   have HG2 := hide hg2
   clear hg2 hb2 HG1 HN1 hy0 hf0 hy1 hf1 hsz1 hg'
   go_wp2_with fail
   go_roundw
   case rel =>
    refine ⟨i + 1, by omega, by go_num, by rw [unhide HKe], ⟨_, heap_setCell_same _ _ (i * 3 + 2) _ _ _ (unhide HG2), by simp [hs'], ?_⟩, (unhide HN2).setCell (i * 3 + 2) _⟩
    exact set_three cur' _ i _ _ _ (unhide HI) (unhide HMg).1 (unhide HMg).2.1 (unhide HMg).2.2 (unhide HA)
   case measure => simp [intOf]; omega
  ·have e : i = n := by omega
   subst e
   have d1 : ¬ ((i : Int) < (i : Int)) := by omega
   go_wp2
   go_ret
   exact ⟨rfl, ⟨cur', hg', hs', ha'⟩, hnr⟩
set_option maxHeartbeats 2000000 in
theorem heldPkG (g cap n k : Nat) (cur : Array Value) (w : World) (hk : 0 < k) (hn : k + 3 * n < 9000000) (hg : w.heap[g]? = some (.cells cur 35)) (ha : ∀ j, j < n * 3 → cur[j]? = (pkcells (mpk k n))[j]?) :
  Calls Tryz.prog 63 #[.slice (some ⟨g, 0, none⟩) n cap, .int .i64 k] w fun e w' => e = .returned (.int .i64 ((k + 3 * n : Nat) : Int)) ∧ Below w.heap.size w w' := by
 have hgl : g < w.heap.size := (Array.getElem?_eq_some_iff.1 hg).1
 go_enter Tryz.func63, Tryz.ntmps63
 go_wp2_with fail
 go_loopw [1, 5] (fun x y wr => ∃ (i : Nat), i ≤ n ∧ y = .int .i64 i ∧ x = .int .i64 ((k + 3 * i : Nat) : Int) ∧ Below w.heap.size w wr) (fun _ y _ => n - (intOf y).toNat)
 case atStart => exact ⟨0, Nat.zero_le _, rfl, rfl, Below.refl _ _⟩
 case round =>
  obtain ⟨i, hi, rfl, rfl, hb⟩ := hrel
  by_cases hlt : i < n
  ·have d1 : (i : Int) < (n : Int) := by omega
   have hg' := (hb.block g hgl).trans hg
   obtain ⟨K, hK⟩ : ∃ K : Nat, k + 3 * i = K := ⟨_, rfl⟩
   rw [hK]
   have hMg := mpk_get k n i K hlt hK
   have HKe : Hid ((K : Int) + 1 + 1 + 1 = ((k + 3 * (i + 1) : Nat) : Int)) := hide (by omega)
   have hK9 : K + 2 < 9000000 := by omega
   have C := hide fun v => markText (K + 2) v (by omega) (by omega)
   rw [show ((K + 2 : Nat) : Int) = (K : Int) + 1 + 1 from by omega] at C
   have k0 : wr.cell? ⟨g, i * 3, none⟩ = some (.int .i64 (K : Int)) := by rw [cell_of_row _ _ _ _ _ _ hg', ha _ (by omega)]; exact hMg.1
   have k1 : wr.cell? ⟨g, i * 3 + 1, none⟩ = some (.int .i64 ((K : Int) + 1)) := by rw [cell_of_row _ _ _ _ _ _ hg', ha _ (by omega)]; exact hMg.2.1
   have k2 : wr.cell? ⟨g, i * 3 + 2, none⟩ = some (.string (mtx (K + 2))) := by rw [cell_of_row _ _ _ _ _ _ hg', ha _ (by omega)]; exact hMg.2.2
   generalize mtx (K + 2) = M at *
   have hbs := hb.size
   have hgr : g < wr.heap.size := Nat.lt_of_lt_of_le hgl hbs
   clear hK hMg ha hg hg'
   go_wp2_with fail
   go_region_held (fun q => q.cell? ⟨g, i * 3 + 2, none⟩ = some (.string M)) (first | go_keep | (show World.cell? _ _ = _; rw [hb2.cell (p := ⟨g, i * 3 + 2, none⟩) hgr]; exact k2)) (first
    | (go_at_call 103; refine (unhide C _).mono ?_; rintro e w2 ⟨rfl, hb2⟩))
   all_goals
    go_wp2_with fail
    go_roundw
    case rel => exact ⟨i + 1, by omega, by go_num, by rw [unhide HKe], hb.trans (((Below.refl _ _).drew.trans hb2).mono hbs)⟩
    case measure => simp [intOf]; omega
  ·have e : i = n := by omega
   subst e
   have d1 : ¬ ((i : Int) < (i : Int)) := by omega
   go_wp2
   go_ret
   exact ⟨rfl, hb⟩
set_option maxHeartbeats 1000000 in
theorem markPk0 (ad : Option Addr) (cp k : Nat) (w : World) : Calls Tryz.prog 60 #[.slice ad 0 cp, .int .i64 k] w fun e w' => e = .returned (.int .i64 (k : Int)) ∧ w' = w := by
 go_enter Tryz.func60, Tryz.ntmps60
 go_wp2_with fail
 go_loopw [1, 5] (fun x y wr => x = .int .i64 (k : Int) ∧ y = .int .i64 0 ∧ wr = w) (fun _ _ _ => 0)
 case atStart => exact ⟨rfl, rfl, rfl⟩
 case round =>
  obtain ⟨rfl, rfl, rfl⟩ := hrel
  go_wp2
  go_ret
  exact ⟨rfl, rfl⟩
set_option maxHeartbeats 1000000 in
theorem heldPk0 (ad : Option Addr) (cp k : Nat) (w : World) : Calls Tryz.prog 63 #[.slice ad 0 cp, .int .i64 k] w fun e w' => e = .returned (.int .i64 (k : Int)) ∧ w' = w := by
 go_enter Tryz.func63, Tryz.ntmps63
 go_wp2_with fail
 go_loopw [1, 5] (fun x y wr => x = .int .i64 (k : Int) ∧ y = .int .i64 0 ∧ wr = w) (fun _ _ _ => 0)
 case atStart => exact ⟨rfl, rfl, rfl⟩
 case round =>
  obtain ⟨rfl, rfl, rfl⟩ := hrel
  go_wp2
  go_ret
  exact ⟨rfl, rfl⟩
theorem markPkK (v : Value) (F : List Op.Pk) (k : Nat) (w : World) (hk : 0 < k) (hF : k + 3 * F.length < 9000000) (h : HoldsP w v F) :
  Calls Tryz.prog 60 #[v, .int .i64 k] w fun e w' => e = .returned (.int .i64 ((k + 3 * F.length : Nat) : Int)) ∧ HoldsP w' v (mpk k F.length) ∧ But v.ownBlock w w' ∧ (F = [] → w' = w) := by
 by_cases hFe : F = []
 ·subst hFe
  obtain ⟨ad, cp, rfl⟩ := h.form
  exact (markPk0 ad cp k w).mono fun e w' ⟨p1, p2⟩ => ⟨p1, holdsP_nil _ _ _, p2 ▸ But.of_below (Below.refl _ _), fun _ => p2⟩
 ·rcases h with ⟨ad, cp, rfl, e0⟩ | ⟨g, cp, cur, rfl, h2, h3, h4⟩
  ·exact absurd e0 hFe
  ·refine (markPkG g cp F.length k cur w hk hF h3 h2).mono fun e w' ⟨p1, ⟨cur', q1, q2, q3⟩, p3⟩ => ⟨p1, Or.inr ⟨g, cp, cur', by rw [mpk_len], q1, by rw [mpk_len]; omega, by rw [mpk_len]; exact q3⟩, ⟨p3.os, p3.tape, p3.output, p3.size, fun b hb hne => p3.block b hb fun e => hne (by rw [e]; rfl)⟩, fun h => absurd h hFe⟩
theorem heldPkK (v : Value) (n k : Nat) (w : World) (hk : 0 < k) (hn : k + 3 * n < 9000000) (h : HoldsP w v (mpk k n)) :
  Calls Tryz.prog 63 #[v, .int .i64 k] w fun e w' => e = .returned (.int .i64 ((k + 3 * n : Nat) : Int)) ∧ Below w.heap.size w w' := by
 rcases h with ⟨ad, cp, rfl, e0⟩ | ⟨g, cp, cur, rfl, h2, h3, h4⟩
 ·have hn0 : n = 0 := by rw [← mpk_len k n, e0]; rfl
  subst hn0
  exact (heldPk0 ad cp k w).mono fun e w' ⟨p1, p2⟩ => ⟨p1, p2 ▸ Below.refl _ _⟩
 ·rw [mpk_len] at h4 ⊢
  exact heldPkG g cp n k cur w hk hn h2 h4
set_option maxHeartbeats 1000000 in
theorem eqT (v1 v2 : Value) (L : List ByteArray) (w : World) (hn : L.length ≤ 2000000) (h1 : HoldsT w v1 L) (h2 : HoldsT w v2 L) :
  Calls Tryz.prog 55 #[v1, v2] w fun e w' => e = .returned (.bool true) ∧ Below w.heap.size w w' := by
 have HA : Hid (∀ i (hi : i < L.length), (∃ g1, v1.ownBlock = some g1 ∧ (∃ cp, v1 = .slice (some ⟨g1, 0, none⟩) L.length cp) ∧ g1 < w.heap.size ∧ w.cell? ⟨g1, i, none⟩ = some (.string L[i])) ∧ ∃ g2, (∃ cp, v2 = .slice (some ⟨g2, 0, none⟩) L.length cp) ∧ g2 < w.heap.size ∧ w.cell? ⟨g2, i, none⟩ = some (.string L[i])) := by
  refine hide fun i hi => ⟨?_, ?_⟩
  ·rcases h1 with ⟨_, _, _, e⟩ | ⟨g, cp, cur, e, q1, q2, q3⟩
   ·rw [e] at hi; exact absurd hi (Nat.not_lt_zero _)
   ·exact ⟨g, by rw [e]; rfl, ⟨cp, e⟩, (Array.getElem?_eq_some_iff.1 q1).1, by rw [cell_of_row _ _ _ _ _ _ q1, q3 i hi]; exact scells_get L i _ (List.getElem?_eq_getElem hi)⟩
  ·rcases h2 with ⟨_, _, _, e⟩ | ⟨g, cp, cur, e, q1, q2, q3⟩
   ·rw [e] at hi; exact absurd hi (Nat.not_lt_zero _)
   ·exact ⟨g, ⟨cp, e⟩, (Array.getElem?_eq_some_iff.1 q1).1, by rw [cell_of_row _ _ _ _ _ _ q1, q3 i hi]; exact scells_get L i _ (List.getElem?_eq_getElem hi)⟩
 obtain ⟨a1, c1, rfl⟩ := h1.form
 obtain ⟨a2, c2, rfl⟩ := h2.form
 obtain ⟨n, hL⟩ : ∃ n, L.length = n := ⟨_, rfl⟩
 rw [hL] at hn ⊢
 clear h1 h2
 go_enter Tryz.func55, Tryz.ntmps55
 go_wp2_with fail
 go_loopw [5] (fun y wr => ∃ (i : Nat), i ≤ n ∧ y = .int .i64 i ∧ Below w.heap.size w wr) (fun y _ => n - (intOf y).toNat)
 case atStart => exact ⟨0, Nat.zero_le _, rfl, Below.refl _ _⟩
 case round =>
  obtain ⟨i, hi, rfl, hb⟩ := hrel
  by_cases hlt : i < n
  ·have d1 : (i : Int) < (n : Int) := by omega
   have d0 : (0 : Int) ≤ (i : Int) := by omega
   obtain ⟨⟨g1, _, ⟨cp1, e1⟩, hg1, k1⟩, g2, ⟨cp2, e2⟩, hg2, k2⟩ := unhide HA i (by omega)
   cases e1
   cases e2
   replace k1 := (hb.cell (p := ⟨g1, i, none⟩) hg1).trans k1
   replace k2 := (hb.cell (p := ⟨g2, i, none⟩) hg2).trans k2
   generalize L[i]'(by omega) = t at *
   have HB := hide hb
   clear hb HA
   go_wp2_with fail
   go_quiet (fail)
   go_wp2_with fail
   go_roundw
   case rel => exact ⟨i + 1, by omega, by go_num, (unhide HB).os, (unhide HB).tape, (unhide HB).output, (unhide HB).size, (unhide HB).block⟩
   case measure => simp [intOf]; omega
  ·have e : i = n := by omega
   subst e
   have d1 : ¬ ((i : Int) < (i : Int)) := by omega
   go_wp2
   go_ret
   exact ⟨rfl, hb⟩
def mtl (k n : Nat) : List ByteArray := (List.range n).map fun i => mtx (k + i)
theorem mtl_len (k n : Nat) : (mtl k n).length = n := by simp [mtl]
theorem mtl_get (k n i K : Nat) (h : i < n) (hK : k + i = K) : (scells (mtl k n))[i]? = some (.string (mtx K)) := by
 subst hK
 exact scells_get _ i _ (by simp [mtl, h])
theorem set_one (cur' : Array Value) (L : List Value) (i : Nat) (A : Value) (hi : i < cur'.size) (h1 : L[i]? = some A) (ha : ∀ j, j < i → cur'[j]? = L[j]?) : ∀ j, j < i + 1 → (cur'.setIfInBounds i A)[j]? = L[j]? := by
 intro j hj
 rw [Array.getElem?_setIfInBounds]
 by_cases e1 : i = j
 ·rw [if_pos e1, if_pos hi, ← e1, h1]
 ·rw [if_neg e1]
  exact ha j (by omega)
set_option maxHeartbeats 2000000 in
theorem markTs (g cap n k : Nat) (cur : Array Value) (w : World) (hk : 0 < k) (hn : k + n < 9000000) (hc : n ≤ cur.size) (hg : w.heap[g]? = some (.cells cur 9)) :
  Calls Tryz.prog 61 #[.slice (some ⟨g, 0, none⟩) n cap, .int .i64 k] w fun e w' => e = .returned (.int .i64 ((k + n : Nat) : Int)) ∧
   (∃ cur', w'.heap[g]? = some (.cells cur' 9) ∧ cur'.size = cur.size ∧ ∀ j, j < n → cur'[j]? = (scells (mtl k n))[j]?) ∧ Nr g w w' := by
 have hgl : g < w.heap.size := (Array.getElem?_eq_some_iff.1 hg).1
 go_enter Tryz.func61, Tryz.ntmps61
 go_wp2_with fail
 go_loopw [1, 5] (fun x y wr => ∃ (i : Nat), i ≤ n ∧ y = .int .i64 i ∧ x = .int .i64 ((k + i : Nat) : Int) ∧ (∃ cur', wr.heap[g]? = some (.cells cur' 9) ∧ cur'.size = cur.size ∧ ∀ j, j < i → cur'[j]? = (scells (mtl k n))[j]?) ∧ Nr g w wr) (fun _ y _ => n - (intOf y).toNat)
 case atStart => exact ⟨0, Nat.zero_le _, rfl, rfl, ⟨cur, hg, rfl, fun j hj => by omega⟩, Nr.refl _ _⟩
 case round =>
  obtain ⟨i, hi, rfl, rfl, ⟨cur', hg', hs', ha'⟩, hnr⟩ := hrel
  by_cases hlt : i < n
  ·have d1 : (i : Int) < (n : Int) := by omega
   have hgl' : g < wr.heap.size := Nat.lt_of_lt_of_le hgl hnr.size
   obtain ⟨K, hK⟩ : ∃ K : Nat, k + i = K := ⟨_, rfl⟩
   rw [hK]
   have HMg := hide (mtl_get k n i K hlt hK)
   have HKe : Hid ((K : Int) + 1 = ((k + (i + 1) : Nat) : Int)) := hide (by omega)
   have hK9 : K < 9000000 := by omega
   have HI : Hid (i < cur'.size) := hide (by omega)
   have C := hide fun v => markText K v (by omega) (by omega)
   generalize mtx K = M at *
   have HA := hide ha'
   have HN := hide hnr
   have HG := hide hg'
   clear ha' hnr hg' hK
   go_wp2_with fail
   refine (unhide C _).mono ?_
   rintro e w2 ⟨rfl, hb2⟩
   have hg2 := (hb2.block g hgl').trans (unhide HG)
   have HN2 := hide ((unhide HN).of_below hb2)
   obtain ⟨y1, hy1⟩ : ∃ y, w2.cell? ⟨g, i, none⟩ = some y := ⟨cur'[i]'(unhide HI), by rw [cell_of_row _ _ _ _ _ _ hg2, Array.getElem?_eq_getElem (unhide HI)]⟩
   have hf1 : w2.frozen? ⟨g, i, none⟩ = false := frz hg2 _
   have HG2 := hide hg2
   clear hg2 hb2 HG HN
   go_wp2_with fail
   go_roundw
   case rel =>
    refine ⟨i + 1, by omega, by go_num, by rw [unhide HKe], ⟨_, heap_setCell_same _ _ i _ _ _ (unhide HG2), by simp [hs'], ?_⟩, (unhide HN2).setCell i _⟩
    exact set_one cur' _ i _ (unhide HI) (unhide HMg) (unhide HA)
   case measure => simp [intOf]; omega
  ·have e : i = n := by omega
   subst e
   have d1 : ¬ ((i : Int) < (i : Int)) := by omega
   go_wp2
   go_ret
   exact ⟨rfl, ⟨cur', hg', hs', ha'⟩, hnr⟩
set_option maxHeartbeats 2000000 in
theorem heldTs (g cap n k : Nat) (cur : Array Value) (w : World) (hk : 0 < k) (hn : k + n < 9000000) (hg : w.heap[g]? = some (.cells cur 9)) (ha : ∀ j, j < n → cur[j]? = (scells (mtl k n))[j]?) :
  Calls Tryz.prog 64 #[.slice (some ⟨g, 0, none⟩) n cap, .int .i64 k] w fun e w' => e = .returned (.int .i64 ((k + n : Nat) : Int)) ∧ Below w.heap.size w w' := by
 have hgl : g < w.heap.size := (Array.getElem?_eq_some_iff.1 hg).1
 go_enter Tryz.func64, Tryz.ntmps64
 go_wp2_with fail
 go_loopw [1, 5] (fun x y wr => ∃ (i : Nat), i ≤ n ∧ y = .int .i64 i ∧ x = .int .i64 ((k + i : Nat) : Int) ∧ Below w.heap.size w wr) (fun _ y _ => n - (intOf y).toNat)
 case atStart => exact ⟨0, Nat.zero_le _, rfl, rfl, Below.refl _ _⟩
 case round =>
  obtain ⟨i, hi, rfl, rfl, hb⟩ := hrel
  by_cases hlt : i < n
  ·have d1 : (i : Int) < (n : Int) := by omega
   have d0 : (0 : Int) ≤ (i : Int) := by omega
   have hg' := (hb.block g hgl).trans hg
   obtain ⟨K, hK⟩ : ∃ K : Nat, k + i = K := ⟨_, rfl⟩
   rw [hK]
   have hMg := mtl_get k n i K hlt hK
   have HKe : Hid ((K : Int) + 1 = ((k + (i + 1) : Nat) : Int)) := hide (by omega)
   have hK9 : K < 9000000 := by omega
   have C := hide fun v => markText K v (by omega) (by omega)
   have k1 : wr.cell? ⟨g, i, none⟩ = some (.string (mtx K)) := by rw [cell_of_row _ _ _ _ _ _ hg', ha _ (by omega)]; exact hMg
   generalize mtx K = M at *
   have hbs := hb.size
   have hgr : g < wr.heap.size := Nat.lt_of_lt_of_le hgl hbs
   clear hK hMg ha hg hg'
   go_wp2_with fail
   go_region_held (fun q => q.cell? ⟨g, i, none⟩ = some (.string M)) (first | go_keep | (show World.cell? _ _ = _; rw [hb2.cell (p := ⟨g, i, none⟩) hgr]; exact k1)) (first
    | (go_at_call 103; refine (unhide C _).mono ?_; rintro e w2 ⟨rfl, hb2⟩))
   all_goals
    go_wp2_with fail
    go_roundw
    case rel => exact ⟨i + 1, by omega, by go_num, by rw [unhide HKe], hb.trans (((Below.refl _ _).drew.trans hb2).mono hbs)⟩
    case measure => simp [intOf]; omega
  ·have e : i = n := by omega
   subst e
   have d1 : ¬ ((i : Int) < (i : Int)) := by omega
   go_wp2
   go_ret
   exact ⟨rfl, hb⟩
set_option maxHeartbeats 1000000 in
theorem markT0 (ad : Option Addr) (cp k : Nat) (w : World) : Calls Tryz.prog 61 #[.slice ad 0 cp, .int .i64 k] w fun e w' => e = .returned (.int .i64 k) ∧ w' = w := by
 go_enter Tryz.func61, Tryz.ntmps61
 go_wp2_with fail
 go_loopw [1, 5] (fun x y wr => x = .int .i64 k ∧ y = .int .i64 0 ∧ wr = w) (fun _ _ _ => 0)
 case atStart => exact ⟨rfl, rfl, rfl⟩
 case round =>
  obtain ⟨rfl, rfl, rfl⟩ := hrel
  go_wp2
  go_ret
  exact ⟨rfl, rfl⟩
set_option maxHeartbeats 1000000 in
theorem heldT0 (ad : Option Addr) (cp k : Nat) (w : World) : Calls Tryz.prog 64 #[.slice ad 0 cp, .int .i64 k] w fun e w' => e = .returned (.int .i64 k) ∧ w' = w := by
 go_enter Tryz.func64, Tryz.ntmps64
 go_wp2_with fail
 go_loopw [1, 5] (fun x y wr => x = .int .i64 k ∧ y = .int .i64 0 ∧ wr = w) (fun _ _ _ => 0)
 case atStart => exact ⟨rfl, rfl, rfl⟩
 case round =>
  obtain ⟨rfl, rfl, rfl⟩ := hrel
  go_wp2
  go_ret
  exact ⟨rfl, rfl⟩
theorem markTF (v : Value) (L : List ByteArray) (k : Nat) (w : World) (hk : 0 < k) (hL : k + L.length < 9000000) (h : HoldsT w v L) :
  Calls Tryz.prog 61 #[v, .int .i64 k] w fun e w' => e = .returned (.int .i64 ((k + L.length : Nat) : Int)) ∧ HoldsT w' v (mtl k L.length) ∧ But v.ownBlock w w' ∧ (L = [] → Below w.heap.size w w') := by
 by_cases hLe : L = []
 ·subst hLe
  obtain ⟨ad, cp, rfl⟩ := h.form
  exact (markT0 ad cp k w).mono fun e w' ⟨p1, p2⟩ => ⟨p1, Or.inl ⟨ad, cp, rfl, rfl⟩, p2 ▸ But.of_below (Below.refl _ _), fun _ => p2 ▸ Below.refl _ _⟩
 ·rcases h with ⟨ad, cp, rfl, e0⟩ | ⟨g, cp, cur, rfl, h2, h3, h4⟩
  ·exact absurd e0 hLe
  ·refine (markTs g cp L.length k cur w hk hL h3 h2).mono fun e w' ⟨p1, ⟨cur', q1, q2, q3⟩, p3⟩ => ⟨p1, Or.inr ⟨g, cp, cur', by rw [mtl_len], q1, by rw [mtl_len]; omega, by rw [mtl_len]; exact q3⟩, ⟨p3.os, p3.tape, p3.output, p3.size, fun b hb hne => p3.block b hb fun e => hne (by rw [e]; rfl)⟩, fun h => absurd h hLe⟩
theorem heldTF (v : Value) (n k : Nat) (w : World) (hk : 0 < k) (hn : k + n < 9000000) (h : HoldsT w v (mtl k n)) :
  Calls Tryz.prog 64 #[v, .int .i64 k] w fun e w' => e = .returned (.int .i64 ((k + n : Nat) : Int)) ∧ Below w.heap.size w w' := by
 rcases h with ⟨ad, cp, rfl, e0⟩ | ⟨g, cp, cur, rfl, h2, h3, h4⟩
 ·have hn0 : n = 0 := by rw [← mtl_len k n, e0]; rfl
  subst hn0
  exact (heldT0 ad cp k w).mono fun e w' ⟨p1, p2⟩ => ⟨p1, p2 ▸ Below.refl _ _⟩
 ·rw [mtl_len] at h4 ⊢
  exact heldTs g cp n k cur w hk hn h2 h4
def ArgO (w : World) (v : Value) (F : List Op.Opt) : Prop :=
 (∃ a cap, v = .slice a F.length cap) ∧ ∀ i (hi : i < F.length), ∃ b o cap, v = .slice (some ⟨b, o, none⟩) F.length cap ∧ b < w.heap.size ∧ w.cell? ⟨b, o + i * 2, none⟩ = some (.int .i64 F[i].kind) ∧ w.cell? ⟨b, o + i * 2 + 1, none⟩ = some (.string F[i].data) ∧ F[i].data.size ≤ maxLen
theorem ArgO.below {w w' : World} {v : Value} {F : List Op.Opt} (h : ArgO w v F) (hb : Below w.heap.size w w') : ArgO w' v F :=
 ⟨h.1, fun i hi => by
  obtain ⟨b, o, cap, h1, h2, h3, h4, h5⟩ := h.2 i hi
  exact ⟨b, o, cap, h1, Nat.lt_of_lt_of_le h2 hb.size, (hb.cell (p := ⟨b, o + i * 2, none⟩) h2).trans h3, (hb.cell (p := ⟨b, o + i * 2 + 1, none⟩) h2).trans h4, h5⟩⟩
set_option maxHeartbeats 400000 in
theorem szO (x : Int) (t : ByteArray) (m : Nat) (w : World) (ht : t.size ≤ maxLen) (hm : m ≤ 1048576) :
  Calls Tryz.prog 99 #[.agg #[.int .i64 x, .string t], .int .i64 m] w fun e w' => e = .returned (.int .i64 (if t.size ≤ m then ((m - t.size : Nat) : Int) else -1)) ∧ Below w.heap.size w w' := by
 unfold maxLen at ht
 by_cases h : t.size ≤ m
 ·rw [if_pos h]
  have d1 : ¬ ((m : Int) - (t.size : Int) < 0) := by omega
  have e1 : (m : Int) - (t.size : Int) = ((m - t.size : Nat) : Int) := by omega
  rw [← e1]
  clear e1
  go_enter Tryz.func99, Tryz.ntmps99
  go_wp2
  all_goals first | (exfalso; omega) | (go_ret; exact ⟨rfl, (Below.refl _ _).alloc (Nat.le_refl _) _⟩)
 ·rw [if_neg h]
  have d1 : (m : Int) - (t.size : Int) < 0 := by omega
  go_enter Tryz.func99, Tryz.ntmps99
  go_wp2
  all_goals first | (exfalso; omega) | (go_ret; exact ⟨rfl, (Below.refl _ _).alloc (Nat.le_refl _) _⟩)
set_option maxHeartbeats 1000000 in
theorem toO (x : Int) (t : ByteArray) (w : World) :
  Calls Tryz.prog 100 #[.agg #[.int .i64 x, .string t]] w fun e w' => e = .returned (.agg #[.int .i64 x, .string t]) ∧ Below w.heap.size w w' := by
 go_enter Tryz.func100, Tryz.ntmps100
 go_wp2
 refine bodyPost_ret (v := .agg #[.int .i64 x, .string t]) (by simp [results, Tryz.results100, go_sem]) rfl ⟨rfl, ?_⟩
 exact (((Below.refl _ _).alloc (Nat.le_refl _) _).alloc (by simp) _).alloc (by simp; omega) _
theorem set_two2 (cur' : Array Value) (L : List Value) (i : Nat) (A B : Value) (hi : i * 2 + 1 < cur'.size) (h1 : L[i * 2]? = some A) (h2 : L[i * 2 + 1]? = some B) (ha : ∀ j, j < i * 2 → cur'[j]? = L[j]?) :
  ∀ j, j < (i + 1) * 2 → ((cur'.setIfInBounds (i * 2) A).setIfInBounds (i * 2 + 1) B)[j]? = L[j]? := by
 intro j hj
 rw [Array.getElem?_setIfInBounds]
 by_cases e1 : i * 2 + 1 = j
 ·rw [if_pos e1, if_pos (by simpa using hi), ← e1, h2]
 ·rw [if_neg e1, Array.getElem?_setIfInBounds]
  by_cases e2 : i * 2 = j
  ·rw [if_pos e2, if_pos (by omega), ← e2, h1]
  ·rw [if_neg e2]
   exact ha j (by omega)
set_option maxHeartbeats 2000000 in
theorem toOs (v : Value) (F : List Op.Opt) (w : World) (hn : F.length ≤ 1048576) (h : ArgO w v F) :
  Calls Tryz.prog 52 #[v] w fun e w' => ∃ u, e = .returned u ∧ HoldsO w' u F ∧ (∀ q, u.ownBlock = some q → w.heap.size ≤ q) ∧ Below w.heap.size w w' := by
 obtain ⟨i0, hi0, hz0, hz1, hz2⟩ := oinfo
 obtain ⟨va, vc, rfl⟩ := h.1
 have HA := hide h
 clear h
 obtain ⟨n, hnn⟩ : ∃ n, F.length = n := ⟨_, rfl⟩
 rw [hnn] at hn ⊢
 go_enter Tryz.func52, Tryz.ntmps52
 go_wp2_with (first
  | (at_make; refine wpList_make_full w rfl _ _ 25 rfl w.heap.size 116 i0 _ 2 Tryz.underlying25 hi0 hz0 hz1 .i64 .i64 _ _ n rfl rfl rfl rfl (by rw [hz2]; omega) (by unfold maxLen; omega) (Nat.le_refl _) ?_; rintro w1 ho1 hg1; have HO1 := hide ho1; have HG1 := hide hg1; clear ho1 hg1))
 have hb1 : Below w.heap.size w w1 := (Below.refl _ _).grown (unhide HG1) (Nat.le_refl _) (fun k hk => by cases hk)
 obtain ⟨cur, hc1, hc2⟩ : ∃ cur, w1.heap[w.heap.size]? = some (.cells cur 116) ∧ cur.size = n * 2 := by
  rcases (unhide HO1).2 with ⟨k, _⟩ | ⟨g', cap, cur, k1, _, k3, _, _, k6, _⟩
  ·cases k
  ·simp only [Value.slice.injEq, Option.some.injEq, Addr.mk.injEq, true_and, and_true] at k1
   obtain ⟨rfl, rfl⟩ := k1
   exact ⟨cur, k3, k6⟩
 have HC1 := hide hc1
 have HS := hide (And.intro hc2 hb1)
 clear HO1 HG1 hc1 hc2 hb1
 go_loopw [4] (fun y wr => ∃ (i : Nat), i ≤ n ∧ y = .int .i64 i ∧ (∃ cur', wr.heap[w.heap.size]? = some (.cells cur' 116) ∧ cur'.size = n * 2 ∧ ∀ j, j < i * 2 → cur'[j]? = (ocells F)[j]?) ∧ Below w.heap.size w wr) (fun y _ => n - (intOf y).toNat)
 case atStart => exact ⟨0, Nat.zero_le _, rfl, ⟨cur, unhide HC1, (unhide HS).1, fun j hj => by omega⟩, (unhide HS).2⟩
 case round =>
  obtain ⟨i, hi, rfl, ⟨cur', hg', hs', ha'⟩, hb⟩ := hrel
  have hbs := hb.size
  clear HC1 HS
  have hgl : w.heap.size < wr.heap.size := (Array.getElem?_eq_some_iff.1 hg').1
  by_cases hlt : i < n
  ·have e1 : (i : Int) < (n : Int) := by omega
   obtain ⟨b, o, cap, hvf, hbl, k0, k1, hsz⟩ := (unhide HA).2 i (by omega)
   have hvf' : va = some ⟨b, o, none⟩ := by
    simp only [Value.slice.injEq] at hvf
    exact hvf.1
   subst hvf'
   have hget := ocells_get F i (F[i]'(by omega)) (List.getElem?_eq_getElem (by omega))
   generalize hO : F[i]'(by omega) = op at *
   obtain ⟨kd, dt⟩ := op
   dsimp only at k0 k1 hsz hget
   have c0 := (hb.cell (p := ⟨b, o + i * 2, none⟩) hbl).trans k0
   have c1 := (hb.cell (p := ⟨b, o + i * 2 + 1, none⟩) hbl).trans k1
   have C := hide fun v => toO kd dt v
   have HGET := hide hget
   have HG' := hide hg'
   have HA' := hide ha'
   clear k0 k1 hvf hO hget hg' ha'
   go_wp2_with fail
   refine (unhide C _).mono ?_
   rintro e w2 ⟨rfl, hb2⟩
   have hg2 := (hb2.block w.heap.size hgl).trans (unhide HG')
   have hB2 := hb.trans (hb2.mono hbs)
   obtain ⟨y0, hy0⟩ : ∃ y, w2.cell? ⟨w.heap.size, i * 2, none⟩ = some y := ⟨cur'[i * 2]'(by omega), by rw [cell_of_row _ _ _ _ _ _ hg2, Array.getElem?_eq_getElem (by omega)]⟩
   obtain ⟨y1, hy1⟩ : ∃ y, w2.cell? ⟨w.heap.size, i * 2 + 1, none⟩ = some y := ⟨cur'[i * 2 + 1]'(by omega), by rw [cell_of_row _ _ _ _ _ _ hg2, Array.getElem?_eq_getElem (by omega)]⟩
   have f0 : w2.frozen? ⟨w.heap.size, i * 2, none⟩ = false := frz hg2 _
   have f1 : w2.frozen? ⟨w.heap.size, i * 2 + 1, none⟩ = false := frz hg2 _
   have HG2 := hide hg2
   clear hg2 hb2 c0 c1 C
   go_wp2
   go_roundw
   case rel =>
    refine ⟨i + 1, by omega, by go_num, ⟨_, heap_setCell_same _ _ (i * 2 + 1) _ _ _ (heap_setCell_same _ _ (i * 2) _ _ _ (unhide HG2)), by simp [hs'], ?_⟩, (hB2.setCell (p := ⟨w.heap.size, i * 2, none⟩) (Nat.le_refl _) _).setCell (p := ⟨w.heap.size, i * 2 + 1, none⟩) (Nat.le_refl _) _⟩
    exact set_two2 cur' _ i _ _ (by omega) (unhide HGET).1 (unhide HGET).2 (unhide HA')
   case measure => simp [intOf]; omega
  ·have e : i = n := by omega
   subst e
   have d1 : ¬ ((i : Int) < (i : Int)) := by omega
   have HH := hide (And.intro hg' ha')
   clear hg' ha'
   go_wp2
   go_ret
   refine ⟨_, rfl, Or.inr ⟨w.heap.size, i, cur', by rw [hnn]; rfl, (unhide HH).1, by rw [hnn]; omega, by rw [hnn]; exact (unhide HH).2⟩, ?_, hb⟩
   intro q hq
   cases hq
   exact Nat.le_refl _
end Go.Proofs.YtahpjlbaagkdoaaGreatDoor
