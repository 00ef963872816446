/- What BundleHear answers is right, in plain mathematics; no condition. The parts of a cut text, heard one behind the other over one line: they are kept till the last one comes, and then the text is got; plain mathematics, no condition but those named. The parts of a text that is cut, heard one by one over one line: what the bundle is behind each; plain mathematics. Two rows of texts compared by the law (lwTexts): those of the same texts are the same; what lay in memory stands. -/
import Derived.Test.YtfkeokfmancgiaaBdHr
import Derived.Test.YtfkeokfmancgiaaFgP
import Derived.Test.YtfkeokfmancgiaaStrRow
import Derived.Test.YtfkeokfmancgiaaInts
namespace Go.Proofs.Ytfkeokfmancgiaa
open Go.RowKit
theorem ptOk_of {F : List Fg} (h1 : F.length ≤ 40) (h2 : Ris F) (h3 : ∀ f ∈ F, fgOk f = true) : ptOk F := by
  refine ⟨h1, fun i hi => ⟨h3 _ (List.getElem_mem hi), ?_⟩⟩
  unfold preS
  split
  · have := (of_decide_eq_true (h3 _ (List.getElem_mem hi))).1.1
    omega
  · have e : F[i - 1]? = some (F[i - 1]'(by omega)) := List.getElem?_eq_getElem (by omega)
    rw [e]
    unfold Ris at h2
    rw [List.pairwise_iff_getElem] at h2
    exact h2 (i - 1) i (by omega) hi (by omega)
theorem bdOk_of {L : List Int} {F : List Fg} (h1 : lnOk L) (h2 : ptOk F) : bdOk L F = true := @decide_eq_true _ (_) ⟨h1, h2⟩
/-- A right bundle that hears a right part stays right. -/
theorem okB_right {L : List Int} {F : List Fg} {i : Nat} {f : Fg} (h : bdOk L F = true) (hf : fgOk f = true) : bdOk (okB L F i f).L (okB L F i f).F = true := by
  obtain ⟨hL, hF⟩ := bdOk_ok h
  have hfo := (of_decide_eq_true hf).1
  unfold okB
  dsimp only
  generalize minP (((L.set i f.seq)[0]?).getD 0) (L.set i f.seq) = m
  have hr := putP_ris f (ptOk_ris hF)
  have ho := putP_ok (ptOk_mem hF) hf
  have hs := settle_sub m _ (-1) (putP F f) (Nat.le_refl _)
  generalize settleP m (-1) (putP F f) = S at hs
  refine bdOk_of ⟨by rw [List.length_set]; exact hL.1, fun j hj => ?_⟩ (ptOk_of (by rw [List.length_drop]; omega) ?_ fun g hg => ho g (hs.subset (List.mem_of_mem_drop hg)))
  · rw [List.getElem_set]
    split
    · omega
    · exact hL.2 j (by rw [List.length_set] at hj; exact hj)
  · exact List.Pairwise.sublist ((List.drop_sublist _ _).trans hs) hr
theorem okB_link {L : List Int} {F : List Fg} {i : Nat} {f : Fg} (hi : i < L.length) : (okB L F i f).L[i]? = some f.seq := by
  show (L.set i f.seq)[i]? = _
  rw [List.getElem?_set_self hi]
end Go.Proofs.Ytfkeokfmancgiaa
namespace Go.Proofs.Ytfkeokfmancgiaa
open Go.RowKit
/-- One part of a cut text. -/
def partC (t : ByteArray) (s : Nat) (q : Int) (n i : Nat) : Fg := ⟨q + (i : Int), ((i : Int) == 0), ((i : Int) == (n : Int) - 1), t.extract (i * s) (min (i * s + s) t.size)⟩
theorem cutL_eq (t : ByteArray) (s : Nat) (q : Int) (n : Nat) : cutL t s q n = (List.range n).map (partC t s q n) := rfl
theorem cutL_take (t : ByteArray) (s : Nat) (q : Int) (n k : Nat) (h : k ≤ n) : (cutL t s q n).take k = (List.range k).map (partC t s q n) := by
  rw [cutL_eq, ← List.map_take, List.take_range, Nat.min_eq_left h]
/-- What goes on from a part is a run whole. -/
def Con : Fg → List Fg → Prop
  | _, [] => True
  | a, b :: l => (b.seq = a.seq + 1 ∧ a.fin = false ∧ b.beg = false) ∧ Con b l
theorem runP_con (a : Fg) (l : List Fg) (h : Con a l) : runP a l = (l, []) := by
  induction l generalizing a with
  | nil => rfl
  | cons b l ih =>
    obtain ⟨h1, h2⟩ := h
    rw [runP_yes l h1.1 h1.2.1 h1.2.2, ih b h2]
theorem con_cut (t : ByteArray) (s : Nat) (q : Int) (n : Nat) : ∀ (m i : Nat), i + m < n → Con (partC t s q n i) ((List.range' (i + 1) m).map (partC t s q n))
  | 0, i, _ => trivial
  | m + 1, i, h => by
    rw [List.range'_succ, List.map_cons]
    refine ⟨⟨?_, ?_, ?_⟩, con_cut t s q n m (i + 1) (by omega)⟩
    · show q + ((i + 1 : Nat) : Int) = q + (i : Int) + 1
      omega
    · show ((i : Int) == (n : Int) - 1) = false
      exact beq_eq_false_iff_ne.2 (by omega)
    · show (((i + 1 : Nat) : Int) == 0) = false
      exact beq_eq_false_iff_ne.2 (by omega)
theorem last_cut (t : ByteArray) (s : Nat) (q : Int) (n : Nat) : ∀ (m i : Nat), lastP (partC t s q n i) ((List.range' (i + 1) m).map (partC t s q n)) = partC t s q n (i + m)
  | 0, i => rfl
  | m + 1, i => by
    rw [List.range'_succ, List.map_cons]
    show lastP (partC t s q n (i + 1)) _ = _
    rw [last_cut t s q n m (i + 1)]
    congr 1
    omega
theorem cut_cons (t : ByteArray) (s : Nat) (q : Int) (n k : Nat) : (List.range (k + 1)).map (partC t s q n) = partC t s q n 0 :: (List.range' 1 k).map (partC t s q n) := by
  rw [List.range_eq_range', List.range'_succ, List.map_cons]
/-- What is settled of the first parts. -/
theorem cut_settle (t : ByteArray) (s : Nat) (q : Int) (n k : Nat) (hk : k < n) : settleP (q + (k : Int)) (-1) ((List.range (k + 1)).map (partC t s q n)) =
    (if k + 1 = n then ⟨[], [catP ((List.range (k + 1)).map (partC t s q n))], 0⟩ else ⟨(List.range (k + 1)).map (partC t s q n), [], 0⟩) := by
  have hr := runP_con _ _ (con_cut t s q n k 0 (by omega))
  have hl := last_cut t s q n k 0
  simp only [Nat.zero_add] at hr hl
  rw [cut_cons, settle_cons, hr]
  dsimp only
  rw [settle_nil]
  unfold soAdd
  rw [hl]
  have hb : (partC t s q n 0).beg = true := rfl
  have hs : (partC t s q n k).seq = q + (k : Int) := rfl
  have hf : (partC t s q n k).fin = ((k : Int) == (n : Int) - 1) := rfl
  rw [hb, Bool.true_and, hf]
  by_cases h : k + 1 = n
  · rw [if_pos (beq_iff_eq.2 (by omega)), if_pos h]
  · have hne : ((k : Int) == (n : Int) - 1) = false := beq_eq_false_iff_ne.2 (by omega)
    rw [if_neg (by rw [hne]; exact Bool.false_ne_true), if_neg h]
    have hd : deadP (q + (k : Int)) (-1) (partC t s q n 0) (partC t s q n k) [] = false := by
      unfold deadP
      rw [hb, hs, hf, hne]
      simp only [Bool.not_true, Bool.false_and, Bool.false_or, Bool.not_false, Bool.true_and, Bool.or_false, decide_eq_false_iff_not]
      omega
    rw [if_neg (by rw [hd]; exact Bool.false_ne_true)]
    simp
theorem ext_app (t : ByteArray) (a b c : Nat) (h1 : a ≤ b) (h2 : b ≤ c) : t.extract a b ++ t.extract b c = t.extract a c := by
  apply ByteArray.ext
  simp only [ByteArray.data_append, ByteArray.data_extract]
  rw [Array.extract_append_extract, Nat.min_eq_left h1, Nat.max_eq_right h2]
theorem cut_cat (t : ByteArray) (s : Nat) (q : Int) (n : Nat) : ∀ k, catP ((List.range k).map (partC t s q n)) = t.extract 0 (min (k * s) t.size)
  | 0 => by
    apply ByteArray.ext
    simp [catP]
  | k + 1 => by
    rw [List.range_succ, List.map_append, List.map_singleton, catP_snoc, cut_cat t s q n k]
    show _ ++ t.extract (k * s) (min (k * s + s) t.size) = _
    rw [Nat.add_mul, Nat.one_mul]
    by_cases h : k * s ≤ t.size
    · rw [Nat.min_eq_left h]
      exact ext_app t 0 (k * s) _ (Nat.zero_le _) (by omega)
    · rw [Nat.min_eq_right (by omega), Nat.min_eq_right (by omega)]
      apply ByteArray.ext
      simp only [ByteArray.data_append, ByteArray.data_extract]
      have he : t.data.extract (k * s) t.size = #[] := Array.extract_empty_of_size_le_start (by show t.size ≤ k * s; omega)
      rw [he, Array.append_empty]
theorem part_ok {t : ByteArray} {s : Nat} {q : Int} {n i : Nat} (hs : s ≤ 200) (hq : 0 ≤ q) (hn : q + (n : Int) - 1 ≤ 16777215) (hi : i < n) : fgOk (partC t s q n i) = true := by
  refine decide_eq_true ⟨⟨?_, ?_⟩, ?_⟩
  · show 0 ≤ q + (i : Int)
    omega
  · show q + (i : Int) ≤ 16777215
    omega
  · show (t.extract (i * s) (min (i * s + s) t.size)).size ≤ 200
    rw [ByteArray.size_extract]
    omega
theorem cut_ris (t : ByteArray) (s : Nat) (q : Int) (n k : Nat) : Ris ((List.range k).map (partC t s q n)) := by
  unfold Ris
  rw [List.pairwise_map]
  refine List.Pairwise.imp ?_ List.pairwise_lt_range
  intro a b h
  show q + (a : Int) < q + (b : Int)
  omega
/-- A part heard behind those ahead of it. -/
theorem cut_hear (t : ByteArray) (s : Nat) (q : Int) (n i : Nat) (pv : Int) (hs : s ≤ 200) (hq : 0 ≤ q) (h40 : n ≤ 40) (hn : q + (n : Int) - 1 ≤ 16777215) (hi : i < n) (hp : -1 ≤ pv) (hp2 : pv < q + (i : Int)) :
    hearB [pv] ((List.range i).map (partC t s q n)) 0 (partC t s q n i) = ⟨[q + (i : Int)], if i + 1 = n then [] else (List.range (i + 1)).map (partC t s q n), if i + 1 = n then [catP ((List.range n).map (partC t s q n))] else [], 0, 0⟩ := by
  have hb : bdOk [pv] ((List.range i).map (partC t s q n)) = true := by
    refine bdOk_of ⟨⟨Nat.le_refl _, by show 1 ≤ 8; decide⟩, fun j hj => ?_⟩ (ptOk_of (by rw [List.length_map, List.length_range]; omega) (cut_ris t s q n i) ?_)
    · have e : j = 0 := by simpa using hj
      subst e
      show -1 ≤ pv ∧ pv ≤ 16777215
      omega
    · intro f hf
      obtain ⟨j, hj, rfl⟩ := List.mem_map.1 hf
      exact part_ok hs hq hn (by have := List.mem_range.1 hj; omega)
  have hput : putP ((List.range i).map (partC t s q n)) (partC t s q n i) = (List.range (i + 1)).map (partC t s q n) := by
    rw [putP_end, List.range_succ, List.map_append, List.map_singleton]
    intro g hg
    obtain ⟨j, hj, rfl⟩ := List.mem_map.1 hg
    have := List.mem_range.1 hj
    show q + (j : Int) < q + (i : Int)
    omega
  have hm : minP (q + (i : Int)) [q + (i : Int)] = q + (i : Int) := by
    show min (q + (i : Int)) (q + (i : Int)) = _
    omega
  unfold hearB
  rw [if_pos ⟨hb, part_ok hs hq hn hi, Int.le_refl _, by show (0 : Int) < ((1 : Nat) : Int); omega⟩]
  rw [if_neg (by show ¬ (q + (i : Int) ≤ pv); omega)]
  unfold okB
  dsimp only
  have hset : ([pv].set (0 : Int).toNat (partC t s q n i).seq) = [q + (i : Int)] := rfl
  rw [hset, hput]
  show (⟨[q + (i : Int)], _, _, _, 0⟩ : BO) = _
  have hg : ([q + (i : Int)][0]?).getD 0 = q + (i : Int) := rfl
  rw [hg, hm, cut_settle t s q n i hi]
  by_cases h : i + 1 = n
  · rw [if_pos h, if_pos h, if_pos h, h]
    rfl
  · rw [if_neg h, if_neg h, if_neg h]
    dsimp only
    have hl : ((List.range (i + 1)).map (partC t s q n)).length - 40 = 0 := by rw [List.length_map, List.length_range]; omega
    rw [hl]
    rfl
end Go.Proofs.Ytfkeokfmancgiaa
namespace Go.Proofs.Ytfkeokfmancgiaa
open Go.RowKit
/-- The number that the line has had behind the first i parts. -/
def pvC (q : Int) : Nat → Int
  | 0 => -1
  | i + 1 => q + (i : Int)
/-- The parts that wait behind the first i. -/
def ctP (F : List Fg) (i : Nat) : List Fg := if i = F.length then [] else F.take i
/-- The texts that are got behind the first i. -/
def ctG (t : ByteArray) (F : List Fg) (i : Nat) : List ByteArray := if i = F.length ∧ 0 < i then [t] else []
theorem ctG_succ (t : ByteArray) (F : List Fg) (i : Nat) (h : i < F.length) : ctG t F (i + 1) = ctG t F i ++ (if i + 1 = F.length then [t] else []) := by
  unfold ctG
  rw [if_neg (show ¬ (i = F.length ∧ 0 < i) by omega), List.nil_append]
  by_cases e : i + 1 = F.length
  · rw [if_pos ⟨e, by omega⟩, if_pos e]
  · rw [if_neg (fun h => e h.1), if_neg e]
theorem cut_len {L s : Nat} (hs : 1 ≤ s) : L ≤ cnt L s * s := by
  unfold cnt
  have h1 : (L + s - 1) / s * s + s > L + s - 1 := by
    have := Nat.div_add_mod (L + s - 1) s
    have h2 := Nat.mod_lt (L + s - 1) hs
    rw [Nat.mul_comm] at this
    omega
  have h3 : (L + s - 1) / s * s ≤ max 1 ((L + s - 1) / s) * s := Nat.mul_le_mul_right _ (Nat.le_max_right _ _)
  omega
theorem ct_ways (t : ByteArray) (x y : Int) (h : 0 < (cutF t x y).length) : ∃ s n : Nat, 1 ≤ s ∧ s ≤ 200 ∧ 0 ≤ y ∧ n ≤ 40 ∧ y + (n : Int) - 1 ≤ 16777215 ∧ t.size ≤ n * s ∧ cutF t x y = cutL t s y n := by
  unfold cutF at h ⊢
  by_cases h1 : cutOk t x y
  · rw [if_pos h1] at h ⊢
    by_cases h2 : cnt t.size x.toNat ≤ 40 ∧ y + (cnt t.size x.toNat : Nat) - 1 ≤ 16777215
    · rw [if_pos h2]
      obtain ⟨_, hz, hq⟩ := h1
      exact ⟨x.toNat, cnt t.size x.toNat, by omega, by omega, hq.1, h2.1, h2.2, cut_len (by omega), rfl⟩
    · rw [if_neg h2] at h
      exact absurd h (by simp)
  · rw [if_neg h1] at h
    exact absurd h (by simp)
theorem ct_round (t : ByteArray) (x y : Int) (i : Nat) (hi : i < (cutF t x y).length) :
    fgOk ((cutF t x y)[i]'hi) = true ∧ (cutF t x y).length ≤ 40 ∧ hearB [pvC y i] (ctP (cutF t x y) i) 0 ((cutF t x y)[i]'hi) = ⟨[pvC y (i + 1)], ctP (cutF t x y) (i + 1), if i + 1 = (cutF t x y).length then [t] else [], 0, 0⟩ := by
  obtain ⟨s, n, s1, s2, y0, n4, yn, ht, e⟩ := ct_ways t x y (by omega)
  have hl : (cutF t x y).length = n := by rw [e, cutL_len]
  rw [hl] at hi
  have hg : (cutF t x y)[i]'(by omega) = partC t s y n i := by
    have := cutL_get t s y n i hi
    rw [← e, List.getElem?_eq_getElem (by omega)] at this
    exact Option.some.inj this
  rw [hg, hl]
  refine ⟨part_ok s2 y0 yn hi, n4, ?_⟩
  have hP : ctP (cutF t x y) i = (List.range i).map (partC t s y n) := by
    unfold ctP
    rw [hl, if_neg (by omega), e, cutL_take t s y n i (by omega)]
  have hp : -1 ≤ pvC y i ∧ pvC y i < y + (i : Int) := by
    cases i with
    | zero => exact ⟨Int.le_refl _, by show (-1 : Int) < _; omega⟩
    | succ j => exact ⟨by show (-1 : Int) ≤ y + (j : Int); omega, by show y + (j : Int) < _; omega⟩
  rw [hP, cut_hear t s y n i (pvC y i) s2 y0 n4 yn hi hp.1 hp.2]
  congr 1
  · unfold ctP
    rw [hl]
    by_cases e1 : i + 1 = n
    · rw [if_pos e1, if_pos e1]
    · rw [if_neg e1, if_neg e1, e, cutL_take t s y n (i + 1) (by omega)]
  · by_cases e1 : i + 1 = n
    · rw [if_pos e1, if_pos e1, cut_cat, Nat.min_eq_right ht]
      congr 1
      simp
    · rw [if_neg e1, if_neg e1]
end Go.Proofs.Ytfkeokfmancgiaa
namespace Go.Proofs.Ytfkeokfmancgiaa
open Go.RowKit
set_option maxHeartbeats 1000000 in
theorem lwT (v1 v2 : Value) (L : List ByteArray) (w : World) (hn : L.length ≤ 2000000) (h1 : HoldsT w v1 L) (h2 : HoldsT w v2 L) :
    Calls Try.prog 19 #[v1, v2] w fun e w' => e = .returned (.bool true) ∧ Below w.heap.size w w' := by
  have HA : Hid (∀ i (hi : i < L.length), (∃ g1, v1.ownBlock = some g1 ∧ (∃ cp, v1 = .slice (some ⟨g1, 0, none⟩) L.length cp) ∧ g1 < w.heap.size ∧ w.cell? ⟨g1, i, none⟩ = some (.string L[i])) ∧ ∃ g2, (∃ cp, v2 = .slice (some ⟨g2, 0, none⟩) L.length cp) ∧ g2 < w.heap.size ∧ w.cell? ⟨g2, i, none⟩ = some (.string L[i])) := by
    refine hide fun i hi => ⟨?_, ?_⟩
    · rcases h1 with ⟨_, _, _, e⟩ | ⟨g, cp, cur, e, q1, q2, q3⟩
      · rw [e] at hi; exact absurd hi (Nat.not_lt_zero _)
      · exact ⟨g, by rw [e]; rfl, ⟨cp, e⟩, (Array.getElem?_eq_some_iff.1 q1).1, by rw [cell_of_row _ _ _ _ _ _ q1, q3 i hi]; exact scells_get L i _ (List.getElem?_eq_getElem hi)⟩
    · rcases h2 with ⟨_, _, _, e⟩ | ⟨g, cp, cur, e, q1, q2, q3⟩
      · rw [e] at hi; exact absurd hi (Nat.not_lt_zero _)
      · exact ⟨g, ⟨cp, e⟩, (Array.getElem?_eq_some_iff.1 q1).1, by rw [cell_of_row _ _ _ _ _ _ q1, q3 i hi]; exact scells_get L i _ (List.getElem?_eq_getElem hi)⟩
  obtain ⟨a1, c1, rfl⟩ := h1.form
  obtain ⟨a2, c2, rfl⟩ := h2.form
  obtain ⟨n, hL⟩ : ∃ n, L.length = n := ⟨_, rfl⟩
  rw [hL] at hn ⊢
  clear h1 h2
  go_enter Try.func19, Try.ntmps19
  go_wp2_with fail
  go_loopw [5] (fun y wr => ∃ (i : Nat), i ≤ n ∧ y = .int .i64 i ∧ Below w.heap.size w wr) (fun y _ => n - (intOf y).toNat)
  case atStart => exact ⟨0, Nat.zero_le _, rfl, Below.refl _ _⟩
  case round =>
    obtain ⟨i, hi, rfl, hb⟩ := hrel
    by_cases hlt : i < n
    · have d1 : (i : Int) < (n : Int) := by omega
      have d0 : (0 : Int) ≤ (i : Int) := by omega
      obtain ⟨⟨g1, _, ⟨cp1, e1⟩, hg1, k1⟩, g2, ⟨cp2, e2⟩, hg2, k2⟩ := unhide HA i (by omega)
      cases e1
      cases e2
      replace k1 := (hb.cell (p := ⟨g1, i, none⟩) hg1).trans k1
      replace k2 := (hb.cell (p := ⟨g2, i, none⟩) hg2).trans k2
      generalize L[i]'(by omega) = t at *
      have HB := hide hb
      clear hb HA
      go_wp2_with fail
      go_quiet (fail)
      go_wp2_with fail
      go_roundw
      case rel => exact ⟨i + 1, by omega, by go_num, (unhide HB).os, (unhide HB).tape, (unhide HB).output, (unhide HB).size, (unhide HB).block⟩
      case measure => simp [intOf]; omega
    · have e : i = n := by omega
      subst e
      have d1 : ¬ ((i : Int) < (i : Int)) := by omega
      go_wp2
      go_ret
      exact ⟨rfl, hb⟩
end Go.Proofs.Ytfkeokfmancgiaa
