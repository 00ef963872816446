/- What BundleHear answers is right, in plain mathematics; no condition. The parts of a cut text, heard one behind the other over one line: they are kept till the last one comes, and then the text is got; plain mathematics, no condition but those named. Parts of several texts, number by number, of which some are there: what is settled of them: what is got is the whole of one of the texts, none twice; and where each number that can come no more has come, nothing is lost; plain mathematics. Parts of several texts heard over several lines, each line's in their order: what the bundle is behind each; nothing but whole texts is got, none twice; and all of them, where no part was lost; plain mathematics. The parts of a text that is cut, heard one by one over one line: what the bundle is behind each; plain mathematics. Texts that are cut one behind the other, their numbers going on: their parts are blocks as Blk asks; how the hearing begins; plain mathematics. Parts laid on several lines, some of them lost: what each line has; how the hearing begins, and that it comes to its end; plain mathematics. -/
import Derived.Test.YtfkeokfmancgiaaBdHr
import Derived.Test.YtfkeokfmancgiaaFgP
namespace Go.Proofs.Ytfkeokfmancgiaa
open Go.RowKit
theorem ptOk_of {F : List Fg} (h1 : F.length ≤ 40) (h2 : Ris F) (h3 : ∀ f ∈ F, fgOk f = true) : ptOk F := by
  refine ⟨h1, fun i hi => ⟨h3 _ (List.getElem_mem hi), ?_⟩⟩
  unfold preS
  split
  · have := (of_decide_eq_true (h3 _ (List.getElem_mem hi))).1.1
    omega
  · have e : F[i - 1]? = some (F[i - 1]'(by omega)) := List.getElem?_eq_getElem (by omega)
    rw [e]
    unfold Ris at h2
    rw [List.pairwise_iff_getElem] at h2
    exact h2 (i - 1) i (by omega) hi (by omega)
theorem bdOk_of {L : List Int} {F : List Fg} (h1 : lnOk L) (h2 : ptOk F) : bdOk L F = true := @decide_eq_true _ (_) ⟨h1, h2⟩
/-- A right bundle that hears a right part stays right. -/
theorem okB_right {L : List Int} {F : List Fg} {i : Nat} {f : Fg} (h : bdOk L F = true) (hf : fgOk f = true) : bdOk (okB L F i f).L (okB L F i f).F = true := by
  obtain ⟨hL, hF⟩ := bdOk_ok h
  have hfo := (of_decide_eq_true hf).1
  unfold okB
  dsimp only
  generalize minP (((L.set i f.seq)[0]?).getD 0) (L.set i f.seq) = m
  have hr := putP_ris f (ptOk_ris hF)
  have ho := putP_ok (ptOk_mem hF) hf
  have hs := settle_sub m _ (-1) (putP F f) (Nat.le_refl _)
  generalize settleP m (-1) (putP F f) = S at hs
  refine bdOk_of ⟨by rw [List.length_set]; exact hL.1, fun j hj => ?_⟩ (ptOk_of (by rw [List.length_drop]; omega) ?_ fun g hg => ho g (hs.subset (List.mem_of_mem_drop hg)))
  · rw [List.getElem_set]
    split
    · omega
    · exact hL.2 j (by rw [List.length_set] at hj; exact hj)
  · exact List.Pairwise.sublist ((List.drop_sublist _ _).trans hs) hr
theorem okB_link {L : List Int} {F : List Fg} {i : Nat} {f : Fg} (hi : i < L.length) : (okB L F i f).L[i]? = some f.seq := by
  show (L.set i f.seq)[i]? = _
  rw [List.getElem?_set_self hi]
end Go.Proofs.Ytfkeokfmancgiaa
namespace Go.Proofs.Ytfkeokfmancgiaa
open Go.RowKit
/-- One part of a cut text. -/
def partC (t : ByteArray) (s : Nat) (q : Int) (n i : Nat) : Fg := ⟨q + (i : Int), ((i : Int) == 0), ((i : Int) == (n : Int) - 1), t.extract (i * s) (min (i * s + s) t.size)⟩
theorem cutL_eq (t : ByteArray) (s : Nat) (q : Int) (n : Nat) : cutL t s q n = (List.range n).map (partC t s q n) := rfl
theorem cutL_take (t : ByteArray) (s : Nat) (q : Int) (n k : Nat) (h : k ≤ n) : (cutL t s q n).take k = (List.range k).map (partC t s q n) := by
  rw [cutL_eq, ← List.map_take, List.take_range, Nat.min_eq_left h]
/-- What goes on from a part is a run whole. -/
def Con : Fg → List Fg → Prop
  | _, [] => True
  | a, b :: l => (b.seq = a.seq + 1 ∧ a.fin = false ∧ b.beg = false) ∧ Con b l
theorem runP_con (a : Fg) (l : List Fg) (h : Con a l) : runP a l = (l, []) := by
  induction l generalizing a with
  | nil => rfl
  | cons b l ih =>
    obtain ⟨h1, h2⟩ := h
    rw [runP_yes l h1.1 h1.2.1 h1.2.2, ih b h2]
theorem con_cut (t : ByteArray) (s : Nat) (q : Int) (n : Nat) : ∀ (m i : Nat), i + m < n → Con (partC t s q n i) ((List.range' (i + 1) m).map (partC t s q n))
  | 0, i, _ => trivial
  | m + 1, i, h => by
    rw [List.range'_succ, List.map_cons]
    refine ⟨⟨?_, ?_, ?_⟩, con_cut t s q n m (i + 1) (by omega)⟩
    · show q + ((i + 1 : Nat) : Int) = q + (i : Int) + 1
      omega
    · show ((i : Int) == (n : Int) - 1) = false
      exact beq_eq_false_iff_ne.2 (by omega)
    · show (((i + 1 : Nat) : Int) == 0) = false
      exact beq_eq_false_iff_ne.2 (by omega)
theorem last_cut (t : ByteArray) (s : Nat) (q : Int) (n : Nat) : ∀ (m i : Nat), lastP (partC t s q n i) ((List.range' (i + 1) m).map (partC t s q n)) = partC t s q n (i + m)
  | 0, i => rfl
  | m + 1, i => by
    rw [List.range'_succ, List.map_cons]
    show lastP (partC t s q n (i + 1)) _ = _
    rw [last_cut t s q n m (i + 1)]
    congr 1
    omega
theorem cut_cons (t : ByteArray) (s : Nat) (q : Int) (n k : Nat) : (List.range (k + 1)).map (partC t s q n) = partC t s q n 0 :: (List.range' 1 k).map (partC t s q n) := by
  rw [List.range_eq_range', List.range'_succ, List.map_cons]
/-- What is settled of the first parts. -/
theorem cut_settle (t : ByteArray) (s : Nat) (q : Int) (n k : Nat) (hk : k < n) : settleP (q + (k : Int)) (-1) ((List.range (k + 1)).map (partC t s q n)) =
    (if k + 1 = n then ⟨[], [catP ((List.range (k + 1)).map (partC t s q n))], 0⟩ else ⟨(List.range (k + 1)).map (partC t s q n), [], 0⟩) := by
  have hr := runP_con _ _ (con_cut t s q n k 0 (by omega))
  have hl := last_cut t s q n k 0
  simp only [Nat.zero_add] at hr hl
  rw [cut_cons, settle_cons, hr]
  dsimp only
  rw [settle_nil]
  unfold soAdd
  rw [hl]
  have hb : (partC t s q n 0).beg = true := rfl
  have hs : (partC t s q n k).seq = q + (k : Int) := rfl
  have hf : (partC t s q n k).fin = ((k : Int) == (n : Int) - 1) := rfl
  rw [hb, Bool.true_and, hf]
  by_cases h : k + 1 = n
  · rw [if_pos (beq_iff_eq.2 (by omega)), if_pos h]
  · have hne : ((k : Int) == (n : Int) - 1) = false := beq_eq_false_iff_ne.2 (by omega)
    rw [if_neg (by rw [hne]; exact Bool.false_ne_true), if_neg h]
    have hd : deadP (q + (k : Int)) (-1) (partC t s q n 0) (partC t s q n k) [] = false := by
      unfold deadP
      rw [hb, hs, hf, hne]
      simp only [Bool.not_true, Bool.false_and, Bool.false_or, Bool.not_false, Bool.true_and, Bool.or_false, decide_eq_false_iff_not]
      omega
    rw [if_neg (by rw [hd]; exact Bool.false_ne_true)]
    simp
theorem ext_app (t : ByteArray) (a b c : Nat) (h1 : a ≤ b) (h2 : b ≤ c) : t.extract a b ++ t.extract b c = t.extract a c := by
  apply ByteArray.ext
  simp only [ByteArray.data_append, ByteArray.data_extract]
  rw [Array.extract_append_extract, Nat.min_eq_left h1, Nat.max_eq_right h2]
theorem cut_cat (t : ByteArray) (s : Nat) (q : Int) (n : Nat) : ∀ k, catP ((List.range k).map (partC t s q n)) = t.extract 0 (min (k * s) t.size)
  | 0 => by
    apply ByteArray.ext
    simp [catP]
  | k + 1 => by
    rw [List.range_succ, List.map_append, List.map_singleton, catP_snoc, cut_cat t s q n k]
    show _ ++ t.extract (k * s) (min (k * s + s) t.size) = _
    rw [Nat.add_mul, Nat.one_mul]
    by_cases h : k * s ≤ t.size
    · rw [Nat.min_eq_left h]
      exact ext_app t 0 (k * s) _ (Nat.zero_le _) (by omega)
    · rw [Nat.min_eq_right (by omega), Nat.min_eq_right (by omega)]
      apply ByteArray.ext
      simp only [ByteArray.data_append, ByteArray.data_extract]
      have he : t.data.extract (k * s) t.size = #[] := Array.extract_empty_of_size_le_start (by show t.size ≤ k * s; omega)
      rw [he, Array.append_empty]
theorem part_ok {t : ByteArray} {s : Nat} {q : Int} {n i : Nat} (hs : s ≤ 200) (hq : 0 ≤ q) (hn : q + (n : Int) - 1 ≤ 16777215) (hi : i < n) : fgOk (partC t s q n i) = true := by
  refine decide_eq_true ⟨⟨?_, ?_⟩, ?_⟩
  · show 0 ≤ q + (i : Int)
    omega
  · show q + (i : Int) ≤ 16777215
    omega
  · show (t.extract (i * s) (min (i * s + s) t.size)).size ≤ 200
    rw [ByteArray.size_extract]
    omega
theorem cut_ris (t : ByteArray) (s : Nat) (q : Int) (n k : Nat) : Ris ((List.range k).map (partC t s q n)) := by
  unfold Ris
  rw [List.pairwise_map]
  refine List.Pairwise.imp ?_ List.pairwise_lt_range
  intro a b h
  show q + (a : Int) < q + (b : Int)
  omega
/-- A part heard behind those ahead of it. -/
theorem cut_hear (t : ByteArray) (s : Nat) (q : Int) (n i : Nat) (pv : Int) (hs : s ≤ 200) (hq : 0 ≤ q) (h40 : n ≤ 40) (hn : q + (n : Int) - 1 ≤ 16777215) (hi : i < n) (hp : -1 ≤ pv) (hp2 : pv < q + (i : Int)) :
    hearB [pv] ((List.range i).map (partC t s q n)) 0 (partC t s q n i) = ⟨[q + (i : Int)], if i + 1 = n then [] else (List.range (i + 1)).map (partC t s q n), if i + 1 = n then [catP ((List.range n).map (partC t s q n))] else [], 0, 0⟩ := by
  have hb : bdOk [pv] ((List.range i).map (partC t s q n)) = true := by
    refine bdOk_of ⟨⟨Nat.le_refl _, by show 1 ≤ 8; decide⟩, fun j hj => ?_⟩ (ptOk_of (by rw [List.length_map, List.length_range]; omega) (cut_ris t s q n i) ?_)
    · have e : j = 0 := by simpa using hj
      subst e
      show -1 ≤ pv ∧ pv ≤ 16777215
      omega
    · intro f hf
      obtain ⟨j, hj, rfl⟩ := List.mem_map.1 hf
      exact part_ok hs hq hn (by have := List.mem_range.1 hj; omega)
  have hput : putP ((List.range i).map (partC t s q n)) (partC t s q n i) = (List.range (i + 1)).map (partC t s q n) := by
    rw [putP_end, List.range_succ, List.map_append, List.map_singleton]
    intro g hg
    obtain ⟨j, hj, rfl⟩ := List.mem_map.1 hg
    have := List.mem_range.1 hj
    show q + (j : Int) < q + (i : Int)
    omega
  have hm : minP (q + (i : Int)) [q + (i : Int)] = q + (i : Int) := by
    show min (q + (i : Int)) (q + (i : Int)) = _
    omega
  unfold hearB
  rw [if_pos ⟨hb, part_ok hs hq hn hi, Int.le_refl _, by show (0 : Int) < ((1 : Nat) : Int); omega⟩]
  rw [if_neg (by show ¬ (q + (i : Int) ≤ pv); omega)]
  unfold okB
  dsimp only
  have hset : ([pv].set (0 : Int).toNat (partC t s q n i).seq) = [q + (i : Int)] := rfl
  rw [hset, hput]
  show (⟨[q + (i : Int)], _, _, _, 0⟩ : BO) = _
  have hg : ([q + (i : Int)][0]?).getD 0 = q + (i : Int) := rfl
  rw [hg, hm, cut_settle t s q n i hi]
  by_cases h : i + 1 = n
  · rw [if_pos h, if_pos h, if_pos h, h]
    rfl
  · rw [if_neg h, if_neg h, if_neg h]
    dsimp only
    have hl : ((List.range (i + 1)).map (partC t s q n)).length - 40 = 0 := by rw [List.length_map, List.length_range]; omega
    rw [hl]
    rfl
end Go.Proofs.Ytfkeokfmancgiaa
namespace Go.Proofs.Ytfkeokfmancgiaa
open Go.RowKit
/-- Blocks of parts, one behind the other: each is whole, and their numbers go on. -/
structure Blk (Bs : List (List Fg)) : Prop where
  inj : ∀ x ∈ Bs.flatten, ∀ y ∈ Bs.flatten, x.seq = y.seq → x = y
  whole : ∀ B ∈ Bs, ∃ a r, B = a :: r ∧ a.beg = true ∧ Con a r ∧ (lastP a r).fin = true
  link : ∀ x ∈ Bs.flatten, ∀ y ∈ Bs.flatten, y.seq = x.seq + 1 → x.fin = y.beg
  prev : ∀ x ∈ Bs.flatten, x.beg = false → ∃ w ∈ Bs.flatten, w.seq + 1 = x.seq
  next : ∀ x ∈ Bs.flatten, x.fin = false → ∃ w ∈ Bs.flatten, w.seq = x.seq + 1
  low : ∀ x ∈ Bs.flatten, 0 ≤ x.seq
  dj : ∀ (i j : Nat) (x : Fg), x ∈ (Bs[i]?).getD [] → x ∈ (Bs[j]?).getD [] → i = j
theorem run_con (a : Fg) (l : List Fg) : Con a (runP a l).1 := by
  induction l generalizing a with
  | nil => exact trivial
  | cons b l ih =>
    unfold runP
    split
    · rename_i h
      exact ⟨h, ih b⟩
    · exact trivial
theorem run_stop (a : Fg) (l : List Fg) (b : Fg) (t : List Fg) (h : (runP a l).2 = b :: t) : ¬ (b.seq = (lastP a (runP a l).1).seq + 1 ∧ (lastP a (runP a l).1).fin = false ∧ b.beg = false) := by
  induction l generalizing a with
  | nil => simp [runP] at h
  | cons c l ih =>
    unfold runP at h ⊢
    split at h
    · rename_i hc
      rw [if_pos hc]
      exact ih c h
    · rename_i hc
      rw [if_neg hc]
      simp only [List.cons.injEq] at h
      obtain ⟨rfl, _⟩ := h
      exact hc
theorem con_beg {a : Fg} {r : List Fg} (h : Con a r) : ∀ x ∈ r, x.beg = false := by
  induction r generalizing a with
  | nil => intro x hx; cases hx
  | cons b r ih =>
    intro x hx
    rcases List.mem_cons.1 hx with rfl | hx
    · exact h.1.2.2
    · exact ih h.2 x hx
theorem lastP_mem (a : Fg) (r : List Fg) : lastP a r ∈ a :: r := by
  induction r generalizing a with
  | nil => exact List.mem_cons_self
  | cons b r ih => exact List.mem_cons_of_mem _ (ih b)
theorem con_uniq {W : List Fg} (inj : ∀ x ∈ W, ∀ y ∈ W, x.seq = y.seq → x = y) : ∀ (r r' : List Fg) (a : Fg), Con a r → Con a r' → (∀ x ∈ r, x ∈ W) → (∀ x ∈ r', x ∈ W) → (lastP a r).fin = true → (lastP a r').fin = true → r = r'
  | [], [], _, _, _, _, _, _, _ => rfl
  | [], b :: r', a, _, h', _, _, e, _ => by
    have := h'.1.2.1
    have e' : a.fin = true := e
    rw [e'] at this
    cases this
  | b :: r, [], a, h, _, _, _, _, e => by
    have := h.1.2.1
    have e' : a.fin = true := e
    rw [e'] at this
    cases this
  | b :: r, c :: r', a, h, h', w, w', e, e' => by
    have hbc : b = c := inj b (w b List.mem_cons_self) c (w' c List.mem_cons_self) (h.1.1.trans h'.1.1.symm)
    subst hbc
    rw [con_uniq inj r r' b h.2 h'.2 (fun x hx => w x (List.mem_cons_of_mem _ hx)) (fun x hx => w' x (List.mem_cons_of_mem _ hx)) e e']
/-- A whole run is a block. -/
theorem whole_blk {Bs : List (List Fg)} (hB : Blk Bs) {a : Fg} {r : List Fg} (ha : a.beg = true) (hc : Con a r) (hf : (lastP a r).fin = true) (hw : ∀ x ∈ a :: r, x ∈ Bs.flatten) : ∃ i, ∃ h : i < Bs.length, Bs[i] = a :: r := by
  obtain ⟨B, hBm, haB⟩ := List.mem_flatten.1 (hw a List.mem_cons_self)
  obtain ⟨a0, r0, rfl, h1, h2, h3⟩ := hB.whole B hBm
  have e : a = a0 := by
    rcases List.mem_cons.1 haB with rfl | h
    · rfl
    · have := con_beg h2 a h
      rw [ha] at this
      cases this
  subst e
  have hr := con_uniq hB.inj r r0 a hc h2 (fun x hx => hw x (List.mem_cons_of_mem _ hx)) (fun x hx => List.mem_flatten.2 ⟨_, hBm, List.mem_cons_of_mem _ hx⟩) hf h3
  subst hr
  obtain ⟨i, hi, he⟩ := List.getElem_of_mem hBm
  exact ⟨i, hi, he⟩
/-- What is got of parts that stand by their numbers: whole blocks, none twice, and their parts stay no more. -/
theorem settle_got {Bs : List (List Fg)} (hB : Blk Bs) (m : Int) : ∀ (n : Nat) (before : Int) (l : List Fg), l.length ≤ n → Ris l → (∀ x ∈ l, x ∈ Bs.flatten) →
    ∃ GI : List Nat, (settleP m before l).got = GI.map (fun i => catP (Bs[i]?.getD [])) ∧ GI.Nodup ∧ (∀ i ∈ GI, i < Bs.length ∧ ∀ x ∈ Bs[i]?.getD [], x ∈ l ∧ x ∉ (settleP m before l).stay) ∧ ((settleP m before l).lost = 0 → ∀ x ∈ l, x ∈ (settleP m before l).stay ∨ ∃ i ∈ GI, x ∈ Bs[i]?.getD [])
  | n, before, [], _, _, _ => by
    rw [settle_nil]
    exact ⟨[], rfl, List.nodup_nil, (fun i hi => by cases hi), fun _ x hx => by cases hx⟩
  | 0, before, a :: l, h, _, _ => by simp at h
  | n + 1, before, a :: l, h, hr, hw => by
    have hl := runP_len a l
    have happ : a :: l = (a :: (runP a l).1) ++ (runP a l).2 := by rw [List.cons_append, runP_app]
    have hr2 : Ris (a :: (runP a l).1 ++ (runP a l).2) := by rw [← happ]; exact hr
    obtain ⟨hp1, hp2, hp3⟩ := List.pairwise_append.1 hr2
    obtain ⟨GI, e1, e2, e3, e4⟩ := settle_got hB m n (lastP a (runP a l).1).seq (runP a l).2 (by simp at h; omega) hp2 (fun x hx => hw x (by rw [happ]; exact List.mem_append_right _ hx))
    have hcon := run_con a l
    have hsub := settle_sub m _ (lastP a (runP a l).1).seq (runP a l).2 (Nat.le_refl _)
    have hno : ∀ x ∈ a :: (runP a l).1, x ∉ (runP a l).2 := fun x hx hx2 => by have := hp3 x hx x hx2; omega
    rw [settle_cons]
    unfold soAdd
    split
    · rename_i hbf
      rw [Bool.and_eq_true] at hbf
      obtain ⟨i, hi, he⟩ := whole_blk hB hbf.1 hcon hbf.2 (fun x hx => hw x (by rw [happ]; exact List.mem_append_left _ hx))
      have hg : Bs[i]?.getD [] = a :: (runP a l).1 := by rw [List.getElem?_eq_getElem hi, he]; rfl
      refine ⟨i :: GI, by rw [List.map_cons, hg, e1], List.nodup_cons.2 ⟨fun hin => ?_, e2⟩, fun j hj => ?_, fun h0 x hx => ?_⟩
      · have := ((e3 i hin).2 a (by rw [hg]; exact List.mem_cons_self)).1
        exact hno a List.mem_cons_self this
      · rcases List.mem_cons.1 hj with rfl | hj
        · refine ⟨hi, fun x hx => ?_⟩
          rw [hg] at hx
          exact ⟨by rw [happ]; exact List.mem_append_left _ hx, fun hs => hno x hx (hsub.subset hs)⟩
        · obtain ⟨q1, q2⟩ := e3 j hj
          exact ⟨q1, fun x hx => ⟨by rw [happ]; exact List.mem_append_right _ (q2 x hx).1, (q2 x hx).2⟩⟩
      · rw [happ] at hx
        rcases List.mem_append.1 hx with hx | hx
        · exact Or.inr ⟨i, List.mem_cons_self, by rw [hg]; exact hx⟩
        · rcases e4 h0 x hx with hs | ⟨j, hj, hxj⟩
          · exact Or.inl hs
          · exact Or.inr ⟨j, List.mem_cons_of_mem _ hj, hxj⟩
    · split
      · refine ⟨GI, e1, e2, fun j hj => ?_, fun h0 => by simp at h0⟩
        obtain ⟨q1, q2⟩ := e3 j hj
        exact ⟨q1, fun x hx => ⟨by rw [happ]; exact List.mem_append_right _ (q2 x hx).1, (q2 x hx).2⟩⟩
      · refine ⟨GI, e1, e2, fun j hj => ?_, fun h0 x hx => ?_⟩
        · obtain ⟨q1, q2⟩ := e3 j hj
          refine ⟨q1, fun x hx => ⟨by rw [happ]; exact List.mem_append_right _ (q2 x hx).1, fun hs => ?_⟩⟩
          rcases List.mem_append.1 hs with hs | hs
          · exact hno x hs (q2 x hx).1
          · exact (q2 x hx).2 hs
        · rw [happ] at hx
          rcases List.mem_append.1 hx with hx | hx
          · exact Or.inl (List.mem_append_left _ hx)
          · rcases e4 h0 x hx with hs | hs
            · exact Or.inl (List.mem_append_right _ hs)
            · exact Or.inr hs
theorem lastP_split (a : Fg) (r : List Fg) : ∃ q, a :: r = q ++ [lastP a r] := by
  induction r generalizing a with
  | nil => exact ⟨[], rfl⟩
  | cons b r ih =>
    obtain ⟨q, hq⟩ := ih b
    refine ⟨a :: q, ?_⟩
    show a :: (b :: r) = a :: (q ++ [lastP b r])
    rw [← hq]
/-- What can come no more, and goes with what is there, is there. -/
def Clo (Bs : List (List Fg)) (m : Int) (l0 : List Fg) : Prop :=
  ∀ x ∈ l0, ∀ w ∈ Bs.flatten, (w.seq + 1 = x.seq ∧ x.beg = false) ∨ (w.seq = x.seq + 1 ∧ x.fin = false) → w.seq ≤ m → w ∈ l0
/-- What stands ahead ends here. -/
def Ahd (p : List Fg) (before : Int) (l : List Fg) : Prop :=
  ((p = [] ∧ before = -1) ∨ ∃ p' z, p = p' ++ [z] ∧ before = z.seq) ∧ ∀ p' z x t, p = p' ++ [z] → l = x :: t → x.seq = z.seq + 1 → x.beg = true
/-- Where each number that can come no more has come, nothing is lost. -/
theorem settle_all {Bs : List (List Fg)} (hB : Blk Bs) (m : Int) (l0 : List Fg) (hr : Ris l0) (hw : ∀ x ∈ l0, x ∈ Bs.flatten) (hcl : Clo Bs m l0) : ∀ (n : Nat) (p : List Fg) (before : Int) (l : List Fg), l.length ≤ n → l0 = p ++ l → Ahd p before l →
    (settleP m before l).lost = 0 ∧ ∀ x ∈ l, x ∈ (settleP m before l).stay ∨ ∃ B ∈ Bs, x ∈ B ∧ catP B ∈ (settleP m before l).got ∧ ∀ y ∈ B, y ∈ l ∧ y ∉ (settleP m before l).stay
  | n, p, before, [], _, _, _ => by
    rw [settle_nil]
    exact ⟨rfl, fun x hx => by cases hx⟩
  | 0, p, before, a :: l, h, _, _ => by simp at h
  | n + 1, p, before, a :: l, h, he, hA => by
    have hl := runP_len a l
    have happ : a :: l = (a :: (runP a l).1) ++ (runP a l).2 := by rw [List.cons_append, runP_app]
    have he2 : l0 = (p ++ (a :: (runP a l).1)) ++ (runP a l).2 := by rw [he, happ, List.append_assoc]
    obtain ⟨q, hq⟩ := lastP_split a (runP a l).1
    have hzm : lastP a (runP a l).1 ∈ l0 := by rw [he2]; exact List.mem_append_left _ (List.mem_append_right _ (lastP_mem _ _))
    have ham : a ∈ l0 := by rw [he]; exact List.mem_append_right _ List.mem_cons_self
    have hA2 : Ahd (p ++ (a :: (runP a l).1)) (lastP a (runP a l).1).seq (runP a l).2 := by
      refine ⟨Or.inr ⟨p ++ q, lastP a (runP a l).1, by rw [hq, List.append_assoc], rfl⟩, fun p' z x t e1 e2 e3 => ?_⟩
      rw [hq, ← List.append_assoc] at e1
      obtain ⟨_, ez⟩ := List.append_inj' e1 rfl
      simp only [List.cons.injEq, and_true] at ez
      subst ez
      have hxm : x ∈ l0 := by rw [he2, e2]; exact List.mem_append_right _ List.mem_cons_self
      have hs := run_stop a l x t e2
      have hk := hB.link _ (hw _ hzm) x (hw x hxm) e3
      cases hb : x.beg
      · exact absurd ⟨e3, hk.trans hb, hb⟩ hs
      · rfl
    obtain ⟨i1, i2⟩ := settle_all hB m l0 hr hw hcl n (p ++ (a :: (runP a l).1)) (lastP a (runP a l).1).seq (runP a l).2 (by simp at h; omega) he2 hA2
    have hr0 : Ris (p ++ (a :: l)) := by rw [← he]; exact hr
    obtain ⟨hp1, hp2, hp3⟩ := List.pairwise_append.1 hr0
    have hr2 : Ris (a :: (runP a l).1 ++ (runP a l).2) := by rw [← happ]; exact hp2
    obtain ⟨hq1, hq2, hq3⟩ := List.pairwise_append.1 hr2
    have hsub := settle_sub m _ (lastP a (runP a l).1).seq (runP a l).2 (Nat.le_refl _)
    have hno : ∀ x ∈ a :: (runP a l).1, x ∉ (runP a l).2 := fun x hx hx2 => by have := hq3 x hx x hx2; omega
    have hlo : ∀ x ∈ a :: l, a.seq ≤ x.seq := fun x hx => by
      rcases List.mem_cons.1 hx with rfl | hx
      · exact Int.le_refl _
      · exact Int.le_of_lt ((List.pairwise_cons.1 hp2).1 x hx)
    -- the part ahead of a first one without a beginning
    have hD1 : a.beg = false → ¬ (a.seq - 1 ≤ m) ∧ ¬ (a.seq - 1 = before) := by
      intro hab
      have key : ∀ p' z, p = p' ++ [z] → a.seq ≠ z.seq + 1 := fun p' z e1 e2 => by
        have := hA.2 p' z a l e1 rfl e2
        rw [hab] at this
        cases this
      refine ⟨fun hm => ?_, fun hbf => ?_⟩
      · obtain ⟨w, hwW, hws⟩ := hB.prev a (hw a ham) hab
        have hw0 := hcl a ham w hwW (Or.inl ⟨hws, hab⟩) (by omega)
        rw [he] at hw0
        rcases List.mem_append.1 hw0 with hwp | hwl
        · rcases hA.1 with ⟨e, _⟩ | ⟨p', z, e, _⟩
          · rw [e] at hwp; cases hwp
          · have hza := hp3 z (by rw [e]; exact List.mem_append_right _ (List.mem_singleton.2 rfl)) a List.mem_cons_self
            rw [e] at hwp
            rcases List.mem_append.1 hwp with hw1 | hw1
            · have hrp : Ris (p' ++ [z]) := by rw [← e]; exact hp1
              have := (List.pairwise_append.1 hrp).2.2 w hw1 z (List.mem_singleton.2 rfl)
              omega
            · have ewz := List.mem_singleton.1 hw1
              subst ewz
              exact key p' w e hws.symm
        · have := hlo w hwl
          omega
      · rcases hA.1 with ⟨_, e⟩ | ⟨p', z, e, e2⟩
        · obtain ⟨w, hwW, hws⟩ := hB.prev a (hw a ham) hab
          have := hB.low w hwW
          omega
        · exact key p' z e (by omega)
    have hD2 : (lastP a (runP a l).1).fin = false → ¬ ((lastP a (runP a l).1).seq + 1 ≤ m) ∧ ∀ b t, (runP a l).2 = b :: t → ¬ (b.seq = (lastP a (runP a l).1).seq + 1) := by
      intro hzf
      have key : ∀ b t, (runP a l).2 = b :: t → ¬ (b.seq = (lastP a (runP a l).1).seq + 1) := fun b t e1 e2 => by
        have hbm : b ∈ l0 := by rw [he2, e1]; exact List.mem_append_right _ List.mem_cons_self
        have hk := hB.link _ (hw _ hzm) b (hw b hbm) e2
        exact run_stop a l b t e1 ⟨e2, hzf, hk.symm.trans hzf⟩
      refine ⟨fun hm => ?_, key⟩
      obtain ⟨w, hwW, hws⟩ := hB.next _ (hw _ hzm) hzf
      have hw0 := hcl _ hzm w hwW (Or.inr ⟨hws, hzf⟩) (by omega)
      rw [he2] at hw0
      rcases List.mem_append.1 hw0 with hwp | hwr
      · have hzl : ∀ y ∈ p ++ (a :: (runP a l).1), y.seq ≤ (lastP a (runP a l).1).seq := by
          intro y hy
          have hrr : Ris (p ++ (a :: (runP a l).1)) := by
            have : Ris ((p ++ (a :: (runP a l).1)) ++ (runP a l).2) := by rw [← he2]; exact hr
            exact (List.pairwise_append.1 this).1
          rw [hq, ← List.append_assoc] at hy hrr
          rcases List.mem_append.1 hy with hy | hy
          · exact Int.le_of_lt ((List.pairwise_append.1 hrr).2.2 y hy _ (List.mem_singleton.2 rfl))
          · rw [List.mem_singleton.1 hy]
            exact Int.le_refl _
        have := hzl w hwp
        omega
      · cases hrest : (runP a l).2 with
        | nil => rw [hrest] at hwr; cases hwr
        | cons b t =>
          have hb1 : b.seq ≤ w.seq := by
            rw [hrest] at hwr hq2
            rcases List.mem_cons.1 hwr with rfl | hwt
            · exact Int.le_refl _
            · exact Int.le_of_lt ((List.pairwise_cons.1 hq2).1 w hwt)
          have hb2 := hq3 _ (lastP_mem a (runP a l).1) b (by rw [hrest]; exact List.mem_cons_self)
          exact key b t hrest (by omega)
    have hdead : deadP m before a (lastP a (runP a l).1) (runP a l).2 = false := by
      unfold deadP
      rw [Bool.or_eq_false_iff]
      refine ⟨?_, ?_⟩
      · cases hab : a.beg
        · obtain ⟨h1, h2⟩ := hD1 hab
          simp [h1, h2]
        · rfl
      · cases hzf : (lastP a (runP a l).1).fin
        · obtain ⟨h1, h2⟩ := hD2 hzf
          cases hrest : (runP a l).2 with
          | nil => simp [h1]
          | cons b t => simp [h1, h2 b t hrest]
        · rfl
    rw [settle_cons]
    unfold soAdd
    split
    · rename_i hbf
      rw [Bool.and_eq_true] at hbf
      obtain ⟨i, hi, heq⟩ := whole_blk hB hbf.1 (run_con a l) hbf.2 (fun x hx => hw x (by rw [he2]; exact List.mem_append_left _ (List.mem_append_right _ hx)))
      refine ⟨i1, fun x hx => ?_⟩
      rw [happ] at hx
      rcases List.mem_append.1 hx with hx | hx
      · refine Or.inr ⟨a :: (runP a l).1, by rw [← heq]; exact List.getElem_mem hi, hx, List.mem_cons_self, fun y hy => ⟨by rw [happ]; exact List.mem_append_left _ hy, fun hs => hno y hy (hsub.subset hs)⟩⟩
      · rcases i2 x hx with hs | ⟨B, b1, b2, b3, b4⟩
        · exact Or.inl hs
        · exact Or.inr ⟨B, b1, b2, List.mem_cons_of_mem _ b3, fun y hy => ⟨by rw [happ]; exact List.mem_append_right _ (b4 y hy).1, (b4 y hy).2⟩⟩
    · rw [hdead]
      simp only [Bool.false_eq_true, if_false]
      refine ⟨i1, fun x hx => ?_⟩
      rw [happ] at hx
      rcases List.mem_append.1 hx with hx | hx
      · exact Or.inl (List.mem_append_left _ hx)
      · rcases i2 x hx with hs | ⟨B, b1, b2, b3, b4⟩
        · exact Or.inl (List.mem_append_right _ hs)
        · refine Or.inr ⟨B, b1, b2, b3, fun y hy => ⟨by rw [happ]; exact List.mem_append_right _ (b4 y hy).1, fun hs => ?_⟩⟩
          rcases List.mem_append.1 hs with hs | hs
          · exact hno y hs (b4 y hy).1
          · exact (b4 y hy).2 hs
theorem con_next {a : Fg} {r : List Fg} (hc : Con a r) (hl : (lastP a r).fin = true) {w : Fg} (hw : w ∈ a :: r) (hf : w.fin = false) : ∃ y ∈ r, y.seq = w.seq + 1 := by
  induction r generalizing a with
  | nil =>
    have e := List.mem_singleton.1 hw
    subst e
    have hl' : w.fin = true := hl
    rw [hf] at hl'
    cases hl'
  | cons b r ih =>
    rcases List.mem_cons.1 hw with rfl | hw
    · exact ⟨b, List.mem_cons_self, hc.1.1⟩
    · obtain ⟨y, hy, e⟩ := ih hc.2 hl hw
      exact ⟨y, List.mem_cons_of_mem _ hy, e⟩
theorem con_prev {a : Fg} {r : List Fg} (hc : Con a r) {w : Fg} (hw : w ∈ r) : ∃ y ∈ a :: r, w.seq = y.seq + 1 := by
  induction r generalizing a with
  | nil => cases hw
  | cons b r ih =>
    rcases List.mem_cons.1 hw with rfl | hw
    · exact ⟨a, List.mem_cons_self, hc.1.1⟩
    · obtain ⟨y, hy, e⟩ := ih hc.2 hw
      exact ⟨y, List.mem_cons_of_mem _ hy, e⟩
/-- What goes with a part stands in its block. -/
theorem same_next {Bs : List (List Fg)} (hB : Blk Bs) {B : List Fg} (hBm : B ∈ Bs) {w x : Fg} (hw : w ∈ B) (hx : x ∈ Bs.flatten) (e : w.seq + 1 = x.seq) (hb : x.beg = false) : x ∈ B := by
  obtain ⟨a, r, rfl, h1, h2, h3⟩ := hB.whole B hBm
  have hwf : w.fin = false := (hB.link w (List.mem_flatten.2 ⟨_, hBm, hw⟩) x hx e.symm).trans hb
  obtain ⟨y, hy, ey⟩ := con_next h2 h3 hw hwf
  have := hB.inj y (List.mem_flatten.2 ⟨_, hBm, List.mem_cons_of_mem _ hy⟩) x hx (by omega)
  rw [← this]
  exact List.mem_cons_of_mem _ hy
theorem same_prev {Bs : List (List Fg)} (hB : Blk Bs) {B : List Fg} (hBm : B ∈ Bs) {w x : Fg} (hw : w ∈ B) (hx : x ∈ Bs.flatten) (e : w.seq = x.seq + 1) (hf : x.fin = false) : x ∈ B := by
  obtain ⟨a, r, rfl, h1, h2, h3⟩ := hB.whole B hBm
  have hwb : w.beg = false := (hB.link x hx w (List.mem_flatten.2 ⟨_, hBm, hw⟩) e).symm.trans hf
  rcases List.mem_cons.1 hw with rfl | hwr
  · rw [h1] at hwb
    cases hwb
  · obtain ⟨y, hy, ey⟩ := con_prev h2 hwr
    have := hB.inj y (List.mem_flatten.2 ⟨_, hBm, hy⟩) x hx (by omega)
    rw [← this]
    exact hy
theorem con_gt {a : Fg} {r : List Fg} (h : Con a r) : ∀ x ∈ r, a.seq < x.seq := by
  induction r generalizing a with
  | nil => intro x hx; cases hx
  | cons b r ih =>
    intro x hx
    have hb := h.1.1
    rcases List.mem_cons.1 hx with rfl | hx
    · omega
    · have := ih h.2 x hx
      omega
/-- A whole block that is there is a run. -/
theorem run_blk : ∀ (l r0 : List Fg) (a : Fg), Con a r0 → (lastP a r0).fin = true → (∀ x ∈ r0, x ∈ l) → Ris (a :: l) → (runP a l).1 = r0
  | [], [], _, _, _, _, _ => rfl
  | [], b :: r0, _, _, _, h, _ => by cases h b List.mem_cons_self
  | b :: l, [], a, _, hf, _, _ => by
    have hf' : a.fin = true := hf
    unfold runP
    rw [if_neg (fun h => by rw [hf'] at h; cases h.2.1)]
  | b :: l, c :: r0, a, hc, hf, hm, hr => by
    obtain ⟨ha, hr2⟩ := List.pairwise_cons.1 hr
    obtain ⟨hb, _⟩ := List.pairwise_cons.1 hr2
    have e : c = b := by
      rcases List.mem_cons.1 (hm c List.mem_cons_self) with h | h
      · exact h
      · have h1 := hb c h
        have h2 := ha b List.mem_cons_self
        have h3 := hc.1.1
        omega
    subst e
    unfold runP
    rw [if_pos hc.1]
    show c :: (runP c l).1 = c :: r0
    rw [run_blk l r0 c hc.2 hf (fun x hx => by
      rcases List.mem_cons.1 (hm x (List.mem_cons_of_mem _ hx)) with rfl | h
      · have := con_gt hc.2 x hx
        omega
      · exact h) hr2]
/-- No whole block stays. -/
theorem settle_part {Bs : List (List Fg)} (hB : Blk Bs) (m : Int) {B : List Fg} (hBm : B ∈ Bs) : ∀ (n : Nat) (before : Int) (l : List Fg), l.length ≤ n → Ris l → ¬ ∀ y ∈ B, y ∈ (settleP m before l).stay
  | n, before, [], _, _ => by
    obtain ⟨a, r, rfl, _⟩ := hB.whole B hBm
    intro h
    have := h a List.mem_cons_self
    rw [settle_nil] at this
    cases this
  | 0, before, a :: l, h, _ => by simp at h
  | n + 1, before, a :: l, h, hr => by
    have hl := runP_len a l
    have happ : a :: l = (a :: (runP a l).1) ++ (runP a l).2 := by rw [List.cons_append, runP_app]
    have hr2 : Ris (a :: (runP a l).1 ++ (runP a l).2) := by rw [← happ]; exact hr
    obtain ⟨hq1, hq2, hq3⟩ := List.pairwise_append.1 hr2
    have ih := settle_part hB m hBm n (lastP a (runP a l).1).seq (runP a l).2 (by simp at h; omega) hq2
    have hsub := settle_sub m _ (lastP a (runP a l).1).seq (runP a l).2 (Nat.le_refl _)
    have hall := settle_sub m _ before (a :: l) (Nat.le_refl _)
    intro hY
    have hin : ∀ y ∈ B, y ∈ a :: l := fun y hy => hall.subset (hY y hy)
    rw [settle_cons] at hY
    obtain ⟨a0, r0, rfl, h1, h2, h3⟩ := hB.whole B hBm
    unfold soAdd at hY
    split at hY
    · exact ih hY
    · rename_i hnw
      split at hY
      · exact ih hY
      · have ha0 := hY a0 List.mem_cons_self
        rcases List.mem_append.1 ha0 with hm | hm
        · have e : a0 = a := by
            rcases List.mem_cons.1 hm with h | h
            · exact h
            · have := con_beg (run_con a l) a0 h
              rw [h1] at this
              cases this
          subst e
          have hrun := run_blk l r0 a0 h2 h3 (fun x hx => by
            rcases List.mem_cons.1 (hin x (List.mem_cons_of_mem _ hx)) with rfl | h
            · have := con_gt h2 x hx
              omega
            · exact h) hr
          rw [hrun, h1, h3] at hnw
          exact hnw rfl
        · refine ih fun y hy => ?_
          rcases List.mem_append.1 (hY y hy) with hs | hs
          · have hge : a0.seq ≤ y.seq := by
              rcases List.mem_cons.1 hy with rfl | hy
              · exact Int.le_refl _
              · exact Int.le_of_lt (con_gt h2 y hy)
            have := hq3 y hs a0 (hsub.subset hm)
            omega
          · exact hs
end Go.Proofs.Ytfkeokfmancgiaa
namespace Go.Proofs.Ytfkeokfmancgiaa
open Go.RowKit
/-- What has been heard, what is got, and what each line still has. -/
structure Hl (Bs : List (List Fg)) (L : List Int) (F : List Fg) (Rm : List (List Fg)) (HS : List Fg) (GI : List Nat) : Prop where
  ok : bdOk L F = true
  len : L.length = Rm.length
  rm : ∀ (k : Nat) (t : List Fg), Rm[k]? = some t → Ris t ∧ ∀ x ∈ t, x ∈ Bs.flatten ∧ x ∉ HS ∧ ∀ v : Int, L[k]? = some v → v < x.seq
  dis : ∀ (k k' : Nat) (t t' : List Fg), k ≠ k' → Rm[k]? = some t → Rm[k']? = some t' → ∀ x ∈ t, x ∉ t'
  f : ∀ x ∈ F, x ∈ HS
  hs : ∀ x ∈ HS, x ∈ Bs.flatten
  nd : GI.Nodup
  g : ∀ i ∈ GI, i < Bs.length ∧ ∀ x ∈ Bs[i]?.getD [], x ∈ HS ∧ x ∉ F
/-- Nothing was lost. -/
structure Al (Bs : List (List Fg)) (F : List Fg) (Rm : List (List Fg)) (HS : List Fg) (GI : List Nat) : Prop where
  all : ∀ w ∈ Bs.flatten, w ∈ HS ∨ ∃ (k : Nat) (t : List Fg), Rm[k]? = some t ∧ w ∈ t
  keep : ∀ x ∈ HS, x ∈ F ∨ ∃ i ∈ GI, x ∈ Bs[i]?.getD []
  part : ∀ B ∈ Bs, ¬ ∀ y ∈ B, y ∈ F
theorem minP_le_init (a : Int) (L : List Int) : minP a L ≤ a := by
  unfold minP
  induction L generalizing a with
  | nil => exact Int.le_refl _
  | cons b L ih =>
    have := ih (min a b)
    rw [List.foldl_cons]
    omega
theorem minP_le (L : List Int) (a : Int) : ∀ x ∈ L, minP a L ≤ x := by
  induction L generalizing a with
  | nil => intro x hx; cases hx
  | cons b L ih =>
    intro x hx
    show minP (min a b) L ≤ x
    rcases List.mem_cons.1 hx with rfl | hx
    · have := minP_le_init (min a x) L
      omega
    · exact ih (min a b) x hx
theorem putP_self (l : List Fg) (f : Fg) : f ∈ putP l f := by
  induction l with
  | nil => exact List.mem_cons_self
  | cons g l ih =>
    unfold putP
    split
    · exact List.mem_cons_of_mem _ ih
    · split <;> exact List.mem_cons_self
theorem putP_old {l : List Fg} {f x : Fg} (hx : x ∈ l) (hn : x.seq ≠ f.seq) : x ∈ putP l f := by
  induction l with
  | nil => cases hx
  | cons g l ih =>
    unfold putP
    split
    · rcases List.mem_cons.1 hx with rfl | hx
      · exact List.mem_cons_self
      · exact List.mem_cons_of_mem _ (ih hx)
    · split
      · rename_i e
        rcases List.mem_cons.1 hx with rfl | hx
        · exact absurd e hn
        · exact List.mem_cons_of_mem _ hx
      · exact List.mem_cons_of_mem _ hx
theorem ris_len : ∀ (l : List Fg) (lo hi : Int), Ris l → (∀ x ∈ l, lo ≤ x.seq ∧ x.seq < hi) → (l.length : Int) ≤ max 0 (hi - lo)
  | [], lo, hi, _, _ => by simp; omega
  | a :: l, lo, hi, hr, h => by
    obtain ⟨h1, h2⟩ := List.pairwise_cons.1 hr
    have ha := h a List.mem_cons_self
    have := ris_len l (a.seq + 1) hi h2 (fun x hx => ⟨by have := h1 x hx; omega, (h x (List.mem_cons_of_mem _ hx)).2⟩)
    rw [List.length_cons]
    omega
theorem Hl.hear {Bs : List (List Fg)} (hB : Blk Bs) (hok : ∀ x ∈ Bs.flatten, fgOk x = true) {L : List Int} {F : List Fg} {Rm : List (List Fg)} {HS : List Fg} {GI : List Nat} (h : Hl Bs L F Rm HS GI) {k : Nat} {f : Fg} {t : List Fg} (hk : Rm[k]? = some (f :: t)) :
    hearB L F (k : Int) f = okB L F k f ∧ ∃ GI2 : List Nat, (okB L F k f).G = GI2.map (fun i => catP (Bs[i]?.getD [])) ∧ Hl Bs (okB L F k f).L (okB L F k f).F (Rm.set k t) (f :: HS) (GI ++ GI2) ∧
      ((∀ x ∈ Bs.flatten, x.seq < 40) → Al Bs F Rm HS GI → Al Bs (okB L F k f).F (Rm.set k t) (f :: HS) (GI ++ GI2)) := by
  have hkl : k < Rm.length := (List.getElem?_eq_some_iff.1 hk).1
  obtain ⟨hris, hrm⟩ := h.rm k _ hk
  obtain ⟨hfW, hfH, hfL⟩ := hrm f List.mem_cons_self
  have hkL : k < L.length := by rw [h.len]; exact hkl
  have hLk := hfL _ (List.getElem?_eq_getElem hkL)
  obtain ⟨hft, htr⟩ := List.pairwise_cons.1 hris
  have hbd := bdOk_ok h.ok
  have hFr := ptOk_ris hbd.2
  have hfo := hok f hfW
  have hfF : ∀ x ∈ F, x.seq ≠ f.seq := fun x hx e => by
    have := hB.inj x (h.hs x (h.f x hx)) f hfW e
    exact hfH (this ▸ h.f x hx)
  have hPr := putP_ris f hFr
  have hPW : ∀ x ∈ putP F f, x ∈ Bs.flatten := fun x hx => by
    rcases putP_mem hx with rfl | hx
    · exact hfW
    · exact h.hs x (h.f x hx)
  have hPH : ∀ x ∈ putP F f, x ∈ f :: HS := fun x hx => by
    rcases putP_mem hx with rfl | hx
    · exact List.mem_cons_self
    · exact List.mem_cons_of_mem _ (h.f x hx)
  refine ⟨?_, ?_⟩
  · unfold hearB
    rw [if_pos ⟨h.ok, hfo, by omega, by omega⟩, Int.toNat_natCast, if_neg (by rw [List.getElem?_eq_getElem hkL]; show ¬ (f.seq ≤ L[k]); omega)]
  · have hright : bdOk (okB L F k f).L (okB L F k f).F = true := okB_right h.ok hfo
    obtain ⟨m, hm⟩ : ∃ m, minP (((L.set k f.seq)[0]?).getD 0) (L.set k f.seq) = m := ⟨_, rfl⟩
    obtain ⟨S, hS⟩ : ∃ S, settleP m (-1) (putP F f) = S := ⟨_, rfl⟩
    have hokB : okB L F k f = ⟨L.set k f.seq, S.stay.drop (S.stay.length - 40), S.got, S.lost + (S.stay.length - 40), 0⟩ := by
      unfold okB
      dsimp only
      rw [hm, hS]
    have hsub : S.stay.Sublist (putP F f) := by rw [← hS]; exact settle_sub m _ _ _ (Nat.le_refl _)
    obtain ⟨GI2, g1, g2, g3, g4⟩ := settle_got hB m _ (-1) (putP F f) (Nat.le_refl _) hPr hPW
    rw [hS] at g1 g3 g4
    rw [hokB] at hright ⊢
    dsimp only at hright ⊢
    have hF' : ∀ x ∈ S.stay.drop (S.stay.length - 40), x ∈ S.stay := fun x hx => List.mem_of_mem_drop hx
    have hset : (L.set k f.seq)[k]? = some f.seq := List.getElem?_set_self hkL
    have hsetn : ∀ j, j ≠ k → (L.set k f.seq)[j]? = L[j]? := fun j hj => List.getElem?_set_ne (Ne.symm hj)
    have hRk : (Rm.set k t)[k]? = some t := List.getElem?_set_self hkl
    have hRn : ∀ j, j ≠ k → (Rm.set k t)[j]? = Rm[j]? := fun j hj => List.getElem?_set_ne (Ne.symm hj)
    have hne : ∀ i, i < Bs.length → ∃ x, x ∈ Bs[i]?.getD [] := fun i hi => by
      obtain ⟨a, r, e, _⟩ := hB.whole Bs[i] (List.getElem_mem hi)
      exact ⟨a, by rw [List.getElem?_eq_getElem hi, e]; exact List.mem_cons_self⟩
    refine ⟨GI2, g1, ⟨hright, by rw [List.length_set, List.length_set]; exact h.len, ?_, ?_, ?_, ?_, ?_, ?_⟩, ?_⟩
    · intro j u hu
      by_cases e : j = k
      · subst e
        rw [hRk] at hu
        cases hu
        refine ⟨htr, fun x hx => ?_⟩
        obtain ⟨q1, q2, _⟩ := hrm x (List.mem_cons_of_mem _ hx)
        have hlt := hft x hx
        refine ⟨q1, fun hm => ?_, fun v hv => ?_⟩
        · rcases List.mem_cons.1 hm with rfl | hm
          · omega
          · exact q2 hm
        · rw [hset] at hv
          cases hv
          exact hlt
      · rw [hRn j e] at hu
        obtain ⟨q0, q⟩ := h.rm j u hu
        refine ⟨q0, fun x hx => ?_⟩
        obtain ⟨q1, q2, q3⟩ := q x hx
        refine ⟨q1, fun hm => ?_, fun v hv => ?_⟩
        · rcases List.mem_cons.1 hm with rfl | hm
          · exact h.dis j k u _ e hu hk x hx List.mem_cons_self
          · exact q2 hm
        · rw [hsetn j e] at hv
          exact q3 v hv
    · intro i j u v hij hu hv x hx hxv
      by_cases ei : i = k
      · subst ei
        rw [hRk] at hu
        cases hu
        rw [hRn j (Ne.symm hij)] at hv
        exact h.dis i j _ v hij hk hv x (List.mem_cons_of_mem _ hx) hxv
      · rw [hRn i ei] at hu
        by_cases ej : j = k
        · subst ej
          rw [hRk] at hv
          cases hv
          exact h.dis i j u _ hij hu hk x hx (List.mem_cons_of_mem _ hxv)
        · rw [hRn j ej] at hv
          exact h.dis i j u v hij hu hv x hx hxv
    · exact fun x hx => hPH x (hsub.subset (hF' x hx))
    · intro x hx
      rcases List.mem_cons.1 hx with rfl | hx
      · exact hfW
      · exact h.hs x hx
    · refine List.nodup_append.2 ⟨h.nd, g2, fun i hi j hj e => ?_⟩
      subst e
      obtain ⟨x, hx⟩ := hne i (h.g i hi).1
      obtain ⟨q1, q2⟩ := (h.g i hi).2 x hx
      rcases putP_mem ((g3 i hj).2 x hx).1 with rfl | hm
      · exact hfH q1
      · exact q2 hm
    · intro i hi
      rcases List.mem_append.1 hi with hi | hi
      · obtain ⟨q1, q2⟩ := h.g i hi
        refine ⟨q1, fun x hx => ⟨List.mem_cons_of_mem _ (q2 x hx).1, fun hm => ?_⟩⟩
        rcases putP_mem (hsub.subset (hF' x hm)) with rfl | hm
        · exact hfH (q2 x hx).1
        · exact (q2 x hx).2 hm
      · obtain ⟨q1, q2⟩ := g3 i hi
        exact ⟨q1, fun x hx => ⟨hPH x (q2 x hx).1, fun hm => (q2 x hx).2 (hF' x hm)⟩⟩
    · intro hfew hA
      have hmle : ∀ v ∈ L.set k f.seq, m ≤ v := fun v hv => by rw [← hm]; exact minP_le _ _ v hv
      have hheard : ∀ w ∈ Bs.flatten, w.seq ≤ m → w = f ∨ w ∈ HS := fun w hw hle => by
        rcases hA.all w hw with hh | ⟨j, u, hu, hwu⟩
        · exact Or.inr hh
        · by_cases e : j = k
          · subst e
            rw [hk] at hu
            cases hu
            rcases List.mem_cons.1 hwu with rfl | hwt
            · exact Or.inl rfl
            · have h1 := hft w hwt
              have h2 := hmle f.seq (List.mem_of_getElem? hset)
              omega
          · have hjl : j < L.length := by rw [h.len]; exact (List.getElem?_eq_some_iff.1 hu).1
            have h1 := ((h.rm j u hu).2 w hwu).2.2 _ (List.getElem?_eq_getElem hjl)
            have h2 := hmle (L[j]) (List.mem_of_getElem? (i := j) (by rw [hsetn j e]; exact List.getElem?_eq_getElem hjl))
            omega
      have hclo : Clo Bs m (putP F f) := by
        intro x hx w hw hadj hle
        rcases hheard w hw hle with rfl | hwH
        · exact putP_self _ _
        · rcases hA.keep w hwH with hwF | ⟨i, hi, hwi⟩
          · exact putP_old hwF (hfF w hwF)
          · exfalso
            have hil := (h.g i hi).1
            have hBi : Bs[i]?.getD [] = Bs[i] := by rw [List.getElem?_eq_getElem hil]; rfl
            rw [hBi] at hwi
            have hxi : x ∈ Bs[i] := by
              rcases hadj with ⟨e1, e2⟩ | ⟨e1, e2⟩
              · exact same_next hB (List.getElem_mem hil) hwi (hPW x hx) e1 e2
              · exact same_prev hB (List.getElem_mem hil) hwi (hPW x hx) e1 e2
            obtain ⟨q1, q2⟩ := (h.g i hi).2 x (by rw [hBi]; exact hxi)
            rcases putP_mem hx with rfl | hm
            · exact hfH q1
            · exact q2 hm
      obtain ⟨hlost, _⟩ := settle_all hB m (putP F f) hPr hPW hclo _ [] (-1) (putP F f) (Nat.le_refl _) rfl ⟨Or.inl ⟨rfl, rfl⟩, fun p' z x u e => by simp at e⟩
      rw [hS] at hlost
      have hlen : S.stay.length ≤ 40 := by
        have h1 := ris_len S.stay 0 40 (List.Pairwise.sublist hsub hPr) (fun x hx => ⟨hB.low x (hPW x (hsub.subset hx)), hfew x (hPW x (hsub.subset hx))⟩)
        omega
      have hdrop : S.stay.drop (S.stay.length - 40) = S.stay := by
        rw [show S.stay.length - 40 = 0 by omega]
        rfl
      rw [hdrop]
      refine ⟨fun w hw => ?_, fun x hx => ?_, fun B hBm => ?_⟩
      · rcases hA.all w hw with hh | ⟨j, u, hu, hwu⟩
        · exact Or.inl (List.mem_cons_of_mem _ hh)
        · by_cases e : j = k
          · subst e
            rw [hk] at hu
            cases hu
            rcases List.mem_cons.1 hwu with rfl | hwt
            · exact Or.inl List.mem_cons_self
            · exact Or.inr ⟨j, t, hRk, hwt⟩
          · exact Or.inr ⟨j, u, by rw [hRn j e]; exact hu, hwu⟩
      · have hput : ∀ y, y ∈ putP F f → y ∈ S.stay ∨ ∃ i ∈ GI ++ GI2, y ∈ Bs[i]?.getD [] := fun y hy => by
          rcases g4 hlost y hy with hs | ⟨i, hi, hyi⟩
          · exact Or.inl hs
          · exact Or.inr ⟨i, List.mem_append_right _ hi, hyi⟩
        rcases List.mem_cons.1 hx with rfl | hx
        · exact hput _ (putP_self _ _)
        · rcases hA.keep x hx with hxF | ⟨i, hi, hxi⟩
          · exact hput x (putP_old hxF (hfF x hxF))
          · exact Or.inr ⟨i, List.mem_append_left _ hi, hxi⟩
      · rw [← hS]
        exact settle_part hB m hBm _ (-1) (putP F f) (Nat.le_refl _) hPr
/-- When all is heard, and nothing was lost, all is got. -/
theorem Al.done {Bs : List (List Fg)} (hB : Blk Bs) {F : List Fg} {Rm : List (List Fg)} {HS : List Fg} {GI : List Nat} (h : Al Bs F Rm HS GI) (he : ∀ (k : Nat) (t : List Fg), Rm[k]? = some t → t = []) : ∀ i, i < Bs.length → i ∈ GI := by
  intro i hi
  have hp := h.part Bs[i] (List.getElem_mem hi)
  obtain ⟨y, hy⟩ := Classical.not_forall.1 hp
  obtain ⟨hyB, hyF⟩ := Classical.not_imp.1 hy
  have hyW : y ∈ Bs.flatten := List.mem_flatten.2 ⟨_, List.getElem_mem hi, hyB⟩
  have hyH : y ∈ HS := by
    rcases h.all y hyW with hh | ⟨k, t, e1, e2⟩
    · exact hh
    · rw [he k t e1] at e2
      cases e2
  rcases h.keep y hyH with hf | ⟨j, hj, hyj⟩
  · exact absurd hf hyF
  · have : i = j := hB.dj i j y (by rw [List.getElem?_eq_getElem hi]; exact hyB) hyj
    rw [this]
    exact hj
end Go.Proofs.Ytfkeokfmancgiaa
namespace Go.Proofs.Ytfkeokfmancgiaa
open Go.RowKit
/-- The number that the line has had behind the first i parts. -/
def pvC (q : Int) : Nat → Int
  | 0 => -1
  | i + 1 => q + (i : Int)
/-- The parts that wait behind the first i. -/
def ctP (F : List Fg) (i : Nat) : List Fg := if i = F.length then [] else F.take i
/-- The texts that are got behind the first i. -/
def ctG (t : ByteArray) (F : List Fg) (i : Nat) : List ByteArray := if i = F.length ∧ 0 < i then [t] else []
theorem ctG_succ (t : ByteArray) (F : List Fg) (i : Nat) (h : i < F.length) : ctG t F (i + 1) = ctG t F i ++ (if i + 1 = F.length then [t] else []) := by
  unfold ctG
  rw [if_neg (show ¬ (i = F.length ∧ 0 < i) by omega), List.nil_append]
  by_cases e : i + 1 = F.length
  · rw [if_pos ⟨e, by omega⟩, if_pos e]
  · rw [if_neg (fun h => e h.1), if_neg e]
theorem cut_len {L s : Nat} (hs : 1 ≤ s) : L ≤ cnt L s * s := by
  unfold cnt
  have h1 : (L + s - 1) / s * s + s > L + s - 1 := by
    have := Nat.div_add_mod (L + s - 1) s
    have h2 := Nat.mod_lt (L + s - 1) hs
    rw [Nat.mul_comm] at this
    omega
  have h3 : (L + s - 1) / s * s ≤ max 1 ((L + s - 1) / s) * s := Nat.mul_le_mul_right _ (Nat.le_max_right _ _)
  omega
theorem ct_ways (t : ByteArray) (x y : Int) (h : 0 < (cutF t x y).length) : ∃ s n : Nat, 1 ≤ s ∧ s ≤ 200 ∧ 0 ≤ y ∧ n ≤ 40 ∧ y + (n : Int) - 1 ≤ 16777215 ∧ t.size ≤ n * s ∧ cutF t x y = cutL t s y n := by
  unfold cutF at h ⊢
  by_cases h1 : cutOk t x y
  · rw [if_pos h1] at h ⊢
    by_cases h2 : cnt t.size x.toNat ≤ 40 ∧ y + (cnt t.size x.toNat : Nat) - 1 ≤ 16777215
    · rw [if_pos h2]
      obtain ⟨_, hz, hq⟩ := h1
      exact ⟨x.toNat, cnt t.size x.toNat, by omega, by omega, hq.1, h2.1, h2.2, cut_len (by omega), rfl⟩
    · rw [if_neg h2] at h
      exact absurd h (by simp)
  · rw [if_neg h1] at h
    exact absurd h (by simp)
theorem ct_round (t : ByteArray) (x y : Int) (i : Nat) (hi : i < (cutF t x y).length) :
    fgOk ((cutF t x y)[i]'hi) = true ∧ (cutF t x y).length ≤ 40 ∧ hearB [pvC y i] (ctP (cutF t x y) i) 0 ((cutF t x y)[i]'hi) = ⟨[pvC y (i + 1)], ctP (cutF t x y) (i + 1), if i + 1 = (cutF t x y).length then [t] else [], 0, 0⟩ := by
  obtain ⟨s, n, s1, s2, y0, n4, yn, ht, e⟩ := ct_ways t x y (by omega)
  have hl : (cutF t x y).length = n := by rw [e, cutL_len]
  rw [hl] at hi
  have hg : (cutF t x y)[i]'(by omega) = partC t s y n i := by
    have := cutL_get t s y n i hi
    rw [← e, List.getElem?_eq_getElem (by omega)] at this
    exact Option.some.inj this
  rw [hg, hl]
  refine ⟨part_ok s2 y0 yn hi, n4, ?_⟩
  have hP : ctP (cutF t x y) i = (List.range i).map (partC t s y n) := by
    unfold ctP
    rw [hl, if_neg (by omega), e, cutL_take t s y n i (by omega)]
  have hp : -1 ≤ pvC y i ∧ pvC y i < y + (i : Int) := by
    cases i with
    | zero => exact ⟨Int.le_refl _, by show (-1 : Int) < _; omega⟩
    | succ j => exact ⟨by show (-1 : Int) ≤ y + (j : Int); omega, by show y + (j : Int) < _; omega⟩
  rw [hP, cut_hear t s y n i (pvC y i) s2 y0 n4 yn hi hp.1 hp.2]
  congr 1
  · unfold ctP
    rw [hl]
    by_cases e1 : i + 1 = n
    · rw [if_pos e1, if_pos e1]
    · rw [if_neg e1, if_neg e1, e, cutL_take t s y n (i + 1) (by omega)]
  · by_cases e1 : i + 1 = n
    · rw [if_pos e1, if_pos e1, cut_cat, Nat.min_eq_right ht]
      congr 1
      simp
    · rw [if_neg e1, if_neg e1]
end Go.Proofs.Ytfkeokfmancgiaa
namespace Go.Proofs.Ytfkeokfmancgiaa
open Go.RowKit
/-- The parts of texts, text by text. -/
def cuts (s : Nat) : Int → List ByteArray → List (List Fg)
  | _, [] => []
  | q, t :: ts => cutL t s q (cnt t.size s) :: cuts s (q + (cnt t.size s : Nat)) ts
/-- How many they are. -/
def cutsN (s : Nat) : List ByteArray → Nat
  | [] => 0
  | t :: ts => cnt t.size s + cutsN s ts
theorem cnt_pos9 (L s : Nat) : 1 ≤ cnt L s := by unfold cnt; omega
theorem cutL_mem {t : ByteArray} {s : Nat} {q : Int} {n : Nat} {x : Fg} : x ∈ cutL t s q n ↔ ∃ i, i < n ∧ x = partC t s q n i := by
  rw [cutL_eq, List.mem_map]
  constructor
  · rintro ⟨i, hi, rfl⟩
    exact ⟨i, List.mem_range.1 hi, rfl⟩
  · rintro ⟨i, hi, rfl⟩
    exact ⟨i, List.mem_range.2 hi, rfl⟩
theorem cuts_mem {s : Nat} {q : Int} {t : ByteArray} {ts : List ByteArray} {x : Fg} : x ∈ (cuts s q (t :: ts)).flatten ↔ x ∈ cutL t s q (cnt t.size s) ∨ x ∈ (cuts s (q + (cnt t.size s : Nat)) ts).flatten := by
  show x ∈ (cutL t s q (cnt t.size s) :: cuts s (q + (cnt t.size s : Nat)) ts).flatten ↔ _
  rw [List.flatten_cons, List.mem_append]
theorem cuts_rng (s : Nat) : ∀ (ts : List ByteArray) (q : Int), ∀ x ∈ (cuts s q ts).flatten, q ≤ x.seq ∧ x.seq < q + (cutsN s ts : Nat)
  | [], q, x, hx => by cases hx
  | t :: ts, q, x, hx => by
    show q ≤ x.seq ∧ x.seq < q + ((cnt t.size s + cutsN s ts : Nat) : Int)
    rcases cuts_mem.1 hx with h | h
    · obtain ⟨i, hi, rfl⟩ := cutL_mem.1 h
      show q ≤ q + (i : Int) ∧ q + (i : Int) < _
      omega
    · have := cuts_rng s ts _ x h
      omega
theorem cuts_first (s : Nat) : ∀ (ts : List ByteArray) (q : Int), ∀ x ∈ (cuts s q ts).flatten, x.seq = q → x.beg = true
  | [], q, x, hx, _ => by cases hx
  | t :: ts, q, x, hx, e => by
    have hp := cnt_pos9 t.size s
    rcases cuts_mem.1 hx with h | h
    · obtain ⟨i, hi, rfl⟩ := cutL_mem.1 h
      have e' : q + (i : Int) = q := e
      have e0 : i = 0 := by omega
      subst e0
      rfl
    · have := cuts_rng s ts _ x h
      omega
theorem part_fin {t : ByteArray} {s : Nat} {q : Int} {n i : Nat} (_ : i < n) : (partC t s q n i).fin = decide (i + 1 = n) := by
  show ((i : Int) == (n : Int) - 1) = _
  by_cases e : i + 1 = n
  · rw [decide_eq_true e]
    exact beq_iff_eq.2 (by omega)
  · rw [decide_eq_false e]
    exact beq_eq_false_iff_ne.2 (by omega)
theorem part_beg {t : ByteArray} {s : Nat} {q : Int} {n i : Nat} : (partC t s q n i).beg = decide (i = 0) := by
  show ((i : Int) == 0) = _
  by_cases e : i = 0
  · rw [decide_eq_true e]
    exact beq_iff_eq.2 (by omega)
  · rw [decide_eq_false e]
    exact beq_eq_false_iff_ne.2 (by omega)
theorem cuts_inj (s : Nat) : ∀ (ts : List ByteArray) (q : Int), ∀ x ∈ (cuts s q ts).flatten, ∀ y ∈ (cuts s q ts).flatten, x.seq = y.seq → x = y
  | [], q, x, hx, _, _, _ => by cases hx
  | t :: ts, q, x, hx, y, hy, e => by
    rcases cuts_mem.1 hx with h | h
    · obtain ⟨i, hi, rfl⟩ := cutL_mem.1 h
      rcases cuts_mem.1 hy with k | k
      · obtain ⟨j, hj, rfl⟩ := cutL_mem.1 k
        have e' : q + (i : Int) = q + (j : Int) := e
        have : i = j := by omega
        rw [this]
      · have := cuts_rng s ts _ y k
        have e' : q + (i : Int) = y.seq := e
        omega
    · rcases cuts_mem.1 hy with k | k
      · obtain ⟨j, hj, rfl⟩ := cutL_mem.1 k
        have := cuts_rng s ts _ x h
        have e' : x.seq = q + (j : Int) := e
        omega
      · exact cuts_inj s ts _ x h y k e
theorem cuts_link (s : Nat) : ∀ (ts : List ByteArray) (q : Int), ∀ x ∈ (cuts s q ts).flatten, ∀ y ∈ (cuts s q ts).flatten, y.seq = x.seq + 1 → x.fin = y.beg
  | [], q, x, hx, _, _, _ => by cases hx
  | t :: ts, q, x, hx, y, hy, e => by
    rcases cuts_mem.1 hx with h | h
    · obtain ⟨i, hi, rfl⟩ := cutL_mem.1 h
      rcases cuts_mem.1 hy with k | k
      · obtain ⟨j, hj, rfl⟩ := cutL_mem.1 k
        have e' : q + (j : Int) = q + (i : Int) + 1 := e
        rw [part_fin hi, part_beg, decide_eq_false (show ¬ (i + 1 = cnt t.size s) by omega), decide_eq_false (show ¬ (j = 0) by omega)]
      · have hr := cuts_rng s ts _ y k
        have e' : y.seq = q + (i : Int) + 1 := e
        rw [part_fin hi, decide_eq_true (show i + 1 = cnt t.size s by omega), cuts_first s ts _ y k (by omega)]
    · rcases cuts_mem.1 hy with k | k
      · obtain ⟨j, hj, rfl⟩ := cutL_mem.1 k
        have := cuts_rng s ts _ x h
        have e' : q + (j : Int) = x.seq + 1 := e
        omega
      · exact cuts_link s ts _ x h y k e
theorem cuts_prev (s : Nat) : ∀ (ts : List ByteArray) (q : Int), ∀ x ∈ (cuts s q ts).flatten, x.beg = false → ∃ w ∈ (cuts s q ts).flatten, w.seq + 1 = x.seq
  | [], q, x, hx, _ => by cases hx
  | t :: ts, q, x, hx, hb => by
    rcases cuts_mem.1 hx with h | h
    · obtain ⟨i, hi, rfl⟩ := cutL_mem.1 h
      rw [part_beg] at hb
      have h0 : i ≠ 0 := of_decide_eq_false hb
      refine ⟨partC t s q (cnt t.size s) (i - 1), cuts_mem.2 (Or.inl (cutL_mem.2 ⟨i - 1, by omega, rfl⟩)), ?_⟩
      show q + ((i - 1 : Nat) : Int) + 1 = q + (i : Int)
      omega
    · obtain ⟨w, hw, e⟩ := cuts_prev s ts _ x h hb
      exact ⟨w, cuts_mem.2 (Or.inr hw), e⟩
theorem cuts_next (s : Nat) : ∀ (ts : List ByteArray) (q : Int), ∀ x ∈ (cuts s q ts).flatten, x.fin = false → ∃ w ∈ (cuts s q ts).flatten, w.seq = x.seq + 1
  | [], q, x, hx, _ => by cases hx
  | t :: ts, q, x, hx, hb => by
    rcases cuts_mem.1 hx with h | h
    · obtain ⟨i, hi, rfl⟩ := cutL_mem.1 h
      rw [part_fin hi] at hb
      have h0 : i + 1 ≠ cnt t.size s := of_decide_eq_false hb
      refine ⟨partC t s q (cnt t.size s) (i + 1), cuts_mem.2 (Or.inl (cutL_mem.2 ⟨i + 1, by omega, rfl⟩)), ?_⟩
      show q + ((i + 1 : Nat) : Int) = q + (i : Int) + 1
      omega
    · obtain ⟨w, hw, e⟩ := cuts_next s ts _ x h hb
      exact ⟨w, cuts_mem.2 (Or.inr hw), e⟩
theorem cuts_whole (s : Nat) : ∀ (ts : List ByteArray) (q : Int), ∀ B ∈ cuts s q ts, ∃ a r, B = a :: r ∧ a.beg = true ∧ Con a r ∧ (lastP a r).fin = true
  | [], q, B, hB => by cases hB
  | t :: ts, q, B, hB => by
    rcases List.mem_cons.1 hB with rfl | h
    · have hp := cnt_pos9 t.size s
      obtain ⟨k, hk⟩ : ∃ k, cnt t.size s = k + 1 := ⟨cnt t.size s - 1, by omega⟩
      rw [hk, cutL_eq, cut_cons]
      have hc := con_cut t s q (k + 1) k 0 (by omega)
      have hl := last_cut t s q (k + 1) k 0
      simp only [Nat.zero_add] at hc hl
      refine ⟨_, _, rfl, rfl, hc, ?_⟩
      rw [hl, part_fin (by omega), decide_eq_true rfl]
    · exact cuts_whole s ts _ B h
theorem cuts_dj (s : Nat) : ∀ (ts : List ByteArray) (q : Int) (i j : Nat) (x : Fg), x ∈ ((cuts s q ts)[i]?).getD [] → x ∈ ((cuts s q ts)[j]?).getD [] → i = j
  | [], q, i, j, x, h, _ => by cases i <;> cases h
  | t :: ts, q, i, j, x, h, k => by
    have up : ∀ m : Nat, x ∈ ((cuts s (q + (cnt t.size s : Nat)) ts)[m]?).getD [] → x ∈ (cuts s (q + (cnt t.size s : Nat)) ts).flatten := fun m hm => by
      cases e : (cuts s (q + (cnt t.size s : Nat)) ts)[m]? with
      | none => rw [e] at hm; cases hm
      | some B => rw [e] at hm; exact List.mem_flatten.2 ⟨B, List.mem_of_getElem? e, hm⟩
    cases i with
    | zero =>
      cases j with
      | zero => rfl
      | succ j =>
        obtain ⟨a, ha, rfl⟩ := cutL_mem.1 (show x ∈ cutL t s q (cnt t.size s) from h)
        have := (cuts_rng s ts _ _ (up j k)).1
        have e : (partC t s q (cnt t.size s) a).seq = q + (a : Int) := rfl
        omega
    | succ i =>
      cases j with
      | zero =>
        obtain ⟨a, ha, rfl⟩ := cutL_mem.1 (show x ∈ cutL t s q (cnt t.size s) from k)
        have := (cuts_rng s ts _ _ (up i h)).1
        have e : (partC t s q (cnt t.size s) a).seq = q + (a : Int) := rfl
        omega
      | succ j => rw [cuts_dj s ts _ i j x h k]
theorem blk_cuts (s : Nat) (ts : List ByteArray) : Blk (cuts s 0 ts) :=
  ⟨cuts_inj s ts 0, cuts_whole s ts 0, cuts_link s ts 0, cuts_prev s ts 0, cuts_next s ts 0, fun x hx => (cuts_rng s ts 0 x hx).1, cuts_dj s ts 0⟩
/-- A block's text. -/
theorem cuts_text (s : Nat) (hs : 1 ≤ s) : ∀ (ts : List ByteArray) (q : Int) (i : Nat) (h : i < ts.length), catP (((cuts s q ts)[i]?).getD []) = ts[i]
  | [], q, i, h => by cases h
  | t :: ts, q, 0, h => by
    show catP (cutL t s q (cnt t.size s)) = t
    rw [cutL_eq, cut_cat, Nat.min_eq_right (cut_len hs)]
    simp
  | t :: ts, q, i + 1, h => cuts_text s hs ts _ i (by simpa using h)
theorem cuts_len (s : Nat) : ∀ (ts : List ByteArray) (q : Int), (cuts s q ts).length = ts.length
  | [], q => rfl
  | t :: ts, q => by
    show (cuts s _ ts).length + 1 = ts.length + 1
    rw [cuts_len s ts]
theorem cuts_snoc (s : Nat) : ∀ (ts : List ByteArray) (q : Int) (t : ByteArray), cuts s q (ts ++ [t]) = cuts s q ts ++ [cutL t s (q + (cutsN s ts : Nat)) (cnt t.size s)]
  | [], q, t => by
    show [cutL t s q (cnt t.size s)] = [cutL t s (q + ((0 : Nat) : Int)) (cnt t.size s)]
    rw [show q + ((0 : Nat) : Int) = q by omega]
  | u :: ts, q, t => by
    show cutL u s q (cnt u.size s) :: cuts s (q + (cnt u.size s : Nat)) (ts ++ [t]) = _
    rw [cuts_snoc s ts]
    show _ = cutL u s q (cnt u.size s) :: (cuts s (q + (cnt u.size s : Nat)) ts ++ [cutL t s (q + ((cnt u.size s + cutsN s ts : Nat) : Int)) (cnt t.size s)])
    rw [show q + (cnt u.size s : Nat) + (cutsN s ts : Nat) = q + ((cnt u.size s + cutsN s ts : Nat) : Int) by omega]
end Go.Proofs.Ytfkeokfmancgiaa
namespace Go.Proofs.Ytfkeokfmancgiaa
open Go.RowKit
/-- How many parts the lines have. -/
def totL (Rm : List (List Fg)) : Nat := (Rm.map List.length).sum
/-- The lines, when the parts below q are laid. -/
structure Ly (W : List Fg) (q : Int) (Rm : List (List Fg)) (lost : Nat) : Prop where
  rng : ∀ x ∈ W, x.seq < q
  rm : ∀ (k : Nat) (t : List Fg), Rm[k]? = some t → Ris t ∧ ∀ x ∈ t, x ∈ W
  dis : ∀ (k k' : Nat) (t t' : List Fg), k ≠ k' → Rm[k]? = some t → Rm[k']? = some t' → ∀ x ∈ t, x ∉ t'
  all : lost = 0 → ∀ w ∈ W, ∃ (k : Nat) (t : List Fg), Rm[k]? = some t ∧ w ∈ t
  tot : totL Rm ≤ W.length
theorem totL_set : ∀ (Rm : List (List Fg)) (k : Nat) (t u : List Fg), Rm[k]? = some t → totL (Rm.set k u) + t.length = totL Rm + u.length
  | [], k, t, u, h => by cases k <;> cases h
  | a :: Rm, 0, t, u, h => by
    cases h
    simp [totL]
    omega
  | a :: Rm, k + 1, t, u, h => by
    have := totL_set Rm k t u h
    simp only [totL, List.set_cons_succ, List.map_cons, List.sum_cons] at this ⊢
    omega
theorem totL_zero : ∀ (Rm : List (List Fg)), totL Rm = 0 → ∀ (k : Nat) (t : List Fg), Rm[k]? = some t → t = []
  | [], _, k, t, h => by cases k <;> cases h
  | a :: Rm, h, 0, t, e => by
    cases e
    simp only [totL, List.map_cons, List.sum_cons] at h
    exact List.eq_nil_of_length_eq_zero (by omega)
  | a :: Rm, h, k + 1, t, e => by
    simp only [totL, List.map_cons, List.sum_cons] at h
    exact totL_zero Rm (by unfold totL; omega) k t e
theorem totL_nil : ∀ (Rm : List (List Fg)), (∀ (k : Nat) (t : List Fg), Rm[k]? = some t → t = []) → totL Rm = 0
  | [], _ => rfl
  | a :: Rm, h => by
    have ha := h 0 a rfl
    have := totL_nil Rm (fun k t e => h (k + 1) t e)
    simp only [totL, List.map_cons, List.sum_cons] at this ⊢
    rw [ha, this]
    rfl
theorem Ly.start (n : Nat) : Ly [] 0 (List.replicate n []) 0 := by
  refine ⟨(fun x hx => by cases hx), fun k t h => ?_, fun k k' t t' _ h _ x hx => ?_, (fun _ w hw => by cases hw), ?_⟩
  · rw [List.getElem?_replicate] at h
    split at h
    · cases h
      exact ⟨List.Pairwise.nil, fun x hx => by cases hx⟩
    · cases h
  · rw [List.getElem?_replicate] at h
    split at h
    · cases h
      cases hx
    · cases h
  · refine Nat.le_of_eq (totL_nil _ fun k t h => ?_)
    rw [List.getElem?_replicate] at h
    split at h
    · cases h
      rfl
    · cases h
/-- A part laid. -/
theorem Ly.put {W : List Fg} {q : Int} {Rm : List (List Fg)} {lost : Nat} (h : Ly W q Rm lost) {k : Nat} {t : List Fg} (hk : Rm[k]? = some t) {f : Fg} (hf : f.seq = q) : Ly (W ++ [f]) (q + 1) (Rm.set k (t ++ [f])) lost := by
  have hkl : k < Rm.length := (List.getElem?_eq_some_iff.1 hk).1
  have hRk : (Rm.set k (t ++ [f]))[k]? = some (t ++ [f]) := List.getElem?_set_self hkl
  have hRn : ∀ j, j ≠ k → (Rm.set k (t ++ [f]))[j]? = Rm[j]? := fun j hj => List.getElem?_set_ne (Ne.symm hj)
  have hfW : ∀ (j : Nat) (u : List Fg), Rm[j]? = some u → f ∉ u := fun j u hu hm => by
    have := h.rng f ((h.rm j u hu).2 f hm)
    omega
  refine ⟨fun x hx => ?_, fun j u hu => ?_, fun i j u v hij hu hv x hx hxv => ?_, fun h0 w hw => ?_, ?_⟩
  · rcases List.mem_append.1 hx with hx | hx
    · have := h.rng x hx
      omega
    · rw [List.mem_singleton.1 hx]
      omega
  · by_cases e : j = k
    · subst e
      rw [hRk] at hu
      cases hu
      obtain ⟨q1, q2⟩ := h.rm j t hk
      refine ⟨List.pairwise_append.2 ⟨q1, List.pairwise_singleton _ _, fun x hx y hy => ?_⟩, fun x hx => ?_⟩
      · rw [List.mem_singleton.1 hy, hf]
        exact h.rng x (q2 x hx)
      · rcases List.mem_append.1 hx with hx | hx
        · exact List.mem_append_left _ (q2 x hx)
        · exact List.mem_append_right _ hx
    · rw [hRn j e] at hu
      obtain ⟨q1, q2⟩ := h.rm j u hu
      exact ⟨q1, fun x hx => List.mem_append_left _ (q2 x hx)⟩
  · by_cases ei : i = k
    · subst ei
      rw [hRk] at hu
      cases hu
      rw [hRn j (Ne.symm hij)] at hv
      rcases List.mem_append.1 hx with hx | hx
      · exact h.dis i j t v hij hk hv x hx hxv
      · rw [List.mem_singleton.1 hx] at hxv
        exact hfW j v hv hxv
    · rw [hRn i ei] at hu
      by_cases ej : j = k
      · subst ej
        rw [hRk] at hv
        cases hv
        rcases List.mem_append.1 hxv with hxv | hxv
        · exact h.dis i j u t hij hu hk x hx hxv
        · rw [List.mem_singleton.1 hxv] at hx
          exact hfW i u hu hx
      · rw [hRn j ej] at hv
        exact h.dis i j u v hij hu hv x hx hxv
  · rcases List.mem_append.1 hw with hw | hw
    · obtain ⟨j, u, hu, hwu⟩ := h.all h0 w hw
      by_cases e : j = k
      · subst e
        rw [hk] at hu
        cases hu
        exact ⟨j, _, hRk, List.mem_append_left _ hwu⟩
      · exact ⟨j, u, by rw [hRn j e]; exact hu, hwu⟩
    · exact ⟨k, _, hRk, List.mem_append_right _ hw⟩
  · have h1 := totL_set Rm k t (t ++ [f]) hk
    have h2 := h.tot
    rw [List.length_append] at h1 ⊢
    simp only [List.length_cons, List.length_nil] at h1 ⊢
    omega
/-- A part lost. -/
theorem Ly.lose {W : List Fg} {q : Int} {Rm : List (List Fg)} {lost : Nat} (h : Ly W q Rm lost) {f : Fg} (hf : f.seq = q) : Ly (W ++ [f]) (q + 1) Rm (lost + 1) := by
  refine ⟨fun x hx => ?_, fun j u hu => ?_, h.dis, fun h0 => by omega, by have := h.tot; rw [List.length_append]; omega⟩
  · rcases List.mem_append.1 hx with hx | hx
    · have := h.rng x hx
      omega
    · rw [List.mem_singleton.1 hx]
      omega
  · obtain ⟨q1, q2⟩ := h.rm j u hu
    exact ⟨q1, fun x hx => List.mem_append_left _ (q2 x hx)⟩
/-- The hearing begins. -/
theorem Ly.hear {Bs : List (List Fg)} (hB : Blk Bs) {q : Int} {Rm : List (List Fg)} {lost : Nat} (h : Ly Bs.flatten q Rm lost) (hn : 1 ≤ Rm.length ∧ Rm.length ≤ 8) : Hl Bs (List.replicate Rm.length (-1)) [] Rm [] [] := by
  refine ⟨bdOk_of ⟨by rw [List.length_replicate]; exact hn, fun j hj => ?_⟩ (ptOk_of (Nat.zero_le _) List.Pairwise.nil fun f hf => by cases hf), by rw [List.length_replicate], fun k t hk => ⟨(h.rm k t hk).1, fun x hx => ⟨(h.rm k t hk).2 x hx, (fun hm => by cases hm), fun v hv => ?_⟩⟩, h.dis, (fun x hx => by cases hx), (fun x hx => by cases hx), List.nodup_nil, fun i hi => by cases hi⟩
  · rw [List.getElem_replicate]
    exact ⟨Int.le_refl _, by decide⟩
  · rw [List.getElem?_replicate] at hv
    split at hv
    · cases hv
      have := hB.low x ((h.rm k t hk).2 x hx)
      omega
    · cases hv
theorem Ly.all9 {Bs : List (List Fg)} (hB : Blk Bs) {q : Int} {Rm : List (List Fg)} (h : Ly Bs.flatten q Rm 0) : Al Bs [] Rm [] [] := by
  refine ⟨fun w hw => Or.inr (h.all rfl w hw), (fun x hx => by cases hx), fun B hBm hy => ?_⟩
  obtain ⟨a, r, rfl, _⟩ := hB.whole B hBm
  cases hy a List.mem_cons_self
/-- Where the hearing stands: all is heard, or not so many steps were in vain. -/
def Wait (N : Nat) (Rm : List (List Fg)) (i : Nat) : Prop := totL Rm = 0 ∨ ∃ c, c < Rm.length ∧ c ≤ i ∧ i ≤ Rm.length * (N - totL Rm) + c ∧ ∀ j, j < c → ∀ t, Rm[(i - 1 - j) % Rm.length]? = some t → t = []
theorem Wait.end {N : Nat} {Rm : List (List Fg)} (h : Wait N Rm 300) (hN : N ≤ 40) (hl : Rm.length ≤ 3) (ht : totL Rm ≤ N) : totL Rm = 0 := by
  rcases h with h | ⟨c, h1, _, h2, _⟩
  · exact h
  · exfalso
    have h3 : Rm.length * (N - totL Rm) ≤ 3 * 40 := Nat.mul_le_mul hl (by omega)
    omega
/-- A step that hears a part. -/
theorem Wait.hear {N : Nat} {Rm : List (List Fg)} {i k : Nat} {f : Fg} {t : List Fg} (h : Wait N Rm i) (hk : Rm[k]? = some (f :: t)) (ht : totL Rm ≤ N) (hl : 1 ≤ Rm.length) : Wait N (Rm.set k t) (i + 1) := by
  have h1 := totL_set Rm k (f :: t) t hk
  rw [List.length_cons] at h1
  rcases h with h | ⟨c, c1, _, c2, _⟩
  · omega
  · refine Or.inr ⟨0, by rw [List.length_set]; omega, Nat.zero_le _, ?_, fun j hj => by omega⟩
    rw [List.length_set]
    have e : N - totL (Rm.set k t) = (N - totL Rm) + 1 := by omega
    rw [e, Nat.mul_add, Nat.mul_one]
    omega
/-- A step in vain. -/
theorem Wait.vain {N : Nat} {Rm : List (List Fg)} {i : Nat} (h : Wait N Rm i) (hl : 1 ≤ Rm.length) (he : ∀ t, Rm[i % Rm.length]? = some t → t = []) : Wait N Rm (i + 1) := by
  rcases h with h | ⟨c, c1, c0, c2, c3⟩
  · exact Or.inl h
  · have step : ∀ j, j < c + 1 → ∀ t, Rm[(i + 1 - 1 - j) % Rm.length]? = some t → t = [] := by
      intro j hj t ht
      cases j with
      | zero => exact he t (by simpa using ht)
      | succ j => exact c3 j (by omega) t (by rw [show i - 1 - j = i + 1 - 1 - (j + 1) by omega]; exact ht)
    by_cases e : c + 1 < Rm.length
    · exact Or.inr ⟨c + 1, e, by omega, by omega, step⟩
    · refine Or.inl (totL_nil Rm fun k t hk => ?_)
      have hkl : k < Rm.length := (List.getElem?_eq_some_iff.1 hk).1
      -- the step at which k's turn was
      obtain ⟨j, hj, hjk⟩ : ∃ j, j < c + 1 ∧ (i - j) % Rm.length = k := by
        have hc : c + 1 = Rm.length := by omega
        have hm := Nat.mod_lt i (show 0 < Rm.length by omega)
        by_cases hle : k ≤ i % Rm.length
        · refine ⟨i % Rm.length - k, by omega, ?_⟩
          have e1 : i - (i % Rm.length - k) = Rm.length * (i / Rm.length) + k := by
            have := Nat.div_add_mod i Rm.length
            omega
          rw [e1, Nat.mul_add_mod, Nat.mod_eq_of_lt hkl]
        · by_cases hq : i / Rm.length = 0
          · exfalso
            have := Nat.div_add_mod i Rm.length
            rw [hq, Nat.mul_zero, Nat.zero_add] at this
            omega
          · refine ⟨i % Rm.length + (Rm.length - k), by omega, ?_⟩
            obtain ⟨d, hd⟩ : ∃ d, i / Rm.length = d + 1 := Nat.exists_eq_succ_of_ne_zero hq
            have e1 : i - (i % Rm.length + (Rm.length - k)) = Rm.length * d + k := by
              have h0 := Nat.div_add_mod i Rm.length
              rw [hd, Nat.mul_add, Nat.mul_one] at h0
              omega
            rw [e1, Nat.mul_add_mod, Nat.mod_eq_of_lt hkl]
      exact step j hj t (by rw [show i + 1 - 1 - j = i - j by omega, hjk]; exact hk)
theorem Wait.start (N : Nat) (Rm : List (List Fg)) (hl : 1 ≤ Rm.length) : Wait N Rm 0 := Or.inr ⟨0, by omega, Nat.le_refl _, Nat.zero_le _, fun j hj => by omega⟩
/-- All of the numbers below n, none twice: they are n. -/
theorem nodup_len : ∀ (n : Nat) (G : List Nat), G.Nodup → (∀ i ∈ G, i < n) → (∀ i, i < n → i ∈ G) → G.length = n
  | 0, G, _, h, _ => by
    cases G with
    | nil => rfl
    | cons a G => exact absurd (h a List.mem_cons_self) (Nat.not_lt_zero _)
  | n + 1, G, hd, h, ha => by
    have hn := ha n (Nat.lt_succ_self _)
    have hd2 := hd.erase n
    have := nodup_len n (G.erase n) hd2 (fun i hi => by
      have h1 := h i (List.mem_of_mem_erase hi)
      have h2 : i ≠ n := fun e => by
        subst e
        exact hd.not_mem_erase hi
      omega) (fun i hi => (List.mem_erase_of_ne (by omega)).2 (ha i (by omega)))
    rw [List.length_erase_of_mem hn] at this
    have hp : 0 < G.length := List.length_pos_of_mem hn
    omega
end Go.Proofs.Ytfkeokfmancgiaa
