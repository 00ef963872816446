/- The program's Fsm: it answers as fsmF tells; what lay in memory stands, and the answer's row is its own; its tables, and the library's table of blanks, lie as the texts lay them. -/
import Derived.Test.YtlgbigfdokdgfaaDoorEvI
import Derived.Test.YtlgbigfdokdgfaaDoorActs
import Derived.Test.YtlgbigfdokdgfaaDoorFld
namespace Go.Proofs.YtlgbigfdokdgfaaDoor
open Go.RowKit
/-- The next state at a place. -/
def nxtAt (i s : Nat) : Int := (nxtRows.getD i []).getD s 0
/-- The next states lie in the program's variable. -/
def NxT (w : World) : Prop := ∀ i s : Nat, i < 16 → s < 10 → w.cell? ⟨0, i * 10 + s, none⟩ = some (.int .i64 (nxtAt i s))
theorem NxT.below {w w' : World} (h : NxT w) (hb : Below w.heap.size w w') : NxT w' := fun i s hi hs => (hb.cell (p := ⟨0, i * 10 + s, none⟩) (World.block_lt_of_cell? _ _ (h i s hi hs))).trans (h i s hi hs)
/-- The library's table of blanks. -/
def SpT (w : World) : Prop := ∀ c : Nat, c < 256 → w.cell? ⟨2, c, none⟩ = some (.int .u8 (if Lib.isSp (UInt8.ofNat c) then 1 else 0))
theorem SpT.below {w w' : World} (h : SpT w) (hb : Below w.heap.size w w') : SpT w' := fun c hc => (hb.cell (p := ⟨2, c, none⟩) (World.block_lt_of_cell? _ _ (h c hc))).trans (h c hc)
/-- A text's words. -/
def wordsOf (t : ByteArray) : List ByteArray := (Lib.fields t.data.toList).map fun l => ⟨l.toArray⟩
theorem implFields (s : ByteArray) (w : World) (hs : s.size ≤ 30) (ha : (s.data.toList.all fun b => decide (b.toNat < 128)) = true) (hT : SpT w) :
    Calls Tryd.prog 24 #[.string s] w fun e w' => e = .returned (.slice (some ⟨w.heap.size, 0, none⟩) (wordsOf s).length (wordsOf s).length) ∧ w' = w.alloc (.cells (scells (wordsOf s)).toArray 9) := by
  refine (Any.strings_Fields_core Tryd.laysFld (by kernel_rfl) s w (by omega) (fun j b hj => of_decide_eq_true (List.all_eq_true.1 ha b (List.mem_of_getElem? hj))) hT).mono ?_
  rintro e w' ⟨rfl, rfl⟩
  refine ⟨by simp [wordsOf], ?_⟩
  simp only [wordsOf, scells, List.map_map]
  rfl
/-- The same as fsmF, by a text's bytes. -/
def rowD (t : ByteArray) : ByteArray := txt (((evRow.find? fun x => x.1 == t.data.toList).map fun x => x.2).getD [])
def fsmD (s : Nat) (t : ByteArray) : ByteArray := ((splitOf (rowD t) 44)[s]?).getD ⟨#[]⟩
def fsmG (s : Int) (t : ByteArray) : Int × List ByteArray × Int :=
  if 8000 < t.size then (0, [], 2) else if ¬ (0 ≤ s ∧ s ≤ 9) then (0, [], 5) else if rowD t = ⟨#[]⟩ then (0, [], 6) else if (fsmD s.toNat t).data.toList = [45] then (s, [], 8)
  else (((fsmD s.toNat t).data.toList.getLastD 0).toNat - 48, if 2 < (fsmD s.toNat t).size then splitOf ((fsmD s.toNat t).extract 0 ((fsmD s.toNat t).size - 2)) 32 else [], 0)
theorem fsmG_eq (s : Int) (t : ByteArray) : fsmF s t = fsmG s t := by
  unfold fsmF fsmG fsmX fsmD rowOf rowD
  simp only [ByteArray.toList_eq]
set_option maxRecDepth 100000 in
theorem places : ((List.range 16).all fun i => (List.range 10).all fun k => decide (fsmG (k : Int) (evTexts.getD i ⟨#[]⟩) = if nxtAt i k = -1 then ((k : Int), [], 8) else (nxtAt i k, wordsOf (actAt i k), 0)) && decide ((actAt i k).size ≤ 30 ∧ (wordsOf (actAt i k)).length ≤ 30) && ((actAt i k).data.toList.all fun b => decide (b.toNat < 128))) = true := by kernel_rfl
theorem place_at {i k : Nat} {t : ByteArray} (ht : evTexts[i]? = some t) (hk : k < 10) : (fsmF (k : Int) t = if nxtAt i k = -1 then ((k : Int), [], 8) else (nxtAt i k, wordsOf (actAt i k), 0)) ∧ ((actAt i k).size ≤ 30 ∧ (wordsOf (actAt i k)).length ≤ 30) ∧ ((actAt i k).data.toList.all fun b => decide (b.toNat < 128)) = true := by
  have hi : i < 16 := (List.getElem?_eq_some_iff.1 ht).1
  have h := List.all_eq_true.1 (List.all_eq_true.1 places i (List.mem_range.2 hi)) k (List.mem_range.2 hk)
  rw [Bool.and_eq_true, Bool.and_eq_true] at h
  have e : evTexts.getD i ⟨#[]⟩ = t := by rw [List.getD_eq_getElem?_getD, ht]; rfl
  rw [e] at h
  rw [fsmG_eq]
  exact ⟨of_decide_eq_true h.1.1, of_decide_eq_true h.1.2, h.2⟩
theorem rowOf_none {t : ByteArray} (h : ∀ i : Nat, evTexts[i]? ≠ some t) : rowOf t = ⟨#[]⟩ := by
  unfold rowOf
  rw [List.find?_eq_none.2 fun x hx e => ?_]
  · rfl
  · have ht : t = txt x.1 := txt_of (eq_of_beq e).symm
    obtain ⟨i, hi⟩ := List.getElem?_of_mem (List.mem_map.2 ⟨x, hx, ht.symm⟩ : t ∈ evTexts)
    exact h i hi
set_option maxHeartbeats 4000000 in
theorem implFsm (s : Int) (t : ByteArray) (w : World) (ht : t.size ≤ maxLen) (hE : EvT w) (hN : NxT w) (hS : SpT w) : Calls Tryd.prog 7 #[.int .i64 s, .string t] w fun e w' => FsmA (fsmF s t) w w' e := by
  unfold maxLen at ht
  have hr0 : (w.alloc (.cells #[.int .i64 0, .slice none 0 0, .int .i64 0] 27)).heap[w.heap.size]? = some (.cells #[.int .i64 0, .slice none 0 0, .int .i64 0] 27) := heap_alloc_last w _
  have hb0 : Below w.heap.size w (w.alloc (.cells #[.int .i64 0, .slice none 0 0, .int .i64 0] 27)) := (Below.refl _ _).alloc (Nat.le_refl _) _
  have H0 := hide (And.intro hr0 hb0)
  by_cases h1 : 8000 < t.size
  · have d1 : (8000 : Int) < (t.size : Int) := by omega
    rw [show fsmF s t = (0, [], 2) from if_pos h1]
    clear hr0 hb0
    go_enter Tryd.func7, Tryd.ntmps7
    go_wp2
    refine bodyPost_ret (v := .agg #[.int .i64 0, .slice none 0 0, .int .i64 2]) (by simp [results, Tryd.results7, go_sem]) rfl ⟨none, 0, rfl, ⟨rfl, Or.inl ⟨rfl, rfl⟩⟩, ?_⟩
    exact (Below.refl _ _).alloc (Nat.le_refl _) _
  have d1 : ¬ ((8000 : Int) < (t.size : Int)) := by omega
  by_cases h2 : ¬ (0 ≤ s ∧ s ≤ 9)
  · rw [show fsmF s t = (0, [], 5) by unfold fsmF; rw [if_neg h1, if_pos h2]]
    clear hr0 hb0
    by_cases h3 : s < 0
    · go_enter Tryd.func7, Tryd.ntmps7
      go_wp2
      refine bodyPost_ret (v := .agg #[.int .i64 0, .slice none 0 0, .int .i64 5]) (by simp [results, Tryd.results7, go_sem]) rfl ⟨none, 0, rfl, ⟨rfl, Or.inl ⟨rfl, rfl⟩⟩, ?_⟩
      exact (Below.refl _ _).alloc (Nat.le_refl _) _
    · have d2 : (10 : Int) ≤ s := by omega
      go_enter Tryd.func7, Tryd.ntmps7
      go_wp2
      refine bodyPost_ret (v := .agg #[.int .i64 0, .slice none 0 0, .int .i64 5]) (by simp [results, Tryd.results7, go_sem]) rfl ⟨none, 0, rfl, ⟨rfl, Or.inl ⟨rfl, rfl⟩⟩, ?_⟩
      exact (Below.refl _ _).alloc (Nat.le_refl _) _
  have h2' : 0 ≤ s ∧ s ≤ 9 := Classical.not_not.1 h2
  have h1' := hide h1
  have HN3 : Hid (rowOf t = ⟨#[]⟩ → fsmF s t = (0, [], 6)) := hide fun h3 => by unfold fsmF; rw [if_neg h1, if_neg h2, if_pos h3]
  obtain ⟨k, rfl⟩ : ∃ k : Nat, s = (k : Int) := ⟨s.toNat, by omega⟩
  have hk : k < 10 := by omega
  have d2 : ¬ ((k : Int) < 0) := by omega
  have d3 : ¬ ((10 : Int) ≤ (k : Int)) := by omega
  have d4 : (k : Int) < 10 := by omega
  have C1 := hide (evNum t _ (hE.below hb0))
  have HNX := hide (hN.below hb0)
  have HSP := hide (hS.below hb0)
  clear hE hN hS h1 h2 h2' hr0 hb0 h1'
  obtain ⟨R, hR⟩ : ∃ R, fsmF (k : Int) t = R := ⟨_, rfl⟩
  rw [hR] at HN3
  rw [hR]
  have HR := hide hR
  clear hR
  go_enter Tryd.func7, Tryd.ntmps7
  go_wp2_with fail
  refine (unhide C1).mono ?_
  rintro e w1 ⟨hw, ⟨i, hi, rfl⟩ | ⟨hn, rfl⟩⟩
  · subst hw
    have hi16 : i < 16 := (List.getElem?_eq_some_iff.1 hi).1
    obtain ⟨hF, ⟨hz, hzl⟩, hascii⟩ := place_at hi hk
    have c1 := unhide HNX i k hi16 hk
    have d5 : (i : Int) < 16 := by omega
    rw [unhide HR] at hF
    clear HR
    have CA := hide fun v => implActs i k hi16 hk v
    have CF := hide fun v => implFields (actAt i k) v hz hascii
    clear hi hz hascii HN3 HNX C1
    generalize wordsOf (actAt i k) = F at *
    generalize actAt i k = ta at *
    generalize nxtAt i k = nx at *
    go_upto_region 9 with fail
    by_cases hx : nx = -1
    · subst hx
      rw [if_pos rfl] at hF
      subst hF
      clear CA CF HSP
      go_wp2
      exact bodyPost_ret (v := .agg #[.int .i64 k, .slice none 0 0, .int .i64 8]) (by simp [results, Tryd.results7, go_sem]) rfl ⟨none, 0, rfl, ⟨rfl, Or.inl ⟨rfl, rfl⟩⟩, (Below.refl _ _).alloc (Nat.le_refl _) _⟩
    · rw [if_neg hx] at hF
      subst hF
      have d6 : (nx == -1) = false := by simpa using hx
      have HSP2 : Hid (SpT ((w.alloc (.cells #[.int .i64 0, .slice none 0 0, .int .i64 0] 27)).alloc (.cells actC 64))) := hide ((unhide HSP).below ((Below.refl _ _).alloc (Nat.le_refl _) _))
      clear HSP c1
      go_wp2_with (first
        | (go_at_call 25; refine (unhide CA _).mono ?_; rintro e w2 ⟨rfl, hw⟩; subst hw)
        | fail)
      refine (unhide CF _ (unhide HSP2)).mono ?_
      rintro e w3 ⟨rfl, hw⟩
      have hs1 : (w.alloc (.cells #[.int .i64 0, .slice none 0 0, .int .i64 0] 27)).heap.size = w.heap.size + 1 := by simp
      have hs2 : ((w.alloc (.cells #[.int .i64 0, .slice none 0 0, .int .i64 0] 27)).alloc (.cells actC 64)).heap.size = w.heap.size + 1 + 1 := by rw [World.size_alloc, hs1]
      have hr3 : w3.heap[w.heap.size]? = some (.cells #[.int .i64 0, .slice none 0 0, .int .i64 0] 27) := by
        rw [hw, Below.heap_alloc _ _ _ (by omega), Below.heap_alloc _ _ _ (by omega)]
        exact (unhide H0).1
      have hB3 : Below w.heap.size w w3 := by
        rw [hw]
        exact ((unhide H0).2.alloc (by omega) _).alloc (by omega) _
      have ho3 : w3.ownsRow (w.heap.size + 1 + 1) 9 1 (.slice (some ⟨w.heap.size + 1 + 1, 0, none⟩) F.length F.length) F.length (scells F) := by
        have h := World.ownsRow_lit (base := w.heap.size + 1 + 1) ((w.alloc (.cells #[.int .i64 0, .slice none 0 0, .int .i64 0] 27)).alloc (.cells actC 64)) (e := 9) (size := 1) (scells F).toArray F.length (by omega) (by unfold maxLen; omega) (by simp [scells_len])
        rw [hs2, ← hw] at h
        exact h
      rw [hs2]
      have H3 := hide (And.intro hr3 (And.intro hB3 ho3))
      obtain ⟨r0, r1, r2, f0, f1, f2⟩ := row3x hr3
      clear hr3 hB3 ho3 hw hs1 hs2 HSP2 CF CA H0
      go_wp2
      refine bodyPost_ret (v := .agg #[.int .i64 nx, .slice (some ⟨w.heap.size + 1 + 1, 0, none⟩) F.length F.length, .int .i64 0]) (by simp [results, Tryd.results7, asAddr, loadT (set3_at (unhide H3).1 (.int .i64 nx) (.slice (some ⟨w.heap.size + 1 + 1, 0, none⟩) F.length F.length) (.int .i64 0))]) rfl ⟨_, _, rfl, ?_, set3_below (unhide H3).2.1 (Nat.le_refl _) _ _ _⟩
      have := own_same (w' := ((w3.setCell ⟨w.heap.size, 0, none⟩ (.int .i64 nx)).setCell ⟨w.heap.size, 1, none⟩ (.slice (some ⟨w.heap.size + 1 + 1, 0, none⟩) F.length F.length)).setCell ⟨w.heap.size, 2, none⟩ (.int .i64 0)) (unhide H3).2.2 fun g hg _ => by
        rw [Below.heap_setCell _ _ _ _ (by simp; omega), Below.heap_setCell _ _ _ _ (by simp; omega), Below.heap_setCell _ _ _ _ (by simp; omega)]
      exact ⟨this.1, this.2.imp id fun ⟨g, cap, cur, h1, h2, h3⟩ => ⟨g, cap, cur, h1, by omega, h3⟩⟩
  · subst hw
    have hF := unhide HN3 (rowOf_none hn)
    subst hF
    clear HN3 hn HNX HSP HR
    go_wp2
    refine bodyPost_ret (v := .agg #[.int .i64 0, .slice none 0 0, .int .i64 6]) (by simp [results, Tryd.results7, go_sem]) rfl ⟨none, 0, rfl, ⟨rfl, Or.inl ⟨rfl, rfl⟩⟩, ?_⟩
    exact (Below.refl _ _).alloc (Nat.le_refl _) _
end Go.Proofs.YtlgbigfdokdgfaaDoor
