/- The program's table of actions: what actionsOf answers at each of its 160 places; what lay in memory stands. The program's Fsm: it answers as fsmF tells; what lay in memory stands, and the answer's row is its own; its tables, and the library's table of blanks, lie as the texts lay them. What the listed variables give the walks: the program's two tables of the automaton and the library's table of blanks as they are laid, and a start in which they lie; no condition. Is a number a byte: the program's and the model's walks; memory stands as it was. -/
import Derived.Test.YtghopihgnmnlcaaGreatDoorS01
import Derived.Great.Walk
import Derived.Test.YtghopihgnmnlcaaGreatDoorS00
import Derived.Test.YtghopihgnmnlcaaGreatDoorFld
namespace Go.Proofs.YtghopihgnmnlcaaGreatDoor
open Go.RowKit
/-- The table's texts, event by event and state by state. -/
def actRows : List (List (List UInt8)) := [[[], [105, 114, 99, 32, 115, 99, 114], [], [], [], [], [], [], [], []],
  [[], [], [], [116, 108, 115], [], [], [], [], [], [116, 108, 100]],
  [[116, 108, 115], [], [105, 114, 99, 32, 115, 99, 114], [], [], [], [], [], [], []],
  [[], [116, 108, 102], [], [], [], [], [105, 114, 99, 32, 115, 116, 114], [105, 114, 99, 32, 115, 116, 114], [105, 114, 99, 32, 115, 116, 114], [116, 108, 100, 32, 105, 114, 99, 32, 115, 116, 114]],
  [[], [], [], [], [115, 116, 114], [115, 116, 114], [115, 99, 114], [115, 99, 114], [115, 99, 114], []],
  [[], [], [], [], [116, 108, 102], [116, 108, 102], [116, 108, 102], [116, 108, 102], [116, 108, 102], []],
  [[], [], [115, 116, 97], [105, 114, 99, 32, 115, 99, 114, 32, 115, 99, 97], [], [], [115, 99, 97], [115, 99, 97, 32, 116, 108, 117], [115, 99, 97], [116, 108, 100, 32, 115, 99, 114, 32, 115, 99, 97]],
  [[], [], [115, 116, 97], [105, 114, 99, 32, 115, 99, 114, 32, 115, 99, 110], [], [], [115, 99, 110], [115, 99, 110], [115, 99, 110], [116, 108, 100, 32, 115, 99, 114, 32, 115, 99, 110]],
  [[], [], [115, 116, 97], [115, 116, 97], [], [], [105, 114, 99], [115, 99, 114], [105, 114, 99, 32, 116, 108, 117], [116, 108, 100, 32, 115, 99, 114]],
  [[], [], [115, 116, 97], [115, 116, 97], [], [], [105, 114, 99, 32, 115, 99, 114], [115, 99, 114], [105, 114, 99, 32, 115, 99, 114], [116, 108, 100, 32, 115, 99, 114]],
  [[], [], [115, 116, 97], [115, 116, 97], [115, 116, 97], [115, 116, 97], [115, 116, 97], [115, 116, 97], [115, 116, 97], [116, 108, 100, 32, 122, 114, 99, 32, 115, 116, 97]],
  [[], [], [], [], [116, 108, 102], [116, 108, 102], [], [], [], [116, 108, 100, 32, 115, 99, 114]],
  [[], [], [115, 99, 106], [115, 99, 106], [115, 99, 106], [115, 99, 106], [115, 99, 106], [115, 99, 106], [115, 99, 106], [115, 99, 106]],
  [[], [], [], [], [], [], [], [], [], []],
  [[], [], [116, 108, 102], [116, 108, 102], [116, 108, 102], [116, 108, 102], [116, 108, 102], [116, 108, 102], [116, 108, 102], [116, 108, 100, 32, 105, 114, 99, 32, 115, 116, 114]],
  [[], [], [], [], [], [], [], [], [], [115, 101, 114]]]
/-- The table's next states; of none -1. -/
def nxtRows : List (List Int) := [[2, 6, -1, -1, -1, -1, -1, -1, -1, -1],
  [-1, -1, 0, 1, 0, 1, 1, 1, 1, 1],
  [1, 1, 6, 3, 5, 5, 6, 7, 8, 9],
  [0, 0, 2, 2, 4, 4, 4, 4, 4, 4],
  [-1, -1, -1, -1, 4, 5, 6, 6, 8, -1],
  [-1, -1, -1, -1, 2, 3, 3, 3, 3, -1],
  [-1, -1, 2, 8, 4, 5, 8, 9, 8, 8],
  [-1, -1, 2, 6, 4, 5, 6, 7, 6, 6],
  [-1, -1, 2, 3, 4, 5, 7, 6, 9, 6],
  [-1, -1, 2, 3, 4, 5, 6, 6, 8, 6],
  [-1, -1, 2, 3, 4, 5, 6, 6, 6, 5],
  [-1, -1, 2, 3, 2, 3, 6, 6, 8, 6],
  [-1, -1, 2, 3, 4, 5, 6, 7, 8, 9],
  [-1, -1, 2, 3, 4, 5, 6, 6, 8, 9],
  [-1, -1, 2, 3, 2, 3, 3, 3, 3, 5],
  [-1, -1, 2, 3, 4, 5, 6, 7, 8, 9]]
def rowC (i : Nat) : Array Value := ((actRows.getD i []).map fun l => Value.string ⟨l.toArray⟩).toArray
def actC : Array Value := (actRows.flatten.map fun l => Value.string ⟨l.toArray⟩).toArray
/-- The actions' text at a place. -/
def actAt (i s : Nat) : ByteArray := ⟨((actRows.getD i []).getD s []).toArray⟩
theorem actC_size : actC.size = 160 := by kernel_rfl
theorem actC_all : ((List.range 16).all fun i => (List.range 10).all fun s => match actC[i * 10 + s]? with | some (.string t) => decide (t = actAt i s) | _ => false) = true := by kernel_rfl
theorem actC_at {i s : Nat} (hi : i < 16) (hs : s < 10) : actC[i * 10 + s]? = some (.string (actAt i s)) := by
  have h := List.all_eq_true.1 (List.all_eq_true.1 actC_all i (List.mem_range.2 hi)) s (List.mem_range.2 hs)
  split at h
  · next t e => rw [e, of_decide_eq_true h]
  · cases h
attribute [local irreducible] rowC actC
set_option maxHeartbeats 4000000 in
set_option maxRecDepth 100000 in
theorem implActs (i s : Nat) (hi : i < 16) (hs : s < 10) (w : World) : Calls Tryz.prog 119 #[.int .i64 i, .int .i64 s] w fun e w' => e = .returned (.string (actAt i s)) ∧ w' = w.alloc (.cells actC 195) := by
  have hc : (w.alloc (.cells actC 195)).cell? ⟨w.heap.size, i * 10 + s, none⟩ = some (.string (actAt i s)) := by
    rw [cell_of_row _ _ _ _ _ _ (heap_alloc_new w _)]
    exact actC_at hi hs
  have d1 : (i : Int) < 16 := by omega
  have d2 : (s : Int) < 10 := by omega
  go_enter Tryz.func119, Tryz.ntmps119
  go_upto_region 1 with fail
  apply wp_region_lit
  refine wpList_buildTo rfl 194 _ rfl (some 6) rfl (rowC 0) (by as_aux_lemma => kernel_rfl) ?_
  refine wpList_buildTo rfl 194 _ rfl (some 7) rfl (rowC 1) (by as_aux_lemma => kernel_rfl) ?_
  refine wpList_buildTo rfl 194 _ rfl (some 8) rfl (rowC 2) (by as_aux_lemma => kernel_rfl) ?_
  refine wpList_buildTo rfl 194 _ rfl (some 9) rfl (rowC 3) (by as_aux_lemma => kernel_rfl) ?_
  refine wpList_buildTo rfl 194 _ rfl (some 10) rfl (rowC 4) (by as_aux_lemma => kernel_rfl) ?_
  refine wpList_buildTo rfl 194 _ rfl (some 11) rfl (rowC 5) (by as_aux_lemma => kernel_rfl) ?_
  refine wpList_buildTo rfl 194 _ rfl (some 12) rfl (rowC 6) (by as_aux_lemma => kernel_rfl) ?_
  refine wpList_buildTo rfl 194 _ rfl (some 13) rfl (rowC 7) (by as_aux_lemma => kernel_rfl) ?_
  refine wpList_buildTo rfl 194 _ rfl (some 14) rfl (rowC 8) (by as_aux_lemma => kernel_rfl) ?_
  refine wpList_buildTo rfl 194 _ rfl (some 15) rfl (rowC 9) (by as_aux_lemma => kernel_rfl) ?_
  refine wpList_buildTo rfl 194 _ rfl (some 16) rfl (rowC 10) (by as_aux_lemma => kernel_rfl) ?_
  refine wpList_buildTo rfl 194 _ rfl (some 17) rfl (rowC 11) (by as_aux_lemma => kernel_rfl) ?_
  refine wpList_buildTo rfl 194 _ rfl (some 18) rfl (rowC 12) (by as_aux_lemma => kernel_rfl) ?_
  refine wpList_buildTo rfl 194 _ rfl (some 19) rfl (rowC 14) (by as_aux_lemma => kernel_rfl) ?_
  refine wpList_buildTo rfl 194 _ rfl (some 20) rfl (rowC 15) (by as_aux_lemma => kernel_rfl) ?_
  refine wpList_buildTo rfl 195 _ rfl (some 21) rfl actC (by as_aux_lemma => kernel_rfl) ?_
  refine Great.wpList_allocTo rfl (some 5) rfl (.pointer (some ⟨w.heap.size, 0, none⟩)) (.cells (Array.replicate 160 (.string ⟨#[]⟩)) 195) (by as_aux_lemma => kernel_rfl) ?_
  refine wpList_store_rowTo rfl 195 _ _ rfl rfl w.heap.size actC (by as_aux_lemma => kernel_rfl) (by as_aux_lemma => kernel_rfl) 195 _ (heap_alloc_new w _) (by as_aux_lemma => kernel_rfl) (by as_aux_lemma => kernel_rfl) (by as_aux_lemma => kernel_rfl) ?_
  rw [World.setRow_alloc_new]
  refine wpList_frame (a' := ⟨#[.int .i64 i, .int .i64 s, undef, undef, .string ⟨#[]⟩, .pointer (some ⟨w.heap.size, 0, none⟩), .agg (rowC 0), .agg (rowC 1), .agg (rowC 2), .agg (rowC 3), .agg (rowC 4), .agg (rowC 5), .agg (rowC 6), .agg (rowC 7), .agg (rowC 8), .agg (rowC 9), .agg (rowC 10), .agg (rowC 11), .agg (rowC 12), .agg (rowC 14), .agg (rowC 15), .agg actC, undef, undef, undef, undef, undef], []⟩) (by as_aux_lemma => kernel_rfl) ?_
  apply wpList_nil
  go_wp2
  go_ret
  exact ⟨rfl, rfl⟩
end Go.Proofs.YtghopihgnmnlcaaGreatDoor
namespace Go.Proofs.YtghopihgnmnlcaaGreatDoor
open Go.RowKit
/-- The next state at a place. -/
def nxtAt (i s : Nat) : Int := (nxtRows.getD i []).getD s 0
/-- The next states lie in the program's variable. -/
def NxT (w : World) : Prop := ∀ i s : Nat, i < 16 → s < 10 → w.cell? ⟨1, i * 10 + s, none⟩ = some (.int .i64 (nxtAt i s))
theorem NxT.below {w w' : World} (h : NxT w) (hb : Below w.heap.size w w') : NxT w' := fun i s hi hs => (hb.cell (p := ⟨1, i * 10 + s, none⟩) (World.block_lt_of_cell? _ _ (h i s hi hs))).trans (h i s hi hs)
/-- The library's table of blanks. -/
def SpT (w : World) : Prop := ∀ c : Nat, c < 256 → w.cell? ⟨2, c, none⟩ = some (.int .u8 (if Lib.isSp (UInt8.ofNat c) then 1 else 0))
theorem SpT.below {w w' : World} (h : SpT w) (hb : Below w.heap.size w w') : SpT w' := fun c hc => (hb.cell (p := ⟨2, c, none⟩) (World.block_lt_of_cell? _ _ (h c hc))).trans (h c hc)
/-- A text's words. -/
def wordsOf (t : ByteArray) : List ByteArray := (Lib.fields t.data.toList).map fun l => ⟨l.toArray⟩
theorem implFields (s : ByteArray) (w : World) (hs : s.size ≤ 30) (ha : (s.data.toList.all fun b => decide (b.toNat < 128)) = true) (hT : SpT w) :
    Calls Tryz.prog 118 #[.string s] w fun e w' => e = .returned (.slice (some ⟨w.heap.size, 0, none⟩) (wordsOf s).length (wordsOf s).length) ∧ w' = w.alloc (.cells (scells (wordsOf s)).toArray 9) := by
  refine (Any.strings_Fields_core Tryz.laysFld (by kernel_rfl) s w (by omega) (fun j b hj => of_decide_eq_true (List.all_eq_true.1 ha b (List.mem_of_getElem? hj))) hT).mono ?_
  rintro e w' ⟨rfl, rfl⟩
  refine ⟨by simp [wordsOf], ?_⟩
  simp only [wordsOf, scells, List.map_map]
  rfl
/-- The same as fsmF, by a text's bytes. -/
def rowD (t : ByteArray) : ByteArray := txt (((evRow.find? fun x => x.1 == t.data.toList).map fun x => x.2).getD [])
def fsmD (s : Nat) (t : ByteArray) : ByteArray := ((splitOf (rowD t) 44)[s]?).getD ⟨#[]⟩
def fsmG (s : Int) (t : ByteArray) : Int × List ByteArray × Int :=
  if 8000 < t.size then (0, [], 2) else if ¬ (0 ≤ s ∧ s ≤ 9) then (0, [], 5) else if rowD t = ⟨#[]⟩ then (0, [], 6) else if (fsmD s.toNat t).data.toList = [45] then (s, [], 8)
  else (((fsmD s.toNat t).data.toList.getLastD 0).toNat - 48, if 2 < (fsmD s.toNat t).size then splitOf ((fsmD s.toNat t).extract 0 ((fsmD s.toNat t).size - 2)) 32 else [], 0)
theorem fsmG_eq (s : Int) (t : ByteArray) : fsmF s t = fsmG s t := by
  unfold fsmF fsmG fsmX fsmD rowOf rowD
  simp only [ByteArray.toList_eq]
set_option maxRecDepth 100000 in
theorem places : ((List.range 16).all fun i => (List.range 10).all fun k => decide (fsmG (k : Int) (evTexts.getD i ⟨#[]⟩) = if nxtAt i k = -1 then ((k : Int), [], 8) else (nxtAt i k, wordsOf (actAt i k), 0)) && decide ((actAt i k).size ≤ 30 ∧ (wordsOf (actAt i k)).length ≤ 30) && ((actAt i k).data.toList.all fun b => decide (b.toNat < 128))) = true := by kernel_rfl
theorem place_at {i k : Nat} {t : ByteArray} (ht : evTexts[i]? = some t) (hk : k < 10) : (fsmF (k : Int) t = if nxtAt i k = -1 then ((k : Int), [], 8) else (nxtAt i k, wordsOf (actAt i k), 0)) ∧ ((actAt i k).size ≤ 30 ∧ (wordsOf (actAt i k)).length ≤ 30) ∧ ((actAt i k).data.toList.all fun b => decide (b.toNat < 128)) = true := by
  have hi : i < 16 := (List.getElem?_eq_some_iff.1 ht).1
  have h := List.all_eq_true.1 (List.all_eq_true.1 places i (List.mem_range.2 hi)) k (List.mem_range.2 hk)
  rw [Bool.and_eq_true, Bool.and_eq_true] at h
  have e : evTexts.getD i ⟨#[]⟩ = t := by rw [List.getD_eq_getElem?_getD, ht]; rfl
  rw [e] at h
  rw [fsmG_eq]
  exact ⟨of_decide_eq_true h.1.1, of_decide_eq_true h.1.2, h.2⟩
theorem rowOf_none {t : ByteArray} (h : ∀ i : Nat, evTexts[i]? ≠ some t) : rowOf t = ⟨#[]⟩ := by
  unfold rowOf
  rw [List.find?_eq_none.2 fun x hx e => ?_]
  · rfl
  · have ht : t = txt x.1 := txt_of (eq_of_beq e).symm
    obtain ⟨i, hi⟩ := List.getElem?_of_mem (List.mem_map.2 ⟨x, hx, ht.symm⟩ : t ∈ evTexts)
    exact h i hi
set_option maxHeartbeats 4000000 in
theorem implFsm (s : Int) (t : ByteArray) (w : World) (ht : t.size ≤ maxLen) (hE : EvT w) (hN : NxT w) (hS : SpT w) : Calls Tryz.prog 86 #[.int .i64 s, .string t] w fun e w' => FsmA (fsmF s t) w w' e := by
  unfold maxLen at ht
  have hr0 : (w.alloc (.cells #[.int .i64 0, .slice none 0 0, .int .i64 0] 128)).heap[w.heap.size]? = some (.cells #[.int .i64 0, .slice none 0 0, .int .i64 0] 128) := heap_alloc_last w _
  have hb0 : Below w.heap.size w (w.alloc (.cells #[.int .i64 0, .slice none 0 0, .int .i64 0] 128)) := (Below.refl _ _).alloc (Nat.le_refl _) _
  have H0 := hide (And.intro hr0 hb0)
  by_cases h1 : 8000 < t.size
  · have d1 : (8000 : Int) < (t.size : Int) := by omega
    rw [show fsmF s t = (0, [], 2) from if_pos h1]
    clear hr0 hb0
    go_enter Tryz.func86, Tryz.ntmps86
    go_wp2
    refine bodyPost_ret (v := .agg #[.int .i64 0, .slice none 0 0, .int .i64 2]) (by simp [results, Tryz.results86, go_sem]) rfl ⟨none, 0, rfl, ⟨rfl, Or.inl ⟨rfl, rfl⟩⟩, ?_⟩
    exact (Below.refl _ _).alloc (Nat.le_refl _) _
  have d1 : ¬ ((8000 : Int) < (t.size : Int)) := by omega
  by_cases h2 : ¬ (0 ≤ s ∧ s ≤ 9)
  · rw [show fsmF s t = (0, [], 5) by unfold fsmF; rw [if_neg h1, if_pos h2]]
    clear hr0 hb0
    by_cases h3 : s < 0
    · go_enter Tryz.func86, Tryz.ntmps86
      go_wp2
      refine bodyPost_ret (v := .agg #[.int .i64 0, .slice none 0 0, .int .i64 5]) (by simp [results, Tryz.results86, go_sem]) rfl ⟨none, 0, rfl, ⟨rfl, Or.inl ⟨rfl, rfl⟩⟩, ?_⟩
      exact (Below.refl _ _).alloc (Nat.le_refl _) _
    · have d2 : (10 : Int) ≤ s := by omega
      go_enter Tryz.func86, Tryz.ntmps86
      go_wp2
      refine bodyPost_ret (v := .agg #[.int .i64 0, .slice none 0 0, .int .i64 5]) (by simp [results, Tryz.results86, go_sem]) rfl ⟨none, 0, rfl, ⟨rfl, Or.inl ⟨rfl, rfl⟩⟩, ?_⟩
      exact (Below.refl _ _).alloc (Nat.le_refl _) _
  have h2' : 0 ≤ s ∧ s ≤ 9 := Classical.not_not.1 h2
  have h1' := hide h1
  have HN3 : Hid (rowOf t = ⟨#[]⟩ → fsmF s t = (0, [], 6)) := hide fun h3 => by unfold fsmF; rw [if_neg h1, if_neg h2, if_pos h3]
  obtain ⟨k, rfl⟩ : ∃ k : Nat, s = (k : Int) := ⟨s.toNat, by omega⟩
  have hk : k < 10 := by omega
  have d2 : ¬ ((k : Int) < 0) := by omega
  have d3 : ¬ ((10 : Int) ≤ (k : Int)) := by omega
  have d4 : (k : Int) < 10 := by omega
  have C1 := hide (evNum t _ (hE.below hb0))
  have HNX := hide (hN.below hb0)
  have HSP := hide (hS.below hb0)
  clear hE hN hS h1 h2 h2' hr0 hb0 h1'
  obtain ⟨R, hR⟩ : ∃ R, fsmF (k : Int) t = R := ⟨_, rfl⟩
  rw [hR] at HN3
  rw [hR]
  have HR := hide hR
  clear hR
  go_enter Tryz.func86, Tryz.ntmps86
  go_wp2_with fail
  refine (unhide C1).mono ?_
  rintro e w1 ⟨hw, ⟨i, hi, rfl⟩ | ⟨hn, rfl⟩⟩
  · subst hw
    have hi16 : i < 16 := (List.getElem?_eq_some_iff.1 hi).1
    obtain ⟨hF, ⟨hz, hzl⟩, hascii⟩ := place_at hi hk
    have c1 := unhide HNX i k hi16 hk
    have d5 : (i : Int) < 16 := by omega
    rw [unhide HR] at hF
    clear HR
    have CA := hide fun v => implActs i k hi16 hk v
    have CF := hide fun v => implFields (actAt i k) v hz hascii
    clear hi hz hascii HN3 HNX C1
    generalize wordsOf (actAt i k) = F at *
    generalize actAt i k = ta at *
    generalize nxtAt i k = nx at *
    go_upto_region 9 with fail
    by_cases hx : nx = -1
    · subst hx
      rw [if_pos rfl] at hF
      subst hF
      clear CA CF HSP
      go_wp2
      exact bodyPost_ret (v := .agg #[.int .i64 k, .slice none 0 0, .int .i64 8]) (by simp [results, Tryz.results86, go_sem]) rfl ⟨none, 0, rfl, ⟨rfl, Or.inl ⟨rfl, rfl⟩⟩, (Below.refl _ _).alloc (Nat.le_refl _) _⟩
    · rw [if_neg hx] at hF
      subst hF
      have d6 : (nx == -1) = false := by simpa using hx
      have HSP2 : Hid (SpT ((w.alloc (.cells #[.int .i64 0, .slice none 0 0, .int .i64 0] 128)).alloc (.cells actC 195))) := hide ((unhide HSP).below ((Below.refl _ _).alloc (Nat.le_refl _) _))
      clear HSP c1
      go_wp2_with (first
        | (go_at_call 119; refine (unhide CA _).mono ?_; rintro e w2 ⟨rfl, hw⟩; subst hw)
        | fail)
      refine (unhide CF _ (unhide HSP2)).mono ?_
      rintro e w3 ⟨rfl, hw⟩
      have hs1 : (w.alloc (.cells #[.int .i64 0, .slice none 0 0, .int .i64 0] 128)).heap.size = w.heap.size + 1 := by simp
      have hs2 : ((w.alloc (.cells #[.int .i64 0, .slice none 0 0, .int .i64 0] 128)).alloc (.cells actC 195)).heap.size = w.heap.size + 1 + 1 := by rw [World.size_alloc, hs1]
      have hr3 : w3.heap[w.heap.size]? = some (.cells #[.int .i64 0, .slice none 0 0, .int .i64 0] 128) := by
        rw [hw, Below.heap_alloc _ _ _ (by omega), Below.heap_alloc _ _ _ (by omega)]
        exact (unhide H0).1
      have hB3 : Below w.heap.size w w3 := by
        rw [hw]
        exact ((unhide H0).2.alloc (by omega) _).alloc (by omega) _
      have ho3 : w3.ownsRow (w.heap.size + 1 + 1) 9 1 (.slice (some ⟨w.heap.size + 1 + 1, 0, none⟩) F.length F.length) F.length (scells F) := by
        have h := World.ownsRow_lit (base := w.heap.size + 1 + 1) ((w.alloc (.cells #[.int .i64 0, .slice none 0 0, .int .i64 0] 128)).alloc (.cells actC 195)) (e := 9) (size := 1) (scells F).toArray F.length (by omega) (by unfold maxLen; omega) (by simp [scells_len])
        rw [hs2, ← hw] at h
        exact h
      rw [hs2]
      have H3 := hide (And.intro hr3 (And.intro hB3 ho3))
      obtain ⟨r0, r1, r2, f0, f1, f2⟩ := row3x hr3
      clear hr3 hB3 ho3 hw hs1 hs2 HSP2 CF CA H0
      go_wp2
      refine bodyPost_ret (v := .agg #[.int .i64 nx, .slice (some ⟨w.heap.size + 1 + 1, 0, none⟩) F.length F.length, .int .i64 0]) (by simp [results, Tryz.results86, asAddr, loadT (set3_at (unhide H3).1 (.int .i64 nx) (.slice (some ⟨w.heap.size + 1 + 1, 0, none⟩) F.length F.length) (.int .i64 0))]) rfl ⟨_, _, rfl, ?_, set3_below (unhide H3).2.1 (Nat.le_refl _) _ _ _⟩
      have := own_same (w' := ((w3.setCell ⟨w.heap.size, 0, none⟩ (.int .i64 nx)).setCell ⟨w.heap.size, 1, none⟩ (.slice (some ⟨w.heap.size + 1 + 1, 0, none⟩) F.length F.length)).setCell ⟨w.heap.size, 2, none⟩ (.int .i64 0)) (unhide H3).2.2 fun g hg _ => by
        rw [Below.heap_setCell _ _ _ _ (by simp; omega), Below.heap_setCell _ _ _ _ (by simp; omega), Below.heap_setCell _ _ _ _ (by simp; omega)]
      exact ⟨this.1, this.2.imp id fun ⟨g, cap, cur, h1, h2, h3⟩ => ⟨g, cap, cur, h1, by omega, h3⟩⟩
  · subst hw
    have hF := unhide HN3 (rowOf_none hn)
    subst hF
    clear HN3 hn HNX HSP HR
    go_wp2
    refine bodyPost_ret (v := .agg #[.int .i64 0, .slice none 0 0, .int .i64 6]) (by simp [results, Tryz.results86, go_sem]) rfl ⟨none, 0, rfl, ⟨rfl, Or.inl ⟨rfl, rfl⟩⟩, ?_⟩
    exact (Below.refl _ _).alloc (Nat.le_refl _) _
end Go.Proofs.YtghopihgnmnlcaaGreatDoor
namespace Go.Proofs.YtghopihgnmnlcaaGreatDoor
open Go.ChangeShapes Go.WideShapes Go.ChangeAt Go.RowKit
theorem laidOutF : laidOutB Tryz.prog = true := by kernel_rfl
theorem nxG : Tryz.prog.globalNamed "loop.example/g00351/impl.nextStates" = some 1 := by kernel_rfl
theorem nxG_type : (Tryz.prog.globals[1]?).map (·.type) = some 156 := by kernel_rfl
theorem cells_row : Tryz.prog.cellsOf 155 = 10 := by kernel_rfl
theorem cells_int : Tryz.prog.cellsOf 2 = 1 := by kernel_rfl
theorem nxData : (Rows.laid_loop_example_g00351_impl_nextStates : DataW Unit) = .agg (nxtRows.map fun l => Lib.tabData .i64 l) := by kernel_rfl
theorem nxLens : (nxtRows.all fun l => decide (l.length = 10)) = true := by kernel_rfl
theorem nxT_of {W : World} (h : Lib.VarReads Tryz.prog W "loop.example/g00351/impl.nextStates" Rows.laid_loop_example_g00351_impl_nextStates) : NxT W := by
  rw [nxData] at h
  obtain ⟨g, t, cs, fuel, p, hg, hty, hvar, hd⟩ := h
  obtain rfl := Option.some.inj (nxG.symm.trans hg)
  obtain rfl := Option.some.inj (nxG_type.symm.trans hty)
  intro i s hi hs
  obtain ⟨fuel', d, q, hdi, he⟩ := Lib.array_elem Tryz.underlying156 hd i hi
  rw [List.getElem?_map] at hdi
  obtain ⟨r, hr, rfl⟩ := Option.map_eq_some_iff.1 hdi
  have hrl : r.length = 10 := of_decide_eq_true (List.all_eq_true.1 nxLens r (List.mem_of_getElem? hr))
  rw [cells_row] at he
  have hcs := Lib.cells_of_tab Tryz.underlying155 Tryz.underlying2 cells_int cells_row he
  rw [World.var?_cell hg hvar (i * 10 + s), ← Array.getElem?_toList]
  have e0 := congrArg (·[s]?) hcs
  simp only [List.getElem?_take, List.getElem?_drop, hs, if_true, List.getElem?_map] at e0
  rw [e0]
  unfold nxtAt
  rw [show nxtRows.getD i [] = r by rw [List.getD_eq_getElem?_getD, hr]; rfl, List.getD_eq_getElem?_getD, List.getElem?_eq_getElem (by omega)]
  rfl
theorem spG : Tryz.prog.globalNamed "strings.asciiSpace" = some 2 := by kernel_rfl
theorem spG_type : (Tryz.prog.globals[2]?).map (·.type) = some 191 := by kernel_rfl
theorem cells_tab : Tryz.prog.cellsOf 191 = 256 := by kernel_rfl
theorem cells_u8 : Tryz.prog.cellsOf 5 = 1 := by kernel_rfl
theorem spData : (Rows.laid_strings_asciiSpace : DataW Unit) = Lib.tabData .u8 Lib.asciiSpaceTab := by kernel_rfl
theorem spT_of {W : World} (h : Lib.VarReads Tryz.prog W "strings.asciiSpace" Rows.laid_strings_asciiSpace) : SpT W := by
  rw [spData] at h
  obtain ⟨g, t, cs, fuel, p, hg, hty, hvar, hd⟩ := h
  obtain rfl := Option.some.inj (spG.symm.trans hg)
  obtain rfl := Option.some.inj (spG_type.symm.trans hty)
  intro c hc
  have hcs := Lib.cells_of_tab Tryz.underlying191 Tryz.underlying5 cells_u8 cells_tab hd
  rw [World.var?_cell hg hvar c, ← Array.getElem?_toList, hcs, List.getElem?_map]
  have hl : c < Lib.asciiSpaceTab.length := by rw [Lib.asciiSpaceTab_length]; exact hc
  have := Lib.asciiSpaceTab_at c hc
  rw [List.getD_eq_getElem?_getD, List.getElem?_eq_getElem hl, Option.getD_some] at this
  rw [List.getElem?_eq_getElem hl, Option.map_some, this]
def laidTabs : List (String × DataW Unit) := Rows.fnExactEndTickRow.laid
theorem tabs_of {W : World} (hL : laidMetH Tryz.prog laidTabs W) : EvT W ∧ NxT W ∧ SpT W := by
  rw [MakeChecks.laidMetH_plain _ _ _ (by kernel_rfl)] at hL
  exact ⟨evT_of (Lib.laidMet.reads hL (.tail _ (.tail _ (.head _)))), nxT_of (Lib.laidMet.reads hL (.tail _ (.tail _ (.tail _ (.head _))))), spT_of (Lib.laidMet.reads hL (.tail _ (.head _)))⟩
set_option maxRecDepth 100000 in
theorem start_met (os : Os) (args : Array Value) : laidMetH Tryz.prog laidTabs ((World.laidAll Tryz.prog os laidTabs).forCall (fun _ _ => 0) ⟨#[], args, []⟩).memory := by
  rw [MakeChecks.laidMetH_plain _ _ _ (by kernel_rfl)]
  exact laidMet_laidAll _ (by kernel_rfl) (by kernel_rfl)
end Go.Proofs.YtghopihgnmnlcaaGreatDoor
namespace Go.Proofs.YtghopihgnmnlcaaGreatDoor
open Go.RowKit
set_option maxHeartbeats 400000 in
theorem byteR (x : Int) (w : World) : Calls Tryz.prog 82 #[.int .i64 x] w fun e w' => e = .returned (.bool (decide (0 ≤ x) && decide (x ≤ 255))) ∧ w' = w := by
  by_cases h1 : 0 ≤ x
  · have d1 : decide ((0 : Int) ≤ x) = true := decide_eq_true h1
    rw [d1, Bool.true_and]
    go_enter Tryz.func82, Tryz.ntmps82
    go_wp2
    go_ret
    exact ⟨rfl, rfl⟩
  · have d1 : decide ((0 : Int) ≤ x) = false := decide_eq_false h1
    rw [d1, Bool.false_and]
    go_enter Tryz.func82, Tryz.ntmps82
    go_wp2
    go_ret
    exact ⟨rfl, rfl⟩
set_option maxHeartbeats 400000 in
theorem specIs255 (x y : Int) (w : World) : Calls Tryz.prog 74 #[.int .i64 x, .int .i64 y, .int .i64 255] w fun e w' => e = .returned (.bool (decide (y ≤ x) && decide (x ≤ 255))) ∧ w' = w := by
  by_cases h1 : y ≤ x
  · have d1 : decide (y ≤ x) = true := decide_eq_true h1
    rw [d1, Bool.true_and]
    go_enter Tryz.func74, Tryz.ntmps74
    go_wp2
    go_ret
    exact ⟨rfl, rfl⟩
  · have d1 : decide (y ≤ x) = false := decide_eq_false h1
    rw [d1, Bool.false_and]
    go_enter Tryz.func74, Tryz.ntmps74
    go_wp2
    go_ret
    exact ⟨rfl, rfl⟩
end Go.Proofs.YtghopihgnmnlcaaGreatDoor
