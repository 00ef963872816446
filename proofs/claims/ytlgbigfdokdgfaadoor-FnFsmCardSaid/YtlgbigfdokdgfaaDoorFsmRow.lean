/- The model's automaton: the rows of its table, its events, and Fsm; what lay in memory stands, and the answer's row is its own. -/
import Derived.Test.YtlgbigfdokdgfaaDoorSplit
import Derived.Laws.ResultCell
namespace Go.Proofs.YtlgbigfdokdgfaaDoor
open Go.RowKit
/-- The events and their rows. -/
def evRow : List (List UInt8 × List UInt8) := [([85, 112], [47, 50, 44, 105, 114, 99, 32, 115, 99, 114, 47, 54, 44, 45, 44, 45, 44, 45, 44, 45, 44, 45, 44, 45, 44, 45, 44, 45]),
  ([68, 111, 119, 110], [45, 44, 45, 44, 47, 48, 44, 116, 108, 115, 47, 49, 44, 47, 48, 44, 47, 49, 44, 47, 49, 44, 47, 49, 44, 47, 49, 44, 116, 108, 100, 47, 49]),
  ([79, 112, 101, 110], [116, 108, 115, 47, 49, 44, 47, 49, 44, 105, 114, 99, 32, 115, 99, 114, 47, 54, 44, 47, 51, 44, 47, 53, 44, 47, 53, 44, 47, 54, 44, 47, 55, 44, 47, 56, 44, 47, 57]),
  ([67, 108, 111, 115, 101], [47, 48, 44, 116, 108, 102, 47, 48, 44, 47, 50, 44, 47, 50, 44, 47, 52, 44, 47, 52, 44, 105, 114, 99, 32, 115, 116, 114, 47, 52, 44, 105, 114, 99, 32, 115, 116, 114, 47, 52, 44, 105, 114, 99, 32, 115, 116, 114, 47, 52, 44, 116, 108, 100, 32, 105, 114, 99, 32, 115, 116, 114, 47, 52]),
  ([84, 79, 43], [45, 44, 45, 44, 45, 44, 45, 44, 115, 116, 114, 47, 52, 44, 115, 116, 114, 47, 53, 44, 115, 99, 114, 47, 54, 44, 115, 99, 114, 47, 54, 44, 115, 99, 114, 47, 56, 44, 45]),
  ([84, 79, 45], [45, 44, 45, 44, 45, 44, 45, 44, 116, 108, 102, 47, 50, 44, 116, 108, 102, 47, 51, 44, 116, 108, 102, 47, 51, 44, 116, 108, 102, 47, 51, 44, 116, 108, 102, 47, 51, 44, 45]),
  ([82, 67, 82, 43], [45, 44, 45, 44, 115, 116, 97, 47, 50, 44, 105, 114, 99, 32, 115, 99, 114, 32, 115, 99, 97, 47, 56, 44, 47, 52, 44, 47, 53, 44, 115, 99, 97, 47, 56, 44, 115, 99, 97, 32, 116, 108, 117, 47, 57, 44, 115, 99, 97, 47, 56, 44, 116, 108, 100, 32, 115, 99, 114, 32, 115, 99, 97, 47, 56]),
  ([82, 67, 82, 45], [45, 44, 45, 44, 115, 116, 97, 47, 50, 44, 105, 114, 99, 32, 115, 99, 114, 32, 115, 99, 110, 47, 54, 44, 47, 52, 44, 47, 53, 44, 115, 99, 110, 47, 54, 44, 115, 99, 110, 47, 55, 44, 115, 99, 110, 47, 54, 44, 116, 108, 100, 32, 115, 99, 114, 32, 115, 99, 110, 47, 54]),
  ([82, 67, 65], [45, 44, 45, 44, 115, 116, 97, 47, 50, 44, 115, 116, 97, 47, 51, 44, 47, 52, 44, 47, 53, 44, 105, 114, 99, 47, 55, 44, 115, 99, 114, 47, 54, 44, 105, 114, 99, 32, 116, 108, 117, 47, 57, 44, 116, 108, 100, 32, 115, 99, 114, 47, 54]),
  ([82, 67, 78], [45, 44, 45, 44, 115, 116, 97, 47, 50, 44, 115, 116, 97, 47, 51, 44, 47, 52, 44, 47, 53, 44, 105, 114, 99, 32, 115, 99, 114, 47, 54, 44, 115, 99, 114, 47, 54, 44, 105, 114, 99, 32, 115, 99, 114, 47, 56, 44, 116, 108, 100, 32, 115, 99, 114, 47, 54]),
  ([82, 84, 82], [45, 44, 45, 44, 115, 116, 97, 47, 50, 44, 115, 116, 97, 47, 51, 44, 115, 116, 97, 47, 52, 44, 115, 116, 97, 47, 53, 44, 115, 116, 97, 47, 54, 44, 115, 116, 97, 47, 54, 44, 115, 116, 97, 47, 54, 44, 116, 108, 100, 32, 122, 114, 99, 32, 115, 116, 97, 47, 53]),
  ([82, 84, 65], [45, 44, 45, 44, 47, 50, 44, 47, 51, 44, 116, 108, 102, 47, 50, 44, 116, 108, 102, 47, 51, 44, 47, 54, 44, 47, 54, 44, 47, 56, 44, 116, 108, 100, 32, 115, 99, 114, 47, 54]),
  ([82, 85, 67], [45, 44, 45, 44, 115, 99, 106, 47, 50, 44, 115, 99, 106, 47, 51, 44, 115, 99, 106, 47, 52, 44, 115, 99, 106, 47, 53, 44, 115, 99, 106, 47, 54, 44, 115, 99, 106, 47, 55, 44, 115, 99, 106, 47, 56, 44, 115, 99, 106, 47, 57]),
  ([82, 88, 74, 43], [45, 44, 45, 44, 47, 50, 44, 47, 51, 44, 47, 52, 44, 47, 53, 44, 47, 54, 44, 47, 54, 44, 47, 56, 44, 47, 57]),
  ([82, 88, 74, 45], [45, 44, 45, 44, 116, 108, 102, 47, 50, 44, 116, 108, 102, 47, 51, 44, 116, 108, 102, 47, 50, 44, 116, 108, 102, 47, 51, 44, 116, 108, 102, 47, 51, 44, 116, 108, 102, 47, 51, 44, 116, 108, 102, 47, 51, 44, 116, 108, 100, 32, 105, 114, 99, 32, 115, 116, 114, 47, 53]),
  ([82, 88, 82], [45, 44, 45, 44, 47, 50, 44, 47, 51, 44, 47, 52, 44, 47, 53, 44, 47, 54, 44, 47, 55, 44, 47, 56, 44, 115, 101, 114, 47, 57])]
/-- An event's row. -/
def rowOf (t : ByteArray) : ByteArray := txt (((evRow.find? fun x => x.1 == t.toList).map fun x => x.2).getD [])
/-- The events. -/
def evTexts : List ByteArray := evRow.map fun x => txt x.1
theorem txt_of {t : ByteArray} {l : List UInt8} (h : t.toList = l) : t = txt l := by
  rw [ByteArray.toList_eq] at h
  rw [← h]
  rfl
set_option maxHeartbeats 4000000 in
theorem specRow (t : ByteArray) (w : World) : Calls Tryd.prog 27 #[.string t] w fun e w' => e = .returned (.string (rowOf t)) ∧ w' = w := by
  by_cases h0 : t.toList = [85, 112]
  · have hr : rowOf t = ⟨#[47, 50, 44, 105, 114, 99, 32, 115, 99, 114, 47, 54, 44, 45, 44, 45, 44, 45, 44, 45, 44, 45, 44, 45, 44, 45, 44, 45]⟩ := by
      unfold rowOf
      rw [h0]
      rfl
    rw [hr, show t = ⟨#[85, 112]⟩ from txt_of h0]
    clear hr
    go_enter Tryd.func27, Tryd.ntmps27
    go_wp2
    go_ret
    exact ⟨rfl, rfl⟩
  by_cases h1 : t.toList = [68, 111, 119, 110]
  · have hr : rowOf t = ⟨#[45, 44, 45, 44, 47, 48, 44, 116, 108, 115, 47, 49, 44, 47, 48, 44, 47, 49, 44, 47, 49, 44, 47, 49, 44, 47, 49, 44, 116, 108, 100, 47, 49]⟩ := by
      unfold rowOf
      rw [h1]
      rfl
    rw [hr, show t = ⟨#[68, 111, 119, 110]⟩ from txt_of h1]
    clear hr
    go_enter Tryd.func27, Tryd.ntmps27
    go_wp2
    go_ret
    exact ⟨rfl, rfl⟩
  by_cases h2 : t.toList = [79, 112, 101, 110]
  · have hr : rowOf t = ⟨#[116, 108, 115, 47, 49, 44, 47, 49, 44, 105, 114, 99, 32, 115, 99, 114, 47, 54, 44, 47, 51, 44, 47, 53, 44, 47, 53, 44, 47, 54, 44, 47, 55, 44, 47, 56, 44, 47, 57]⟩ := by
      unfold rowOf
      rw [h2]
      rfl
    rw [hr, show t = ⟨#[79, 112, 101, 110]⟩ from txt_of h2]
    clear hr
    go_enter Tryd.func27, Tryd.ntmps27
    go_wp2
    go_ret
    exact ⟨rfl, rfl⟩
  by_cases h3 : t.toList = [67, 108, 111, 115, 101]
  · have hr : rowOf t = ⟨#[47, 48, 44, 116, 108, 102, 47, 48, 44, 47, 50, 44, 47, 50, 44, 47, 52, 44, 47, 52, 44, 105, 114, 99, 32, 115, 116, 114, 47, 52, 44, 105, 114, 99, 32, 115, 116, 114, 47, 52, 44, 105, 114, 99, 32, 115, 116, 114, 47, 52, 44, 116, 108, 100, 32, 105, 114, 99, 32, 115, 116, 114, 47, 52]⟩ := by
      unfold rowOf
      rw [h3]
      rfl
    rw [hr, show t = ⟨#[67, 108, 111, 115, 101]⟩ from txt_of h3]
    clear hr
    go_enter Tryd.func27, Tryd.ntmps27
    go_wp2
    go_ret
    exact ⟨rfl, rfl⟩
  by_cases h4 : t.toList = [84, 79, 43]
  · have hr : rowOf t = ⟨#[45, 44, 45, 44, 45, 44, 45, 44, 115, 116, 114, 47, 52, 44, 115, 116, 114, 47, 53, 44, 115, 99, 114, 47, 54, 44, 115, 99, 114, 47, 54, 44, 115, 99, 114, 47, 56, 44, 45]⟩ := by
      unfold rowOf
      rw [h4]
      rfl
    rw [hr, show t = ⟨#[84, 79, 43]⟩ from txt_of h4]
    clear hr
    go_enter Tryd.func27, Tryd.ntmps27
    go_wp2
    go_ret
    exact ⟨rfl, rfl⟩
  by_cases h5 : t.toList = [84, 79, 45]
  · have hr : rowOf t = ⟨#[45, 44, 45, 44, 45, 44, 45, 44, 116, 108, 102, 47, 50, 44, 116, 108, 102, 47, 51, 44, 116, 108, 102, 47, 51, 44, 116, 108, 102, 47, 51, 44, 116, 108, 102, 47, 51, 44, 45]⟩ := by
      unfold rowOf
      rw [h5]
      rfl
    rw [hr, show t = ⟨#[84, 79, 45]⟩ from txt_of h5]
    clear hr
    go_enter Tryd.func27, Tryd.ntmps27
    go_wp2
    go_ret
    exact ⟨rfl, rfl⟩
  by_cases h6 : t.toList = [82, 67, 82, 43]
  · have hr : rowOf t = ⟨#[45, 44, 45, 44, 115, 116, 97, 47, 50, 44, 105, 114, 99, 32, 115, 99, 114, 32, 115, 99, 97, 47, 56, 44, 47, 52, 44, 47, 53, 44, 115, 99, 97, 47, 56, 44, 115, 99, 97, 32, 116, 108, 117, 47, 57, 44, 115, 99, 97, 47, 56, 44, 116, 108, 100, 32, 115, 99, 114, 32, 115, 99, 97, 47, 56]⟩ := by
      unfold rowOf
      rw [h6]
      rfl
    rw [hr, show t = ⟨#[82, 67, 82, 43]⟩ from txt_of h6]
    clear hr
    go_enter Tryd.func27, Tryd.ntmps27
    go_wp2
    go_ret
    exact ⟨rfl, rfl⟩
  by_cases h7 : t.toList = [82, 67, 82, 45]
  · have hr : rowOf t = ⟨#[45, 44, 45, 44, 115, 116, 97, 47, 50, 44, 105, 114, 99, 32, 115, 99, 114, 32, 115, 99, 110, 47, 54, 44, 47, 52, 44, 47, 53, 44, 115, 99, 110, 47, 54, 44, 115, 99, 110, 47, 55, 44, 115, 99, 110, 47, 54, 44, 116, 108, 100, 32, 115, 99, 114, 32, 115, 99, 110, 47, 54]⟩ := by
      unfold rowOf
      rw [h7]
      rfl
    rw [hr, show t = ⟨#[82, 67, 82, 45]⟩ from txt_of h7]
    clear hr
    go_enter Tryd.func27, Tryd.ntmps27
    go_wp2
    go_ret
    exact ⟨rfl, rfl⟩
  by_cases h8 : t.toList = [82, 67, 65]
  · have hr : rowOf t = ⟨#[45, 44, 45, 44, 115, 116, 97, 47, 50, 44, 115, 116, 97, 47, 51, 44, 47, 52, 44, 47, 53, 44, 105, 114, 99, 47, 55, 44, 115, 99, 114, 47, 54, 44, 105, 114, 99, 32, 116, 108, 117, 47, 57, 44, 116, 108, 100, 32, 115, 99, 114, 47, 54]⟩ := by
      unfold rowOf
      rw [h8]
      rfl
    rw [hr, show t = ⟨#[82, 67, 65]⟩ from txt_of h8]
    clear hr
    go_enter Tryd.func27, Tryd.ntmps27
    go_wp2
    go_ret
    exact ⟨rfl, rfl⟩
  by_cases h9 : t.toList = [82, 67, 78]
  · have hr : rowOf t = ⟨#[45, 44, 45, 44, 115, 116, 97, 47, 50, 44, 115, 116, 97, 47, 51, 44, 47, 52, 44, 47, 53, 44, 105, 114, 99, 32, 115, 99, 114, 47, 54, 44, 115, 99, 114, 47, 54, 44, 105, 114, 99, 32, 115, 99, 114, 47, 56, 44, 116, 108, 100, 32, 115, 99, 114, 47, 54]⟩ := by
      unfold rowOf
      rw [h9]
      rfl
    rw [hr, show t = ⟨#[82, 67, 78]⟩ from txt_of h9]
    clear hr
    go_enter Tryd.func27, Tryd.ntmps27
    go_wp2
    go_ret
    exact ⟨rfl, rfl⟩
  by_cases h10 : t.toList = [82, 84, 82]
  · have hr : rowOf t = ⟨#[45, 44, 45, 44, 115, 116, 97, 47, 50, 44, 115, 116, 97, 47, 51, 44, 115, 116, 97, 47, 52, 44, 115, 116, 97, 47, 53, 44, 115, 116, 97, 47, 54, 44, 115, 116, 97, 47, 54, 44, 115, 116, 97, 47, 54, 44, 116, 108, 100, 32, 122, 114, 99, 32, 115, 116, 97, 47, 53]⟩ := by
      unfold rowOf
      rw [h10]
      rfl
    rw [hr, show t = ⟨#[82, 84, 82]⟩ from txt_of h10]
    clear hr
    go_enter Tryd.func27, Tryd.ntmps27
    go_wp2
    go_ret
    exact ⟨rfl, rfl⟩
  by_cases h11 : t.toList = [82, 84, 65]
  · have hr : rowOf t = ⟨#[45, 44, 45, 44, 47, 50, 44, 47, 51, 44, 116, 108, 102, 47, 50, 44, 116, 108, 102, 47, 51, 44, 47, 54, 44, 47, 54, 44, 47, 56, 44, 116, 108, 100, 32, 115, 99, 114, 47, 54]⟩ := by
      unfold rowOf
      rw [h11]
      rfl
    rw [hr, show t = ⟨#[82, 84, 65]⟩ from txt_of h11]
    clear hr
    go_enter Tryd.func27, Tryd.ntmps27
    go_wp2
    go_ret
    exact ⟨rfl, rfl⟩
  by_cases h12 : t.toList = [82, 85, 67]
  · have hr : rowOf t = ⟨#[45, 44, 45, 44, 115, 99, 106, 47, 50, 44, 115, 99, 106, 47, 51, 44, 115, 99, 106, 47, 52, 44, 115, 99, 106, 47, 53, 44, 115, 99, 106, 47, 54, 44, 115, 99, 106, 47, 55, 44, 115, 99, 106, 47, 56, 44, 115, 99, 106, 47, 57]⟩ := by
      unfold rowOf
      rw [h12]
      rfl
    rw [hr, show t = ⟨#[82, 85, 67]⟩ from txt_of h12]
    clear hr
    go_enter Tryd.func27, Tryd.ntmps27
    go_wp2
    go_ret
    exact ⟨rfl, rfl⟩
  by_cases h13 : t.toList = [82, 88, 74, 43]
  · have hr : rowOf t = ⟨#[45, 44, 45, 44, 47, 50, 44, 47, 51, 44, 47, 52, 44, 47, 53, 44, 47, 54, 44, 47, 54, 44, 47, 56, 44, 47, 57]⟩ := by
      unfold rowOf
      rw [h13]
      rfl
    rw [hr, show t = ⟨#[82, 88, 74, 43]⟩ from txt_of h13]
    clear hr
    go_enter Tryd.func27, Tryd.ntmps27
    go_wp2
    go_ret
    exact ⟨rfl, rfl⟩
  by_cases h14 : t.toList = [82, 88, 74, 45]
  · have hr : rowOf t = ⟨#[45, 44, 45, 44, 116, 108, 102, 47, 50, 44, 116, 108, 102, 47, 51, 44, 116, 108, 102, 47, 50, 44, 116, 108, 102, 47, 51, 44, 116, 108, 102, 47, 51, 44, 116, 108, 102, 47, 51, 44, 116, 108, 102, 47, 51, 44, 116, 108, 100, 32, 105, 114, 99, 32, 115, 116, 114, 47, 53]⟩ := by
      unfold rowOf
      rw [h14]
      rfl
    rw [hr, show t = ⟨#[82, 88, 74, 45]⟩ from txt_of h14]
    clear hr
    go_enter Tryd.func27, Tryd.ntmps27
    go_wp2
    go_ret
    exact ⟨rfl, rfl⟩
  by_cases h15 : t.toList = [82, 88, 82]
  · have hr : rowOf t = ⟨#[45, 44, 45, 44, 47, 50, 44, 47, 51, 44, 47, 52, 44, 47, 53, 44, 47, 54, 44, 47, 55, 44, 47, 56, 44, 115, 101, 114, 47, 57]⟩ := by
      unfold rowOf
      rw [h15]
      rfl
    rw [hr, show t = ⟨#[82, 88, 82]⟩ from txt_of h15]
    clear hr
    go_enter Tryd.func27, Tryd.ntmps27
    go_wp2
    go_ret
    exact ⟨rfl, rfl⟩
  have e0 : (t.toList == [85, 112]) = false := beq_eq_false_iff_ne.2 h0
  have e1 : (t.toList == [68, 111, 119, 110]) = false := beq_eq_false_iff_ne.2 h1
  have e2 : (t.toList == [79, 112, 101, 110]) = false := beq_eq_false_iff_ne.2 h2
  have e3 : (t.toList == [67, 108, 111, 115, 101]) = false := beq_eq_false_iff_ne.2 h3
  have e4 : (t.toList == [84, 79, 43]) = false := beq_eq_false_iff_ne.2 h4
  have e5 : (t.toList == [84, 79, 45]) = false := beq_eq_false_iff_ne.2 h5
  have e6 : (t.toList == [82, 67, 82, 43]) = false := beq_eq_false_iff_ne.2 h6
  have e7 : (t.toList == [82, 67, 82, 45]) = false := beq_eq_false_iff_ne.2 h7
  have e8 : (t.toList == [82, 67, 65]) = false := beq_eq_false_iff_ne.2 h8
  have e9 : (t.toList == [82, 67, 78]) = false := beq_eq_false_iff_ne.2 h9
  have e10 : (t.toList == [82, 84, 82]) = false := beq_eq_false_iff_ne.2 h10
  have e11 : (t.toList == [82, 84, 65]) = false := beq_eq_false_iff_ne.2 h11
  have e12 : (t.toList == [82, 85, 67]) = false := beq_eq_false_iff_ne.2 h12
  have e13 : (t.toList == [82, 88, 74, 43]) = false := beq_eq_false_iff_ne.2 h13
  have e14 : (t.toList == [82, 88, 74, 45]) = false := beq_eq_false_iff_ne.2 h14
  have e15 : (t.toList == [82, 88, 82]) = false := beq_eq_false_iff_ne.2 h15
  have g0 : ([85, 112] == t.toList) = false := beq_eq_false_iff_ne.2 (Ne.symm h0)
  have g1 : ([68, 111, 119, 110] == t.toList) = false := beq_eq_false_iff_ne.2 (Ne.symm h1)
  have g2 : ([79, 112, 101, 110] == t.toList) = false := beq_eq_false_iff_ne.2 (Ne.symm h2)
  have g3 : ([67, 108, 111, 115, 101] == t.toList) = false := beq_eq_false_iff_ne.2 (Ne.symm h3)
  have g4 : ([84, 79, 43] == t.toList) = false := beq_eq_false_iff_ne.2 (Ne.symm h4)
  have g5 : ([84, 79, 45] == t.toList) = false := beq_eq_false_iff_ne.2 (Ne.symm h5)
  have g6 : ([82, 67, 82, 43] == t.toList) = false := beq_eq_false_iff_ne.2 (Ne.symm h6)
  have g7 : ([82, 67, 82, 45] == t.toList) = false := beq_eq_false_iff_ne.2 (Ne.symm h7)
  have g8 : ([82, 67, 65] == t.toList) = false := beq_eq_false_iff_ne.2 (Ne.symm h8)
  have g9 : ([82, 67, 78] == t.toList) = false := beq_eq_false_iff_ne.2 (Ne.symm h9)
  have g10 : ([82, 84, 82] == t.toList) = false := beq_eq_false_iff_ne.2 (Ne.symm h10)
  have g11 : ([82, 84, 65] == t.toList) = false := beq_eq_false_iff_ne.2 (Ne.symm h11)
  have g12 : ([82, 85, 67] == t.toList) = false := beq_eq_false_iff_ne.2 (Ne.symm h12)
  have g13 : ([82, 88, 74, 43] == t.toList) = false := beq_eq_false_iff_ne.2 (Ne.symm h13)
  have g14 : ([82, 88, 74, 45] == t.toList) = false := beq_eq_false_iff_ne.2 (Ne.symm h14)
  have g15 : ([82, 88, 82] == t.toList) = false := beq_eq_false_iff_ne.2 (Ne.symm h15)
  have hr : rowOf t = ⟨#[]⟩ := by
    unfold rowOf evRow
    simp only [List.find?_cons, g0, g1, g2, g3, g4, g5, g6, g7, g8, g9, g10, g11, g12, g13, g14, g15, List.find?_nil]
    rfl
  rw [hr]
  clear hr g0 g1 g2 g3 g4 g5 g6 g7 g8 g9 g10 g11 g12 g13 g14 g15 h0 h1 h2 h3 h4 h5 h6 h7 h8 h9 h10 h11 h12 h13 h14 h15
  go_enter Tryd.func27, Tryd.ntmps27
  go_wp2
  go_ret
  exact ⟨rfl, rfl⟩
/-- The rows are as a table's are. -/
def okX (x : ByteArray) : Bool := decide (1 ≤ x.size) && decide (x.size ≤ 30) && (decide (48 ≤ (x.data.toList.getLastD 0).toNat) && decide ((x.data.toList.getLastD 0).toNat ≤ 57) || x.data.toList == [45])
def okRow (r : List UInt8) : Bool := decide ((splitOf (txt r) 44).length = 10) && (splitOf (txt r) 44).all okX && decide (1 ≤ r.length) && decide (r.length ≤ 200)
theorem ok_rows : (evRow.all fun x => okRow x.2) = true := by kernel_rfl
theorem rowOf_ok (t : ByteArray) : rowOf t = ⟨#[]⟩ ∨ okRow (rowOf t).data.toList = true := by
  unfold rowOf
  cases h : evRow.find? fun x => x.1 == t.toList with
  | none => left; rfl
  | some x => right; exact List.all_eq_true.1 ok_rows x (List.mem_of_find?_eq_some h)
end Go.Proofs.YtlgbigfdokdgfaaDoor
