/- What the listed variables give the walks of EndHear: the program's two tables, the library's table of blanks, and errors.errorType, as they are laid; and a start in which they lie; no condition. Is a number a byte: the program's and the model's walks; memory stands as it was. Rows of options in memory; are they right: the program's and the model's walks; what lay in memory stands. Two rows of options held against each other by the law; what lay in memory stands. -/
import Derived.Test.YtahpjlbaagkdoaaGreatDoorS02
import Derived.Test.YtahpjlbaagkdoaaGreatDoorS03
import Derived.Test.YtahpjlbaagkdoaaGreatDoorS00
import Derived.Test.YtahpjlbaagkdoaaGreatDoorShW
namespace Go.Proofs.YtahpjlbaagkdoaaGreatDoor
open Go.ChangeShapes Go.WideShapes Go.ChangeAt Go.RowKit
def laidEh : List (String × DataW Unit) := Rows.fnExactEndHearRow.laid
def laidD : List (String × DataW Unit) := [("unicode.White_Space", Rows.laid_unicode_White_Space), ("strings.asciiSpace", Rows.laid_strings_asciiSpace), ("loop.example/g00351/impl.eventNames", Rows.laid_loop_example_g00351_impl_eventNames), ("loop.example/g00351/impl.nextStates", Rows.laid_loop_example_g00351_impl_nextStates)]
theorem tabs_ofE {W : World} (hL : laidMetH Tryz.prog laidEh W) : EvT W ∧ NxT W ∧ SpT W ∧ Et W := by
 have h' : laidMet Tryz.prog laidD W ∧ handlesMet Tryz.prog laidEt W := hL
 obtain ⟨hd, hh⟩ := h'
 refine ⟨evT_of (Lib.laidMet.reads hd (.tail _ (.tail _ (.head _)))), nxT_of (Lib.laidMet.reads hd (.tail _ (.tail _ (.tail _ (.head _))))), spT_of (Lib.laidMet.reads hd (.tail _ (.head _))), et_of (W := W) ?_⟩
 have h2 : laidMet Tryz.prog [] W ∧ handlesMet Tryz.prog laidEt W := ⟨⟨[], rfl, List.nodup_nil, fun _ _ h => by cases h⟩, hh⟩
 exact h2
noncomputable def startEh (os : Os) : World := (startEt os).layVars Tryz.prog laidD
theorem startEh_os (os : Os) : (startEh os).os = os := World.layVars_os _ _ _
set_option maxRecDepth 100000 in
theorem startEh_data (os : Os) : laidMet Tryz.prog laidD (startEh os) := by
 have e1 : (laidD.filter fun x => (laidD.map (·.1)).contains x.1) = laidD := List.filter_eq_self.2 fun x hx => List.contains_iff_mem.2 (List.mem_map.2 ⟨x, hx, rfl⟩)
 have e2 : (laidD.filter fun x => !(laidD.map (·.1)).contains x.1) = [] := List.filter_eq_nil_iff.2 fun x hx => by rw [List.contains_iff_mem.2 (List.mem_map.2 ⟨x, hx, rfl⟩)]; simp
 exact laidMet_layVars (w0 := startEt os) (laidD.map (·.1)) [] (by rw [e1]; rfl) (by rw [e1]; kernel_rfl) (by rw [e1]; kernel_rfl) (by rw [e2]; exact LaidIn.none)
set_option maxRecDepth 100000 in
theorem startEh_met (os : Os) (args : Array Value) : laidMetH Tryz.prog laidEh ((startEh os).forCall (fun _ _ => 0) ⟨#[], args, []⟩).memory := by
 refine laidMetH_of_parts ?_ (by kernel_rfl)
 have h : laidMet Tryz.prog laidD ((startEh os).forCall (fun _ _ => 0) ⟨#[], args, []⟩).memory := (startEh_data os).of_heap (by simp [World.memory, World.forCall, Input.heap])
 exact h
end Go.Proofs.YtahpjlbaagkdoaaGreatDoor
namespace Go.Proofs.YtahpjlbaagkdoaaGreatDoor
open Go.RowKit
set_option maxHeartbeats 400000 in
theorem byteR (x : Int) (w : World) : Calls Tryz.prog 80 #[.int .i64 x] w fun e w' => e = .returned (.bool (decide (0 ≤ x) && decide (x ≤ 255))) ∧ w' = w := by
 by_cases h1 : 0 ≤ x
 ·have d1 : decide ((0 : Int) ≤ x) = true := decide_eq_true h1
  rw [d1, Bool.true_and]
  go_enter Tryz.func80, Tryz.ntmps80
  go_wp2
  go_ret
  exact ⟨rfl, rfl⟩
 ·have d1 : decide ((0 : Int) ≤ x) = false := decide_eq_false h1
  rw [d1, Bool.false_and]
  go_enter Tryz.func80, Tryz.ntmps80
  go_wp2
  go_ret
  exact ⟨rfl, rfl⟩
set_option maxHeartbeats 400000 in
theorem specIs255 (x y : Int) (w : World) : Calls Tryz.prog 72 #[.int .i64 x, .int .i64 y, .int .i64 255] w fun e w' => e = .returned (.bool (decide (y ≤ x) && decide (x ≤ 255))) ∧ w' = w := by
 by_cases h1 : y ≤ x
 ·have d1 : decide (y ≤ x) = true := decide_eq_true h1
  rw [d1, Bool.true_and]
  go_enter Tryz.func72, Tryz.ntmps72
  go_wp2
  go_ret
  exact ⟨rfl, rfl⟩
 ·have d1 : decide (y ≤ x) = false := decide_eq_false h1
  rw [d1, Bool.false_and]
  go_enter Tryz.func72, Tryz.ntmps72
  go_wp2
  go_ret
  exact ⟨rfl, rfl⟩
end Go.Proofs.YtahpjlbaagkdoaaGreatDoor
namespace Go.Proofs.YtahpjlbaagkdoaaGreatDoor
open Go.RowKit
def ocells (fs : List Op.Opt) : List Value := fs.flatMap fun f => [.int .i64 f.kind, .string f.data]
theorem ocells_len (fs : List Op.Opt) : (ocells fs).length = fs.length * 2 := by
 induction fs with
 | nil => rfl
 | cons f fs ih => simp [ocells] at ih ⊢; omega
theorem ocells_append (fs gs : List Op.Opt) : ocells (fs ++ gs) = ocells fs ++ ocells gs := by simp [ocells]
theorem ocells_get (fs : List Op.Opt) (i : Nat) (f : Op.Opt) (h : fs[i]? = some f) : (ocells fs)[i * 2]? = some (.int .i64 f.kind) ∧ (ocells fs)[i * 2 + 1]? = some (.string f.data) := by
 induction fs generalizing i with
 | nil => simp at h
 | cons d fs ih =>
  cases i with
  | zero =>
   simp at h
   subst h
   exact ⟨rfl, rfl⟩
  | succ i =>
   have := ih i (by simpa using h)
   have e : ocells (d :: fs) = .int .i64 d.kind :: .string d.data :: ocells fs := rfl
   rw [e, show (i + 1) * 2 = i * 2 + 2 by omega]
   exact this
theorem oinfo : ∃ i, Tryz.prog.info? 116 = some i ∧ i.zero = some (.agg #[.int .i64 0, .string ⟨#[]⟩]) ∧ i.size = 2 ∧ i.bytes = 24 := by
 have h : (Tryz.prog.info? 116).map (fun i => (i.zero, i.size, i.bytes)) = some (some (.agg #[.int .i64 0, .string ⟨#[]⟩]), 2, 24) := by kernel_rfl
 obtain ⟨i, hi, hzz⟩ := Option.map_eq_some_iff.1 h
 simp only [Prod.mk.injEq] at hzz
 exact ⟨i, hi, hzz.1, hzz.2.1, hzz.2.2⟩
def HoldsO (w : World) (v : Value) (F : List Op.Opt) : Prop :=
 (∃ ad cp, v = .slice ad 0 cp ∧ F = []) ∨ ∃ g cp cur, v = .slice (some ⟨g, 0, none⟩) F.length cp ∧ w.heap[g]? = some (.cells cur 116) ∧ F.length * 2 ≤ cur.size ∧ ∀ j, j < F.length * 2 → cur[j]? = (ocells F)[j]?
theorem HoldsO.own {w : World} {base : Nat} {v : Value} {F : List Op.Opt} (h : w.ownsRow base 116 2 v F.length (ocells F)) : HoldsO w v F := by
 rcases h.2 with ⟨h1, h2⟩ | ⟨g, cap, cur, h1, _, h3, h4, _, h6, h7⟩
 ·exact Or.inl ⟨_, _, h1, List.eq_nil_of_length_eq_zero h2⟩
 ·refine Or.inr ⟨g, cap, cur, h1, h3, by rw [h6]; omega, fun j hj => ?_⟩
  rw [← h7, List.getElem?_take, if_pos hj, Array.getElem?_toList]
theorem HoldsO.below {n : Nat} {w w' : World} {v : Value} {F : List Op.Opt} (h : HoldsO w v F) (hb : Below n w w') (hn : n = w.heap.size) : HoldsO w' v F := by
 subst hn
 exact h.imp id fun ⟨g, cp, cur, h1, h2, h3⟩ => ⟨g, cp, cur, h1, (hb.block g (Array.getElem?_eq_some_iff.1 h2).1).trans h2, h3⟩
theorem HoldsO.form {w : World} {v : Value} {F : List Op.Opt} (h : HoldsO w v F) : ∃ ad cp, v = .slice ad F.length cp := by
 rcases h with ⟨ad, cp, h1, h2⟩ | ⟨g, cp, cur, h1, _⟩
 ·exact ⟨ad, cp, by rw [h1, h2]; rfl⟩
 ·exact ⟨_, _, h1⟩
theorem holdsO_nil (w : World) (ad : Option Addr) (cp : Nat) : HoldsO w (.slice ad 0 cp) [] := Or.inl ⟨ad, cp, rfl, rfl⟩
theorem ok_ways (o : Op.Opt) (P : Prop) (h1 : o.kind < 1 → Op.ok o = false → P) (h2 : 1 ≤ o.kind → 255 < o.kind → Op.ok o = false → P) (h3 : 1 ≤ o.kind → o.kind ≤ 255 → 20 < o.data.size → Op.ok o = false → P)
  (h4 : 1 ≤ o.kind → o.kind ≤ 255 → o.data.size ≤ 20 → Op.ok o = true → P) : P := by
 by_cases a : 1 ≤ o.kind
 ·by_cases b : o.kind ≤ 255
  ·by_cases c : o.data.size ≤ 20
   ·exact h4 a b c (decide_eq_true ⟨a, b, c⟩)
   ·exact h3 a b (by omega) (decide_eq_false (by omega))
  ·exact h2 a (by omega) (decide_eq_false (by omega))
 ·exact h1 (by omega) (decide_eq_false (by omega))
theorem right_false {F : List Op.Opt} {k : Nat} (hk : k < F.length) (h : Op.ok F[k] = false) : Op.right F = false := by
 rw [← Bool.not_eq_true]
 intro hr
 have := Op.right_all hr F[k] (List.getElem_mem hk)
 rw [h] at this
 cases this
theorem right_true {F : List Op.Opt} (hl : F.length ≤ 20) (h : ∀ k (hk : k < F.length), Op.ok F[k] = true) : Op.right F = true := by
 refine Op.right_mk hl fun o ho => ?_
 obtain ⟨k, hk, rfl⟩ := List.getElem_of_mem ho
 exact h k hk
theorem right_long {F : List Op.Opt} (hl : 20 < F.length) : Op.right F = false := by
 rw [← Bool.not_eq_true]
 intro hr
 have := Op.right_len hr
 omega
set_option maxHeartbeats 1000000 in
theorem implRight0 (ad : Option Addr) (cp : Nat) (w : World) : Calls Tryz.prog 112 #[.slice ad 0 cp] w fun e w' => e = .returned (.bool true) ∧ Below w.heap.size w w' := by
 go_enter Tryz.func112, Tryz.ntmps112
 go_wp2_with fail
 go_loopw [10] (fun y wr => y = .int .i64 0 ∧ wr = w) (fun _ _ => 0)
 case atStart => exact ⟨rfl, rfl⟩
 case round =>
  obtain ⟨rfl, rfl⟩ := hrel
  go_wp2
  go_ret
  exact ⟨rfl, Below.refl _ _⟩
set_option maxHeartbeats 2000000 in
theorem implRightG (g cp : Nat) (F : List Op.Opt) (cur : Array Value) (w : World) (hm : F.length ≤ maxLen) (h1 : w.heap[g]? = some (.cells cur 116)) (a1 : ∀ j, j < F.length * 2 → cur[j]? = (ocells F)[j]?) :
  Calls Tryz.prog 112 #[.slice (some ⟨g, 0, none⟩) F.length cp] w fun e w' => e = .returned (.bool (Op.right F)) ∧ Below w.heap.size w w' := by
 unfold maxLen at hm
 have hl1 : g < w.heap.size := (Array.getElem?_eq_some_iff.1 h1).1
 obtain ⟨n, hn⟩ : ∃ n, F.length = n := ⟨_, rfl⟩
 by_cases h20 : 20 < n
 ·have d0 : (20 : Int) < (n : Int) := by omega
  rw [right_long (by omega), hn]
  go_enter Tryz.func112, Tryz.ntmps112
  go_wp2
  go_ret
  exact ⟨rfl, Below.refl _ _⟩
 ·have d0 : ¬ ((20 : Int) < (n : Int)) := by omega
  have HA : Hid (∀ i (hi : i < n), cur[i * 2]? = some (.int .i64 (F[i]'(by omega)).kind) ∧ cur[i * 2 + 1]? = some (.string (F[i]'(by omega)).data)) := by
   refine hide fun i hi => ?_
   have q := ocells_get F i (F[i]'(by omega)) (List.getElem?_eq_getElem (by omega))
   exact ⟨(a1 _ (by omega)).trans q.1, (a1 _ (by omega)).trans q.2⟩
  have HT : Hid ((∀ k (hk : k < n), Op.ok (F[k]'(by omega)) = true) → Op.right F = true) := hide fun h => right_true (by omega) fun k hk => h k (by omega)
  have HF : Hid (∀ k (hk : k < n), Op.ok (F[k]'(by omega)) = false → Op.right F = false) := hide fun k hk h => right_false (by omega) h
  rw [hn]
  clear a1 hm
  generalize Op.right F = RT at *
  go_enter Tryz.func112, Tryz.ntmps112
  go_wp2_with fail
  go_loopw [10] (fun y wr => ∃ (i : Nat), i ≤ n ∧ y = .int .i64 i ∧ (∀ k (hk : k < i) (hkn : k < n), Op.ok (F[k]'(by omega)) = true) ∧ Below w.heap.size w wr) (fun y _ => n - (intOf y).toNat)
  case atStart => exact ⟨0, Nat.zero_le _, rfl, fun k hk => by omega, Below.refl _ _⟩
  case round =>
   obtain ⟨i, hi, rfl, hall, hb⟩ := hrel
   have hbs := hb.size
   by_cases hlt : i < n
   ·have d1 : (i : Int) < (n : Int) := by omega
    obtain ⟨q1, q2⟩ := unhide HA i hlt
    have e1 := (hb.block g hl1).trans h1
    have hf := unhide HF i hlt
    have hall2 : Op.ok (F[i]'(by omega)) = true → ∀ k (hk : k < i + 1) (hkn : k < n), Op.ok (F[k]'(by omega)) = true := by
     intro h k hk hkn
     rcases Nat.lt_or_ge k i with hk2 | hk2
     ·exact hall k hk2 hkn
     ·have : k = i := by omega
      subst this
      exact h
    generalize hO : F[i]'(by omega) = o at *
    have k0 : wr.cell? ⟨g, i * 2, none⟩ = some (.int .i64 o.kind) := by rw [cell_of_row _ _ _ _ _ _ e1]; exact q1
    have k1 : wr.cell? ⟨g, i * 2 + 1, none⟩ = some (.string o.data) := by rw [cell_of_row _ _ _ _ _ _ e1]; exact q2
    have HAL := hide hall2
    have HFF := hide hf
    have C := hide fun v => byteR o.kind v
    obtain ⟨kd, dt⟩ := o
    dsimp only at k0 k1 C
    clear q1 q2 e1 hall hall2 hf hO HA HT HF h1
    refine ok_ways ⟨kd, dt⟩ _ (fun a r => ?_) (fun a b r => ?_) (fun a b c r => ?_) (fun a b c r => ?_)
    all_goals dsimp only at *
    ·have f1 : decide (kd < 1) = true := decide_eq_true a
     have hR := unhide HFF r
     subst hR
     clear HFF HAL r a
     go_wp2
     go_ret
     exact ⟨rfl, hb.alloc hbs _⟩
    ·have f1 : decide (kd < 1) = false := decide_eq_false (by omega)
     have hR := unhide HFF r
     subst hR
     rw [show (decide (0 ≤ kd) && decide (kd ≤ 255)) = false by simp; omega] at C
     clear HFF HAL r a b
     go_wp2_with (first | (go_at_call 80; refine (unhide C _).mono ?_; rintro e w2 ⟨rfl, rfl⟩))
     go_ret
     exact ⟨rfl, hb.alloc hbs _⟩
    ·have f1 : decide (kd < 1) = false := decide_eq_false (by omega)
     have f2 : decide ((20 : Int) < (dt.size : Int)) = true := decide_eq_true (by omega)
     have hR := unhide HFF r
     subst hR
     rw [show (decide (0 ≤ kd) && decide (kd ≤ 255)) = true by simp; omega] at C
     clear HFF HAL r a b c
     go_wp2_with (first | (go_at_call 80; refine (unhide C _).mono ?_; rintro e w2 ⟨rfl, rfl⟩))
     go_ret
     exact ⟨rfl, hb.alloc hbs _⟩
    ·have f1 : decide (kd < 1) = false := decide_eq_false (by omega)
     have f2 : decide ((20 : Int) < (dt.size : Int)) = false := decide_eq_false (by omega)
     have hR := unhide HAL r
     have HR := hide hR
     rw [show (decide (0 ≤ kd) && decide (kd ≤ 255)) = true by simp; omega] at C
     clear HFF HAL r a b c hR
     go_wp2_with (first | (go_at_call 80; refine (unhide C _).mono ?_; rintro e w2 ⟨rfl, rfl⟩))
     go_roundw
     case rel => exact ⟨i + 1, by omega, by go_num, unhide HR, hb.alloc hbs _⟩
     case measure => simp [intOf]; omega
   ·have e : i = n := by omega
    subst e
    have d1 : ¬ ((i : Int) < (i : Int)) := by omega
    have hR := unhide HT fun k hk => hall k hk hk
    subst hR
    go_wp2
    go_ret
    exact ⟨rfl, hb⟩
theorem implRightAll (v : Value) (F : List Op.Opt) (w : World) (hm : F.length ≤ maxLen) (h : HoldsO w v F) :
  Calls Tryz.prog 112 #[v] w fun e w' => e = .returned (.bool (Op.right F)) ∧ Below w.heap.size w w' := by
 rcases h with ⟨ad, cp, rfl, rfl⟩ | ⟨g, cp, cur, rfl, h2, _, h4⟩
 ·exact implRight0 ad cp w
 ·exact implRightG g cp F cur w hm h2 h4
end Go.Proofs.YtahpjlbaagkdoaaGreatDoor
namespace Go.Proofs.YtahpjlbaagkdoaaGreatDoor
open Go.RowKit
set_option maxHeartbeats 400000 in
theorem eqFd (x : Int) (t : ByteArray) (w : World) :
  Calls Tryz.prog 102 #[.agg #[.int .i64 x, .string t], .agg #[.int .i64 x, .string t]] w fun e w' => e = .returned (.bool true) ∧ Below w.heap.size w w' := by
 go_enter Tryz.func102, Tryz.ntmps102
 go_wp2
 go_ret
 exact ⟨rfl, ((Below.refl _ _).alloc (Nat.le_refl _) _).alloc (by simp) _⟩
set_option maxHeartbeats 2000000 in
theorem eqS0 (a1 a2 : Option Addr) (c1 c2 : Nat) (w : World) :
  Calls Tryz.prog 57 #[.slice a1 0 c1, .slice a2 0 c2] w fun e w' => e = .returned (.bool true) ∧ Below w.heap.size w w' := by
 go_enter Tryz.func57, Tryz.ntmps57
 go_wp2_with fail
 go_loopw [5] (fun y wr => y = .int .i64 0 ∧ wr = w) (fun _ _ => 0)
 case atStart => exact ⟨rfl, rfl⟩
 case round =>
  obtain ⟨rfl, rfl⟩ := hrel
  go_wp2
  go_ret
  exact ⟨rfl, Below.refl _ _⟩
set_option maxHeartbeats 2000000 in
theorem eqS1 (g1 g2 c1 c2 : Nat) (F : List Op.Opt) (cur1 cur2 : Array Value) (w : World) (hF : F.length ≤ 2000000) (h1 : w.heap[g1]? = some (.cells cur1 116)) (h2 : w.heap[g2]? = some (.cells cur2 116))
  (a1 : ∀ j, j < F.length * 2 → cur1[j]? = (ocells F)[j]?) (a2 : ∀ j, j < F.length * 2 → cur2[j]? = (ocells F)[j]?) :
  Calls Tryz.prog 57 #[.slice (some ⟨g1, 0, none⟩) F.length c1, .slice (some ⟨g2, 0, none⟩) F.length c2] w fun e w' => e = .returned (.bool true) ∧ Below w.heap.size w w' := by
 have hl1 : g1 < w.heap.size := (Array.getElem?_eq_some_iff.1 h1).1
 have hl2 : g2 < w.heap.size := (Array.getElem?_eq_some_iff.1 h2).1
 obtain ⟨n, hn⟩ : ∃ n, F.length = n := ⟨_, rfl⟩
 have HA : Hid (∀ i, i < n → ∃ x t, cur1[i * 2]? = some (.int .i64 x) ∧ cur1[i * 2 + 1]? = some (.string t) ∧ cur2[i * 2]? = some (.int .i64 x) ∧ cur2[i * 2 + 1]? = some (.string t)) := by
  refine hide fun i hi => ?_
  have g := ocells_get F i (F[i]'(by omega)) (List.getElem?_eq_getElem (by omega))
  exact ⟨_, _, (a1 _ (by omega)).trans g.1, (a1 _ (by omega)).trans g.2, (a2 _ (by omega)).trans g.1, (a2 _ (by omega)).trans g.2⟩
 rw [hn] at hF ⊢
 clear a1 a2 hn
 go_enter Tryz.func57, Tryz.ntmps57
 go_wp2_with fail
 go_loopw [5] (fun y wr => ∃ (i : Nat), i ≤ n ∧ y = .int .i64 i ∧ Below w.heap.size w wr) (fun y _ => n - (intOf y).toNat)
 case atStart => exact ⟨0, Nat.zero_le _, rfl, Below.refl _ _⟩
 case round =>
  obtain ⟨i, hi, rfl, hb⟩ := hrel
  have hbs := hb.size
  by_cases hlt : i < n
  ·have d1 : (i : Int) < (n : Int) := by omega
   obtain ⟨x, t, q1, q2, q3, q4⟩ := unhide HA i hlt
   have e1 := (hb.block g1 hl1).trans h1
   have e2 := (hb.block g2 hl2).trans h2
   have k0 : wr.cell? ⟨g1, i * 2, none⟩ = some (.int .i64 x) := by rw [cell_of_row _ _ _ _ _ _ e1]; exact q1
   have k1 : wr.cell? ⟨g1, i * 2 + 1, none⟩ = some (.string t) := by rw [cell_of_row _ _ _ _ _ _ e1]; exact q2
   have k2 : wr.cell? ⟨g2, i * 2, none⟩ = some (.int .i64 x) := by rw [cell_of_row _ _ _ _ _ _ e2]; exact q3
   have k3 : wr.cell? ⟨g2, i * 2 + 1, none⟩ = some (.string t) := by rw [cell_of_row _ _ _ _ _ _ e2]; exact q4
   have C := hide fun v => eqFd x t v
   clear e1 e2 q1 q2 q3 q4 h1 h2
   go_wp2_with fail
   go_region_with (first
    | (go_at_call 102; refine (unhide C _).mono ?_; rintro e w2 ⟨rfl, hb2⟩))
   all_goals
    go_wp2_with fail
    go_roundw
    case rel => exact ⟨i + 1, by omega, by go_num, hb.trans (((Below.refl _ _).drew.trans hb2).mono hbs)⟩
    case measure => simp [intOf]; omega
  ·have e : i = n := by omega
   subst e
   have d1 : ¬ ((i : Int) < (i : Int)) := by omega
   go_wp2
   go_ret
   exact ⟨rfl, hb⟩
theorem eqS (v1 v2 : Value) (F : List Op.Opt) (w : World) (hF : F.length ≤ 2000000) (h1 : HoldsO w v1 F) (h2 : HoldsO w v2 F) :
  Calls Tryz.prog 57 #[v1, v2] w fun e w' => e = .returned (.bool true) ∧ Below w.heap.size w w' := by
 rcases h1 with ⟨ad1, cp1, rfl, e⟩ | ⟨g1, cp1, cur1, rfl, q1, q2, q3⟩
 ·subst e
  rcases h2 with ⟨ad2, cp2, rfl, _⟩ | ⟨g2, cp2, cur2, rfl, _⟩
  ·exact eqS0 _ _ _ _ w
  ·exact eqS0 _ _ _ _ w
 ·rcases h2 with ⟨ad2, cp2, rfl, e⟩ | ⟨g2, cp2, cur2, rfl, r1, r2, r3⟩
  ·subst e
   exact eqS0 _ _ _ _ w
  ·exact eqS1 g1 g2 cp1 cp2 F cur1 cur2 w hF q1 r1 q3 r3
end Go.Proofs.YtahpjlbaagkdoaaGreatDoor
