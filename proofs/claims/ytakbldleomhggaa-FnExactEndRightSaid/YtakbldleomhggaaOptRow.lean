/- Rows of options in memory; are they right: the program's and the model's walks; what lay in memory stands. -/
import Derived.Test.YtakbldleomhggaaOwnB
import Derived.Test.YtakbldleomhggaaTxt
import Derived.Test.YtakbldleomhggaaBys
import Derived.Test.YtakbldleomhggaaOpt
namespace Go.Proofs.Ytakbldleomhggaa
open Go.RowKit
/-- The cells of options. -/
def ocells (fs : List Op.Opt) : List Value := fs.flatMap fun f => [.int .i64 f.kind, .string f.data]
theorem ocells_len (fs : List Op.Opt) : (ocells fs).length = fs.length * 2 := by
  induction fs with
  | nil => rfl
  | cons f fs ih => simp [ocells] at ih ⊢; omega
theorem ocells_append (fs gs : List Op.Opt) : ocells (fs ++ gs) = ocells fs ++ ocells gs := by simp [ocells]
theorem ocells_get (fs : List Op.Opt) (i : Nat) (f : Op.Opt) (h : fs[i]? = some f) : (ocells fs)[i * 2]? = some (.int .i64 f.kind) ∧ (ocells fs)[i * 2 + 1]? = some (.string f.data) := by
  induction fs generalizing i with
  | nil => simp at h
  | cons d fs ih =>
    cases i with
    | zero =>
      simp at h
      subst h
      exact ⟨rfl, rfl⟩
    | succ i =>
      have := ih i (by simpa using h)
      have e : ocells (d :: fs) = .int .i64 d.kind :: .string d.data :: ocells fs := rfl
      rw [e, show (i + 1) * 2 = i * 2 + 2 by omega]
      exact this
theorem oinfo : ∃ i, Try.prog.info? 66 = some i ∧ i.zero = some (.agg #[.int .i64 0, .string ⟨#[]⟩]) ∧ i.size = 2 ∧ i.bytes = 24 := by
  have h : (Try.prog.info? 66).map (fun i => (i.zero, i.size, i.bytes)) = some (some (.agg #[.int .i64 0, .string ⟨#[]⟩]), 2, 24) := by kernel_rfl
  obtain ⟨i, hi, hzz⟩ := Option.map_eq_some_iff.1 h
  simp only [Prod.mk.injEq] at hzz
  exact ⟨i, hi, hzz.1, hzz.2.1, hzz.2.2⟩
/-- A row of options, of whatever kind: it holds these. -/
def HoldsO (w : World) (v : Value) (F : List Op.Opt) : Prop :=
  (∃ ad cp, v = .slice ad 0 cp ∧ F = []) ∨ ∃ g cp cur, v = .slice (some ⟨g, 0, none⟩) F.length cp ∧ w.heap[g]? = some (.cells cur 66) ∧ F.length * 2 ≤ cur.size ∧ ∀ j, j < F.length * 2 → cur[j]? = (ocells F)[j]?
theorem HoldsO.own {w : World} {base : Nat} {v : Value} {F : List Op.Opt} (h : w.ownsRow base 66 2 v F.length (ocells F)) : HoldsO w v F := by
  rcases h.2 with ⟨h1, h2⟩ | ⟨g, cap, cur, h1, _, h3, h4, _, h6, h7⟩
  · exact Or.inl ⟨_, _, h1, List.eq_nil_of_length_eq_zero h2⟩
  · refine Or.inr ⟨g, cap, cur, h1, h3, by rw [h6]; omega, fun j hj => ?_⟩
    rw [← h7, List.getElem?_take, if_pos hj, Array.getElem?_toList]
theorem HoldsO.below {n : Nat} {w w' : World} {v : Value} {F : List Op.Opt} (h : HoldsO w v F) (hb : Below n w w') (hn : n = w.heap.size) : HoldsO w' v F := by
  subst hn
  exact h.imp id fun ⟨g, cp, cur, h1, h2, h3⟩ => ⟨g, cp, cur, h1, (hb.block g (Array.getElem?_eq_some_iff.1 h2).1).trans h2, h3⟩
theorem HoldsO.form {w : World} {v : Value} {F : List Op.Opt} (h : HoldsO w v F) : ∃ ad cp, v = .slice ad F.length cp := by
  rcases h with ⟨ad, cp, h1, h2⟩ | ⟨g, cp, cur, h1, _⟩
  · exact ⟨ad, cp, by rw [h1, h2]; rfl⟩
  · exact ⟨_, _, h1⟩
theorem holdsO_nil (w : World) (ad : Option Addr) (cp : Nat) : HoldsO w (.slice ad 0 cp) [] := Or.inl ⟨ad, cp, rfl, rfl⟩
/-- The ways of an option: its kind too small, too great, its text too long, or right. -/
theorem ok_ways (o : Op.Opt) (P : Prop) (h1 : o.kind < 1 → Op.ok o = false → P) (h2 : 1 ≤ o.kind → 255 < o.kind → Op.ok o = false → P) (h3 : 1 ≤ o.kind → o.kind ≤ 255 → 20 < o.data.size → Op.ok o = false → P)
    (h4 : 1 ≤ o.kind → o.kind ≤ 255 → o.data.size ≤ 20 → Op.ok o = true → P) : P := by
  by_cases a : 1 ≤ o.kind
  · by_cases b : o.kind ≤ 255
    · by_cases c : o.data.size ≤ 20
      · exact h4 a b c (decide_eq_true ⟨a, b, c⟩)
      · exact h3 a b (by omega) (decide_eq_false (by omega))
    · exact h2 a (by omega) (decide_eq_false (by omega))
  · exact h1 (by omega) (decide_eq_false (by omega))
theorem right_false {F : List Op.Opt} {k : Nat} (hk : k < F.length) (h : Op.ok F[k] = false) : Op.right F = false := by
  rw [← Bool.not_eq_true]
  intro hr
  have := Op.right_all hr F[k] (List.getElem_mem hk)
  rw [h] at this
  cases this
theorem right_true {F : List Op.Opt} (hl : F.length ≤ 20) (h : ∀ k (hk : k < F.length), Op.ok F[k] = true) : Op.right F = true := by
  refine Op.right_mk hl fun o ho => ?_
  obtain ⟨k, hk, rfl⟩ := List.getElem_of_mem ho
  exact h k hk
theorem right_long {F : List Op.Opt} (hl : 20 < F.length) : Op.right F = false := by
  rw [← Bool.not_eq_true]
  intro hr
  have := Op.right_len hr
  omega
set_option maxHeartbeats 1000000 in
theorem implRight0 (ad : Option Addr) (cp : Nat) (w : World) : Calls Try.prog 37 #[.slice ad 0 cp] w fun e w' => e = .returned (.bool true) ∧ Below w.heap.size w w' := by
  go_enter Try.func37, Try.ntmps37
  go_wp2_with fail
  go_loopw [10] (fun y wr => y = .int .i64 0 ∧ wr = w) (fun _ _ => 0)
  case atStart => exact ⟨rfl, rfl⟩
  case round =>
    obtain ⟨rfl, rfl⟩ := hrel
    go_wp2
    go_ret
    exact ⟨rfl, Below.refl _ _⟩
set_option maxHeartbeats 2000000 in
theorem implRightG (g cp : Nat) (F : List Op.Opt) (cur : Array Value) (w : World) (hm : F.length ≤ maxLen) (h1 : w.heap[g]? = some (.cells cur 66)) (a1 : ∀ j, j < F.length * 2 → cur[j]? = (ocells F)[j]?) :
    Calls Try.prog 37 #[.slice (some ⟨g, 0, none⟩) F.length cp] w fun e w' => e = .returned (.bool (Op.right F)) ∧ Below w.heap.size w w' := by
  unfold maxLen at hm
  have hl1 : g < w.heap.size := (Array.getElem?_eq_some_iff.1 h1).1
  obtain ⟨n, hn⟩ : ∃ n, F.length = n := ⟨_, rfl⟩
  by_cases h20 : 20 < n
  · have d0 : (20 : Int) < (n : Int) := by omega
    rw [right_long (by omega), hn]
    go_enter Try.func37, Try.ntmps37
    go_wp2
    go_ret
    exact ⟨rfl, Below.refl _ _⟩
  · have d0 : ¬ ((20 : Int) < (n : Int)) := by omega
    have HA : Hid (∀ i (hi : i < n), cur[i * 2]? = some (.int .i64 (F[i]'(by omega)).kind) ∧ cur[i * 2 + 1]? = some (.string (F[i]'(by omega)).data)) := by
      refine hide fun i hi => ?_
      have q := ocells_get F i (F[i]'(by omega)) (List.getElem?_eq_getElem (by omega))
      exact ⟨(a1 _ (by omega)).trans q.1, (a1 _ (by omega)).trans q.2⟩
    have HT : Hid ((∀ k (hk : k < n), Op.ok (F[k]'(by omega)) = true) → Op.right F = true) := hide fun h => right_true (by omega) fun k hk => h k (by omega)
    have HF : Hid (∀ k (hk : k < n), Op.ok (F[k]'(by omega)) = false → Op.right F = false) := hide fun k hk h => right_false (by omega) h
    rw [hn]
    clear a1 hm
    generalize Op.right F = RT at *
    go_enter Try.func37, Try.ntmps37
    go_wp2_with fail
    go_loopw [10] (fun y wr => ∃ (i : Nat), i ≤ n ∧ y = .int .i64 i ∧ (∀ k (hk : k < i) (hkn : k < n), Op.ok (F[k]'(by omega)) = true) ∧ Below w.heap.size w wr) (fun y _ => n - (intOf y).toNat)
    case atStart => exact ⟨0, Nat.zero_le _, rfl, fun k hk => by omega, Below.refl _ _⟩
    case round =>
      obtain ⟨i, hi, rfl, hall, hb⟩ := hrel
      have hbs := hb.size
      by_cases hlt : i < n
      · have d1 : (i : Int) < (n : Int) := by omega
        obtain ⟨q1, q2⟩ := unhide HA i hlt
        have e1 := (hb.block g hl1).trans h1
        have hf := unhide HF i hlt
        have hall2 : Op.ok (F[i]'(by omega)) = true → ∀ k (hk : k < i + 1) (hkn : k < n), Op.ok (F[k]'(by omega)) = true := by
          intro h k hk hkn
          rcases Nat.lt_or_ge k i with hk2 | hk2
          · exact hall k hk2 hkn
          · have : k = i := by omega
            subst this
            exact h
        generalize hO : F[i]'(by omega) = o at *
        have k0 : wr.cell? ⟨g, i * 2, none⟩ = some (.int .i64 o.kind) := by rw [cell_of_row _ _ _ _ _ _ e1]; exact q1
        have k1 : wr.cell? ⟨g, i * 2 + 1, none⟩ = some (.string o.data) := by rw [cell_of_row _ _ _ _ _ _ e1]; exact q2
        have HAL := hide hall2
        have HFF := hide hf
        have C := hide fun v => byteR o.kind v
        obtain ⟨kd, dt⟩ := o
        dsimp only at k0 k1 C
        clear q1 q2 e1 hall hall2 hf hO HA HT HF h1
        refine ok_ways ⟨kd, dt⟩ _ (fun a r => ?_) (fun a b r => ?_) (fun a b c r => ?_) (fun a b c r => ?_)
        all_goals dsimp only at *
        · have f1 : decide (kd < 1) = true := decide_eq_true a
          have hR := unhide HFF r
          subst hR
          clear HFF HAL r a
          go_wp2
          go_ret
          exact ⟨rfl, hb.alloc hbs _⟩
        · have f1 : decide (kd < 1) = false := decide_eq_false (by omega)
          have hR := unhide HFF r
          subst hR
          rw [show (decide (0 ≤ kd) && decide (kd ≤ 255)) = false by simp; omega] at C
          clear HFF HAL r a b
          go_wp2_with (first | (go_at_call 59; refine (unhide C _).mono ?_; rintro e w2 ⟨rfl, rfl⟩))
          go_ret
          exact ⟨rfl, hb.alloc hbs _⟩
        · have f1 : decide (kd < 1) = false := decide_eq_false (by omega)
          have f2 : decide ((20 : Int) < (dt.size : Int)) = true := decide_eq_true (by omega)
          have hR := unhide HFF r
          subst hR
          rw [show (decide (0 ≤ kd) && decide (kd ≤ 255)) = true by simp; omega] at C
          clear HFF HAL r a b c
          go_wp2_with (first | (go_at_call 59; refine (unhide C _).mono ?_; rintro e w2 ⟨rfl, rfl⟩))
          go_ret
          exact ⟨rfl, hb.alloc hbs _⟩
        · have f1 : decide (kd < 1) = false := decide_eq_false (by omega)
          have f2 : decide ((20 : Int) < (dt.size : Int)) = false := decide_eq_false (by omega)
          have hR := unhide HAL r
          have HR := hide hR
          rw [show (decide (0 ≤ kd) && decide (kd ≤ 255)) = true by simp; omega] at C
          clear HFF HAL r a b c hR
          go_wp2_with (first | (go_at_call 59; refine (unhide C _).mono ?_; rintro e w2 ⟨rfl, rfl⟩))
          go_roundw
          case rel => exact ⟨i + 1, by omega, by go_num, unhide HR, hb.alloc hbs _⟩
          case measure => simp [intOf]; omega
      · have e : i = n := by omega
        subst e
        have d1 : ¬ ((i : Int) < (i : Int)) := by omega
        have hR := unhide HT fun k hk => hall k hk hk
        subst hR
        go_wp2
        go_ret
        exact ⟨rfl, hb⟩
theorem implRightAll (v : Value) (F : List Op.Opt) (w : World) (hm : F.length ≤ maxLen) (h : HoldsO w v F) :
    Calls Try.prog 37 #[v] w fun e w' => e = .returned (.bool (Op.right F)) ∧ Below w.heap.size w w' := by
  rcases h with ⟨ad, cp, rfl, rfl⟩ | ⟨g, cp, cur, rfl, h2, _, h4⟩
  · exact implRight0 ad cp w
  · exact implRightG g cp F cur w hm h2 h4
end Go.Proofs.Ytakbldleomhggaa
